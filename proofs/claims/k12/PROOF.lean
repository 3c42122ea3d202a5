import PyProof.Rows.All
import Wide.All
import OpenK.AllK
import Wide.FinOn
import PyProof.EqAt
import PyProof.EqKinds
import PyProof.TupleCall
import PyProof.DictCompW
import PyProof.WalksMore
import PyProof.MinMaxWalk
import PyProof.DictDisplay
import PyProof.DictWalks
import Lean
import PySem.Challenge.RW_ablehands_k12_whole_by_every_measure
def PySem.W.Fast.tw7411016011969633339 : Nat := 0
def PySem.W.Fast.tw4566133205291585637 : Nat := 0
def PySem.W.Fast.tw12764541639466133392 : Nat := 0
def PySem.W.Fast.tw11656557213919903452 : Nat := 0
def PySem.W.Fast.tw11900065820795260192 : Nat := 0
def PySem.W.Fast.tw7609765815919190957 : Nat := 0
def PySem.W.Fast.tw5533232255639957631 : Nat := 0
def PySem.W.Fast.tw15540717166135478465 : Nat := 0
def PySem.W.Fast.tw9572843141640749438 : Nat := 0
def PySem.W.Fast.tw6252016108174137090 : Nat := 0
def PySem.W.Fast.tw3907950162581007422 : Nat := 0
def PySem.W.Fast.tw17148691351014398246 : Nat := 0
def PySem.W.Fast.tw2572550673203013711 : Nat := 0
def PySem.W.Fast.tw9487719529348646972 : Nat := 0
def PySem.W.Fast.tw8008882119854001073 : Nat := 0
def PySem.W.Fast.tw2556285226462571301 : Nat := 0
def PySem.W.Fast.tw2370041673613835992 : Nat := 0
def PySem.W.Fast.tw9754307956547553058 : Nat := 0
def PySem.W.Fast.tw18441188908656080231 : Nat := 0
def PySem.W.Fast.tw9066048434174698203 : Nat := 0
def PySem.W.Fast.tw13345702546397295582 : Nat := 0
def PySem.W.Fast.tw16817459349565275714 : Nat := 0
def PySem.W.Fast.tw14259630657167701456 : Nat := 0
def PySem.W.Fast.tw3759382309916482097 : Nat := 0
def PySem.W.Fast.tw11129892560374006384 : Nat := 0
def PySem.W.Fast.tw6547578703159205937 : Nat := 0
def PySem.W.Fast.tw17863010628943536926 : Nat := 0
def PySem.W.Fast.tw12985359685514600019 : Nat := 0
def PySem.W.Fast.tw10063601304734924518 : Nat := 0
def PySem.W.Fast.tw1392000304708809129 : Nat := 0
def PySem.W.Fast.tw16243933778277101776 : Nat := 0
def PySem.W.Fast.tw9578517516844443640 : Nat := 0
def PySem.W.Fast.tw808120638638800728 : Nat := 0
def PySem.W.Fast.tw2080163895716576086 : Nat := 0
def PySem.W.Fast.tw17583498492354975138 : Nat := 0
def PySem.W.Fast.tw9331615577198954519 : Nat := 0
def PySem.W.Fast.tw3488361893607658275 : Nat := 0
def PySem.W.Fast.tw6306873074138337136 : Nat := 0
def PySem.W.Fast.tw1696986489677594147 : Nat := 0
def PySem.W.Fast.tw5244977275359642616 : Nat := 0
def PySem.W.Fast.tw1507927333902307349 : Nat := 0
def PySem.W.Fast.tw850833339235776163 : Nat := 0
def PySem.W.Fast.tw16869811551204502638 : Nat := 0
def PySem.W.Fast.tw12926724794065063012 : Nat := 0
def PySem.W.Fast.tw7241115758228958879 : Nat := 0
def PySem.W.Fast.tw785183063272832715 : Nat := 0
def PySem.W.Fast.tw12811246313029534415 : Nat := 0
def PySem.W.Fast.tw7637001076328328466 : Nat := 0
def PySem.W.Fast.tw13142724916507585731 : Nat := 0
def PySem.W.Fast.tw9822393896536675619 : Nat := 0
def PySem.W.Fast.tw4113877539976411046 : Nat := 0
def PySem.W.Fast.tw1364250868388113359 : Nat := 0
def PySem.W.Fast.tw8636447561202165333 : Nat := 0
def PySem.W.Fast.tw9870680566165120208 : Nat := 0
def PySem.W.Fast.tw8180752881815751918 : Nat := 0
def PySem.W.Fast.tw3277958522423409827 : Nat := 0
def PySem.W.Fast.tw16422534918554150840 : Nat := 0
def PySem.W.Fast.tw18016574903311972156 : Nat := 0
def PySem.W.Fast.tw8759496514543374020 : Nat := 0
def PySem.W.Fast.tw10232723146834831123 : Nat := 0
def PySem.W.Fast.tw4911040530886096685 : Nat := 0
def PySem.W.Fast.tw10430680086495863237 : Nat := 0
def PySem.W.Fast.tw12677262850763188798 : Nat := 0
def PySem.W.Fast.tw37625475970926927 : Nat := 0
def PySem.W.Fast.tw2201399473423056976 : Nat := 0
def PySem.W.Fast.tw18142208541088998590 : Nat := 0
def PySem.W.Fast.tw17323937706271581490 : Nat := 0
def PySem.W.Fast.tw12526693052037738660 : Nat := 0
def PySem.W.Fast.tw5805728390670521530 : Nat := 0
def PySem.W.Fast.tw9487210141460359139 : Nat := 0
def PySem.W.Fast.tw4262170946049552921 : Nat := 0
def PySem.W.Fast.tw7311104688226965993 : Nat := 0
def PySem.W.Fast.tw14881609139731141712 : Nat := 0
def PySem.W.Fast.tw9419664779990326979 : Nat := 0
def PySem.W.Fast.tw7592951394629534168 : Nat := 0
def PySem.W.Fast.tw10469739945663406691 : Nat := 0
def PySem.W.Fast.tw10450690016213663962 : Nat := 0
def PySem.W.Fast.tw7521241598681709162 : Nat := 0
def PySem.W.Fast.tw7313875751609887541 : Nat := 0
def PySem.W.Fast.tw16421611777265235339 : Nat := 0
def PySem.W.Fast.tw3356041100696120013 : Nat := 0
def PySem.W.Fast.tw4679550552147284792 : Nat := 0
def PySem.W.Fast.tw16950480584865256246 : Nat := 0
def PySem.W.Fast.tw4229119153661190161 : Nat := 0
def PySem.W.Fast.tw5528478084842463417 : Nat := 0
def PySem.W.Fast.tw7044794247398282975 : Nat := 0
def PySem.W.Fast.tw2115660489875912109 : Nat := 0
def PySem.W.Fast.tw17008803470494589845 : Nat := 0
def PySem.W.Fast.tw11735891418134447021 : Nat := 0
def PySem.W.Fast.tw2832151731844232316 : Nat := 0
def PySem.W.Fast.tw16168488094798591624 : Nat := 0
def PySem.W.Fast.tw11322914498386984164 : Nat := 0
def PySem.W.Fast.tw8812970542601234977 : Nat := 0
def PySem.W.Fast.tw2828478309019999265 : Nat := 0
def PySem.W.Fast.tw2533669925832881258 : Nat := 0
def PySem.W.Fast.tw3134907503587021412 : Nat := 0
def PySem.W.Fast.tw8741599220665745345 : Nat := 0
def PySem.W.Fast.tw14051772555538969230 : Nat := 0
def PySem.W.Fast.tw3854163261273600212 : Nat := 0
def PySem.W.Fast.tw14605332375342549371 : Nat := 0
def PySem.W.Fast.tw12772969122228313775 : Nat := 0
def PySem.W.Fast.tw981405764639146808 : Nat := 0
def PySem.W.Fast.tw17303878871130512693 : Nat := 0
def PySem.W.Fast.tw15261603016551033861 : Nat := 0
def PySem.W.Fast.tw8577581505359020533 : Nat := 0
def PySem.W.Fast.tw8499611190392688953 : Nat := 0
def PySem.W.Fast.tw819980444306753222 : Nat := 0
def PySem.W.Fast.tw14278453020846141296 : Nat := 0
def PySem.W.Fast.tw10751543533858662076 : Nat := 0
def PySem.W.Fast.tw10229959898669013729 : Nat := 0
def PySem.W.Fast.tw1215493832906177920 : Nat := 0
def PySem.W.Fast.tw4653252812442600268 : Nat := 0
def PySem.W.Fast.tw16006295021922517374 : Nat := 0
def PySem.W.Fast.tw10928504430977708862 : Nat := 0
def PySem.W.Fast.tw12349555870803442905 : Nat := 0
def PySem.W.Fast.tw6701280608976210039 : Nat := 0
def PySem.W.Fast.tw1943287239196023017 : Nat := 0
def PySem.W.Fast.tw13404043122902788466 : Nat := 0
def PySem.W.Fast.tw6034124861091046551 : Nat := 0
def PySem.W.Fast.tw2446149497099015901 : Nat := 0
def PySem.W.Fast.tw16570913816078556712 : Nat := 0
def PySem.W.Fast.tw11644865503714474859 : Nat := 0
def PySem.W.Fast.tw3338003873265675503 : Nat := 0
set_option Elab.async false
set_option linter.all false
set_option maxRecDepth 100000
namespace L2
open PySem PySem.Spec PyProof.Rows
abbrev Key := Sum Int Str
def pY : Key -> Value -> Bool
  | .inl k, v => Value.isInt k v
  | .inr x, v => Value.isStrOf x v
def aD1 (w : World) : Key -> Int
  | .inl k => hashInt k
  | .inr x => hashStr w x
theorem cB : ∀ {k : Key} {v : Value}, pY k v = true -> (∃ i t, k = Sum.inl i /\ v = Value.int i t) ∨ (∃ x t, k = Sum.inr x /\ v = Value.str x t)
  | .inl i, v, h => by
    obtain ⟨t, e⟩ := Value.isInt_shape (k := i) (v := v) h
    exact .inl ⟨i, t, rfl, e⟩
  | .inr x, v, h => by
    obtain ⟨t, e⟩ := Value.isStrOf_shape (x := x) (v := v) h
    exact .inr ⟨x, t, rfl, e⟩
theorem yY (i : Int) (t : Tok) : pY (.inl i) (.int i t) = true := by simp [pY, Value.isInt]
theorem yZ (x : Str) (t : Tok) : pY (.inr x) (.str x t) = true := by simp [pY, Value.isStrOf]
theorem aCG (a b : Int) : decide ((Sum.inl a : Key) = Sum.inl b) = (a == b) := by
  by_cases e : a = b
  · subst e; simp
  · have h : ¬ (Sum.inl a : Key) = Sum.inl b := fun q => e (Sum.inl.inj q)
    rw [decide_eq_false h]
    exact (beq_eq_false_iff_ne.mpr e).symm
theorem aCH (a b : Str) : decide ((Sum.inr a : Key) = Sum.inr b) = decide (a = b) := by
  by_cases e : a = b
  · subst e; simp
  · have h : ¬ (Sum.inr a : Key) = Sum.inr b := fun q => e (Sum.inr.inj q)
    rw [decide_eq_false h, decide_eq_false e]
theorem aCI (a : Int) (b : Str) : decide ((Sum.inl a : Key) = Sum.inr b) = false := decide_eq_false (fun q => nomatch q)
theorem aCJ (a : Str) (b : Int) : decide ((Sum.inr a : Key) = Sum.inl b) = false := decide_eq_false (fun q => nomatch q)
def bY (prog : Program) (w : World) : PySem.KeyKind prog w Key where
  is := pY
  hash := aD1 w
  inj := fun v a b ha hb => by
    rcases cB ha with ⟨i, t, rfl, rfl⟩ | ⟨x, t, rfl, rfl⟩
    · rcases cB hb with ⟨j, u, rfl, e⟩ | ⟨y, u, rfl, e⟩
      · injection e with e1 _; rw [e1]
      · exact nomatch e
    · rcases cB hb with ⟨j, u, rfl, e⟩ | ⟨y, u, rfl, e⟩
      · exact nomatch e
      · injection e with e1 _; rw [e1]
  byValue := fun k v h => by
    rcases cB h with ⟨i, t, rfl, rfl⟩ | ⟨x, t, rfl, rfl⟩ <;> rfl
  pyHash := fun hv h => by
    rcases cB hv with ⟨i, t, rfl, rfl⟩ | ⟨x, t, rfl, rfl⟩
    · exact wpAny_pyHash_int h
    · exact wpAny_pyHash_str h
  eqBool := fun hu hv h => by
    rcases cB hu with ⟨i, t, rfl, rfl⟩ | ⟨x, t, rfl, rfl⟩
    · rcases cB hv with ⟨j, u, rfl, rfl⟩ | ⟨y, u, rfl, rfl⟩
      · rw [aCG] at h; exact wpAny_eqBool_int h
      · rw [aCI] at h; exact SeqAt.EqAt.int_str i t y u _ _ _ _ h
    · rcases cB hv with ⟨j, u, rfl, rfl⟩ | ⟨y, u, rfl, rfl⟩
      · rw [aCJ] at h; exact SeqAt.EqAt.str_int x t j u _ _ _ _ h
      · rw [aCH] at h; exact wpAny_eqBool_str h
  «strs» := fun k x t v h => by
    rcases cB h with ⟨i, u, rfl, e⟩ | ⟨y, u, rfl, e⟩
    · exact nomatch e
    · injection e with e1 _
      subst e1
      cases v <;> rfl
theorem tH (prog : Program) (w : World) (i : Int) (t : Tok) : (bY prog w).is (.inl i) (.int i t) = true := yY i t
theorem tI (prog : Program) (w : World) (x : Str) (t : Tok) : (bY prog w).is (.inr x) (.str x t) = true := yZ x t
end L2
namespace L2
open PySem PySem.Spec PyProof.Rows
inductive V where
  | non | bl (b : Bool) | int (i : Int) | str (x : Str) | byt (b : Array UInt8) | flt (b : UInt64) | ref (a : Addr) | ty (n : String)
  deriving DecidableEq
def bE : V -> Value -> Prop
  | .non, u => u = Value.none
  | .bl b, u => u = Value.bool b
  | .int i, u => ∃ t, u = Value.int i t
  | .str x, u => ∃ t, u = Value.str x t
  | .byt b, u => ∃ t, u = Value.bytes b t
  | .flt b, u => ∃ t, u = Value.float b t
  | .ref a, u => u = Value.ref a
  | .ty n, u => u = Value.type n
abbrev bB : List V -> List Value -> Prop := Paired bE
theorem bB.length {xs : List V} {us : List Value} (r : bB xs us) : xs.length = us.length := Paired.length r
theorem bB.get : ∀ {xs : List V} {us : List Value} {i : Nat} {x : V}, bB xs us -> xs[i]? = some x -> ∃ u, us[i]? = some u /\ bE x u
  | _, _, _, _, .nil, e => by simp at e
  | _, _, 0, _, .cons r _, e => by simp at e; subst e; exact ⟨_, rfl, r⟩
  | _, _, i + 1, x, .cons _ t, e => by
    obtain ⟨u, h1, h2⟩ := bB.get (i := i) (x := x) t (by simpa using e)
    exact ⟨u, by simpa using h1, h2⟩
theorem bB.set {x : V} {u : Value} (r : bE x u) : ∀ {xs : List V} {us : List Value} (i : Nat), bB xs us -> bB (xs.set i x) (us.set i u)
  | _, _, _, .nil => .nil
  | _, _, 0, .cons _ t => .cons r t
  | _, _, i + 1, .cons q t => .cons q (bB.set r i t)
theorem bB.append : ∀ {xs ys : List V} {us ws : List Value}, bB xs us -> bB ys ws -> bB (xs ++ ys) (us ++ ws)
  := by
  intro xs ys us ws h s
  induction h with
  | nil => exact s
  | cons r t ih => exact .cons r ih
theorem bB.take : ∀ {xs : List V} {us : List Value} (n : Nat), bB xs us -> bB (xs.take n) (us.take n)
  | _, _, 0, _ => .nil
  | _, _, _ + 1, .nil => .nil
  | _, _, n + 1, .cons r t => .cons r (bB.take n t)
theorem bB.drop : ∀ {xs : List V} {us : List Value} (n : Nat), bB xs us -> bB (xs.drop n) (us.drop n)
  | _, _, 0, r => r
  | _, _, _ + 1, .nil => .nil
  | _, _, n + 1, .cons _ t => bB.drop n t
def mZ : Option V -> Option Value -> Prop
  | some v, some u => bE v u
  | none, none => True
  | _, _ => False
def KV {κ : Type} : List (κ × V) -> List (κ × Value) -> Prop := Paired fun (p : κ × V) (q : κ × Value) => p.1 = q.1 /\ bE p.2 q.2
def kV : Key -> V
  | .inl i => .int i
  | .inr x => .str x
inductive HO where
  /-- a list -/
  | lst (xs : List V)
  /-- a tuple (never changes) -/
  | tup (xs : List V)
  /-- a dict whose keys are ints and texts; one whose keys are tuples of ints and texts (the empty one is both) -/
  | dK (kvs : List (Key × V)) | dT (kvs : List (List Key × V))
  /-- a set of ints: its members, its size -/
  | set (S : Int -> Bool) (n : Nat)
  /-- an instance of the class at C, its dict at dx, its attributes -/
  | ins (C dx : Addr) (fs : List (Str × V))
  /-- the dict of the instance at x -/
  | own (x : Addr)
  /-- the dict of an exception -/
  | xd (fs : List (Str × V))
  /-- a bound method, f of x -/
  | met (f x : Addr)
  /-- a range object lo, lo + 1, .. below hi -/
  | rng (lo hi : Int)
  /-- a thing that is known to the object (the script; a dict while a loop walks it): read, never written while it is so -/
  | frz (o : Obj) (u : HO)
  /-- a code object's table -/
  | tbl (ps : Array Value)
  /-- a code object's table, all of whose codes have the name q; they are tracked as its own -/
  | tab (q : Str)
  /-- any other thing, by what is true of its one object (a def of one's own: aC5 a S n := HO.ext fun h => ..) -/
  | ext (φ : Heap -> Prop)
abbrev Hp := Addr -> Option HO
def upd (H : Hp) (a : Addr) (o : HO) : Hp := fun b => if b = a then some o else H b
theorem aB {H : Hp} {a : Addr} {o : HO} : upd H a o a = some o := by unfold upd; rw [if_pos rfl]
theorem aI {H : Hp} {a b : Addr} {o : HO} (h : b ≠ a) : upd H a o b = H b := by unfold upd; rw [if_neg h]
theorem aBK {H : Hp} {a : Addr} {o u : HO} : upd (upd H a o) a u = upd H a u := by
  funext b; unfold upd; split <;> rfl
theorem aDq {H : Hp} {a b : Addr} {o u : HO} (h : H a = some o) (h' : H b = some u) (d : o ≠ u) : a ≠ b := by
  intro e; subst e; rw [h] at h'; exact d (Option.some.inj h')
theorem fQ {H : Hp} {a b : Addr} {o : HO} (h : H a = some o) (h' : H b = none) : a ≠ b := by
  intro e; subst e; rw [h] at h'; cases h'
section
variable (P : Program) (w : World)
def bO (H : Hp) (h : Heap) (a : Addr) : HO -> Prop
  | .lst xs => xs.length <= sizeLine /\ ∃ (its : List Value) (n : Nat), bB xs its /\ h.get? a = some { cls := .type "list", data := .seq its.toArray n }
  | .tup xs => xs.length <= sizeLine /\ ∃ (its : List Value) (n : Nat), bB xs its /\ h.get? a = some { cls := .type "tuple", data := .seq its.toArray n }
  | .dK kvs => kvs.length <= sizeLine /\ (a == sysModules) = false /\ ∃ vs, KV kvs vs /\ h.DictOf (bY P w) a vs
  | .dT kvs => kvs.length <= sizeLine /\ (a == sysModules) = false /\ ∃ xs : List (List Key × Addr × Value),
      Paired (fun (p : List Key × V) (q : List Key × Addr × Value) => p.1 = q.1 /\ H q.2.1 = some (.tup (p.1.map kV)) /\ bE p.2 q.2.2) kvs xs /\
      ∃ o es ep, h.get? a = some o /\ o.ExactDict /\ o.data = .dict es ep /\ es.toList = xs.map (entryOfKey (tupleKind (bY P w))) /\ (xs.map (·.1)).Nodup
  | .set S n => h.SetOf (intKind P w) a S n
  | .ins C dx fs => H dx = some (.own a) /\ fs.length <= 1000 /\ dx ≠ a /\ h.get? a = some (PySem.W.instObj C dx) /\
      ∃ mA, h.Ns1 dx mA /\ (∀ f, mZ (fs.lookup f) (mA f)) /\ PySem.Within mA (fs.map (·.1))
  | .own _ => ∃ o, h.get? a = some o
  | .xd fs => ∃ mA, h.Ns1 a mA /\ ∀ f, mZ (fs.lookup f) (mA f)
  | .rng lo hi => ∃ t u v, h.get? a = some { cls := .type "range", data := .fields #[.int lo t, .int hi u, .int 1 v] }
  | .frz o u => h.get? a = some o /\ bO H h a u
  | .tbl ps => h.get? a = some { cls := .none, data := .fields ps }
  | .tab q => ∃ ps : Array Value, h.get? a = some { cls := .none, data := .fields ps } /\ TriplesOk ps.toList /\ ∀ (pos : Pos) (cv : Value), codeAmong pos ps.toList = some cv -> ∃ (c : Addr) (o : Obj) (vs : Array Value) (t : Tok), cv = .ref c /\ H c = some (.own a) /\ h.get? c = some o /\ o.data = .fields vs /\ vs[1]? = some (.str q t)
  | .met f x => h.get? a = some (PySem.W.methodObj (.ref f) (.ref x))
  | .ext φ => φ h /\ (∃ o, h.get? a = some o) /\ ∀ h1 h2 : Heap, φ h1 -> (∀ o, h1.get? a = some o -> h2.get? a = some o) -> φ h2
def HOk (H : Hp) (h : Heap) : Prop := ∀ a o, H a = some o -> bO P w H h a o
end
section
variable {P : Program} {w : World} {H H' : Hp} {h h' : Heap} {a : Addr} {o : HO}
theorem bO.lt (x : bO P w H h a o) : a < h.objs.size := by
  cases o with
  | lst xs => obtain ⟨_, _, _, _, e⟩ := x; exact Heap.lt_size e
  | tup xs => obtain ⟨_, _, _, _, e⟩ := x; exact Heap.lt_size e
  | dK kvs => obtain ⟨_, _, _, _, o, _, _, e, _⟩ := x; exact Heap.lt_size e
  | dT kvs => obtain ⟨_, _, _, _, o, _, _, e, _⟩ := x; exact Heap.lt_size e
  | set S n => obtain ⟨o, _, _, _, e, _⟩ := x; exact Heap.lt_size e
  | ins C dx fs => obtain ⟨_, _, _, e, _⟩ := x; exact Heap.lt_size e
  | own y => obtain ⟨_, e⟩ := x; exact Heap.lt_size e
  | xd fs => obtain ⟨_, ⟨_, _, _, e, _⟩, _⟩ := x; exact Heap.lt_size e
  | rng lo hi => obtain ⟨_, _, _, e⟩ := x; exact Heap.lt_size e
  | frz ob u => obtain ⟨e, _⟩ := x; exact Heap.lt_size e
  | tbl ps => exact Heap.lt_size (show h.get? a = some _ from x)
  | tab q => obtain ⟨_, e, _⟩ := x; exact Heap.lt_size e
  | met f y => exact Heap.lt_size (show h.get? a = some _ from x)
  | ext φ => obtain ⟨_, ⟨_, e⟩, _⟩ := x; exact Heap.lt_size e
theorem Paired.mapP {α β : Type} {F G : α -> β -> Prop} : ∀ {l₁ : List α} {l₂ : List β}, Paired F l₁ l₂ -> (∀ a b, F a b -> G a b) -> Paired G l₁ l₂
  := by
  intro l₁ l₂ h f
  induction h with
  | nil => exact .nil
  | cons r t ih => exact .cons (f _ _ r) ih
theorem bO.stay (x : bO P w H h a o) (k : ∀ b u, (b = a ∨ H b = some (.own a)) -> h.get? b = some u -> h'.get? b = some u)
    (ho : ∀ b, H b = some (.own a) -> H' b = some (.own a)) (ht : ∀ b xs, H b = some (.tup xs) -> H' b = some (.tup xs)) : bO P w H' h' a o := by
  induction o with
  | lst xs => obtain ⟨z, its, n, r, e⟩ := x; exact ⟨z, its, n, r, k _ _ (.inl rfl) e⟩
  | tup xs => obtain ⟨z, its, n, r, e⟩ := x; exact ⟨z, its, n, r, k _ _ (.inl rfl) e⟩
  | dK kvs => obtain ⟨z, y, vs, r, ob, es, ep, e, c⟩ := x; exact ⟨z, y, vs, r, ob, es, ep, k _ _ (.inl rfl) e, c⟩
  | dT kvs =>
    obtain ⟨z, y, xs, r, ob, es, ep, e, c⟩ := x
    exact ⟨z, y, xs, Paired.mapP r fun p q z => ⟨z.1, ht _ _ z.2.1, z.2.2⟩, ob, es, ep, k _ _ (.inl rfl) e, c⟩
  | set S n => obtain ⟨ob, es, ep, t, e, c⟩ := x; exact ⟨ob, es, ep, t, k _ _ (.inl rfl) e, c⟩
  | ins C dx fs =>
    obtain ⟨d, z, ne, e, mA, ⟨od, es, ep, e2, c⟩, r⟩ := x
    exact ⟨ho _ d, z, ne, k _ _ (.inl rfl) e, mA, ⟨od, es, ep, k _ _ (.inr d) e2, c⟩, r⟩
  | own y => obtain ⟨ob, e⟩ := x; exact ⟨ob, k _ _ (.inl rfl) e⟩
  | xd fs => obtain ⟨mA, ⟨od, es, ep, e, c⟩, r⟩ := x; exact ⟨mA, ⟨od, es, ep, k _ _ (.inl rfl) e, c⟩, r⟩
  | rng lo hi => obtain ⟨t, u, v, e⟩ := x; exact ⟨t, u, v, k _ _ (.inl rfl) e⟩
  | frz ob u ih => obtain ⟨e, q⟩ := x; exact ⟨k _ _ (.inl rfl) e, ih q⟩
  | tbl ps =>
    have e : h.get? a = some { cls := .none, data := .fields ps } := x
    show h'.get? a = some { cls := .none, data := .fields ps }
    exact k a _ (.inl rfl) e
  | tab q =>
    obtain ⟨ps, e, z, r⟩ := x
    refine ⟨ps, k _ _ (.inl rfl) e, z, fun pos cv q => ?_⟩
    obtain ⟨c, o, vs, t, r1, r2, r3, r4⟩ := r pos cv q
    exact ⟨c, o, vs, t, r1, ho _ r2, k _ _ (.inr r2) r3, r4⟩
  | met f y =>
    have e : h.get? a = some (PySem.W.methodObj (.ref f) (.ref y)) := x
    show h'.get? a = some (PySem.W.methodObj (.ref f) (.ref y))
    exact k a _ (.inl rfl) e
  | ext φ => obtain ⟨p, ⟨o, e⟩, st⟩ := x; exact ⟨st _ _ p fun o q => k _ _ (.inl rfl) q, ⟨o, k _ _ (.inl rfl) e⟩, st⟩
theorem HOk.lt (x : HOk P w H h) (e : H a = some o) : a < h.objs.size := (x a o e).lt
theorem HOk.fresh (x : HOk P w H h) (e : h.objs.size <= a) : H a = none := by
  cases q : H a with
  | none => rfl
  | some u => exact absurd (Nat.lt_of_lt_of_le (x.lt q) e) (Nat.lt_irrefl _)
theorem HOk.kept (x : HOk P w H h) (k : ∀ b u, h.get? b = some u -> h'.get? b = some u) : HOk P w H h' := fun a o e =>
  (x a o e).stay (fun b u _ q => k b u q) (fun _ q => q) fun _ _ q => q
theorem HOk.laid (x : HOk P w H h) (k : ∀ b u, h.get? b = some u -> h'.get? b = some u) (hp : h.objs.size <= a) (new : bO P w (upd H a o) h' a o) : HOk P w (upd H a o) h' := fun b u e => by
  have hn := x.fresh hp
  by_cases hb : b = a
  · subst hb; rw [aB] at e; cases e; exact new
  · rw [aI hb] at e
    exact (x b u e).stay (fun c v _ q => k c v q) (fun c q => by rw [aI (fQ q hn)]; exact q) fun c xs q => by rw [aI (fQ q hn)]; exact q
end
def Rd (H : Hp) (a : Addr) (u : HO) : Prop := H a = some u ∨ ∃ o, H a = some (.frz o u)
theorem Rd.of {H : Hp} {a : Addr} {u : HO} (h : H a = some u) : Rd H a u := .inl h
theorem Rd.ok {P : Program} {w : World} {H : Hp} {h : Heap} {a : Addr} {u : HO} (r : Rd H a u) (x : HOk P w H h) : bO P w H h a u := by
  rcases r with r | ⟨o, r⟩
  · exact x a u r
  · obtain ⟨_, q⟩ := x a _ r
    exact q
def Mut : Option HO -> Prop
  | some (.lst _) => True
  | some (.dK _) => True
  | some (.dT _) => True
  | some (.set _ _) => True
  | some (.ins _ _ _) => True
  | some (.ext _) => True
  | some (.tab _) => True
  | _ => False
section
variable {P : Program} {w : World} {H : Hp} {h h' : Heap} {x e : Addr} {o' : HO}
theorem HOk.write (ok : HOk P w H h) (mu : Mut (H x)) (he : e = x ∨ H e = some (.own x)) (k : ∀ b u, b ≠ e -> h.get? b = some u -> h'.get? b = some u) (heo : ∃ u, h'.get? e = some u)
    (new : bO P w (upd H x o') h' x o') : HOk P w (upd H x o') h' := fun b u q => by
  have nown : ∀ c y, H c = some (.own y) -> c ≠ x := fun c y r z => by subst z; rw [r] at mu; exact mu
  have ntup : ∀ c xs, H c = some (.tup xs) -> c ≠ x := fun c xs r z => by subst z; rw [r] at mu; exact mu
  by_cases hb : b = x
  · subst hb; rw [aB] at q; cases q; exact new
  · rw [aI hb] at q
    by_cases hbe : b = e
    · have q' : H b = some (.own x) := by
        rcases he with z | z
        · exact absurd (hbe.trans z) hb
        · rw [hbe]; exact z
      rw [q] at q'; cases q'
      obtain ⟨v, hv⟩ := heo
      exact ⟨v, by rw [hbe]; exact hv⟩
    · refine (ok b u q).stay (fun c v hc r => k c v ?_ r) (fun c r => by rw [aI (nown c b r)]; exact r) fun c xs r => by rw [aI (ntup c xs r)]; exact r
      rcases hc with rfl | hc
      · exact hbe
      · rintro rfl
        rcases he with z | z
        · exact nown c b hc z
        · rw [hc] at z; cases z; exact hb rfl
end
structure Un (fs ex : List Addr) (H H' : Hp) (h h' : Heap) : Prop where
  keep : ∀ b o, h.get? b = some o -> H b = none -> b ∉ fs -> b ∉ ex -> h'.get? b = some o
  slot : ∀ b o, h.get? b = some o -> H b = none -> b ∈ fs -> b ∉ ex -> ∃ sl, h'.get? b = some { o with slots := sl }
  free : ∀ b o, h.get? b = some o -> H b = none -> b ∉ ex -> H' b = none
  there : ∀ b o, h.get? b = some o -> b ∉ ex -> ∃ o', h'.get? b = some o'
  tups : ∀ b xs, H b = some (.tup xs) -> H' b = some (.tup xs)
  frzs : ∀ b o u, H b = some (.frz o u) -> H' b = some (.frz o u)
  tbls : ∀ b ps, H b = some (.tbl ps) -> ∃ more, H' b = some (.tbl (ps ++ more))
section
variable {fs fs' ex ex' : List Addr} {H H1 H2 : Hp} {h h1 h2 h' : Heap} {a x e : Addr} {o : HO}
theorem Un.any (u : Un fs ex H H1 h h1) {b : Addr} {ob : Obj} (q : h.get? b = some ob) (n : H b = none) (hx : b ∉ ex) : ∃ sl, h1.get? b = some { ob with slots := sl } := by
  by_cases hb : b ∈ fs
  · exact u.slot b ob q n hb hx
  · exact ⟨ob.slots, u.keep b ob q n hb hx⟩
theorem Un.trans (a : Un fs ex H H1 h h1) (b : Un fs ex H1 H2 h1 h2) : Un fs ex H H2 h h2 where
  keep := fun c ob q n hc hx => b.keep c ob (a.keep c ob q n hc hx) (a.free c ob q n hx) hc hx
  slot := fun c ob q n hc hx => by
    obtain ⟨sl, e1⟩ := a.slot c ob q n hc hx
    obtain ⟨sl', e2⟩ := b.slot c _ e1 (a.free c ob q n hx) hc hx
    exact ⟨sl', e2⟩
  free := fun c ob q n hx => by
    obtain ⟨o', e1⟩ := a.there c ob q hx
    exact b.free c o' e1 (a.free c ob q n hx) hx
  there := fun c ob q hx => by
    obtain ⟨o', e1⟩ := a.there c ob q hx
    exact b.there c o' e1 hx
  tups := fun c xs q => b.tups c xs (a.tups c xs q)
  frzs := fun c ob xs q => b.frzs c ob xs (a.frzs c ob xs q)
  tbls := fun c ps q => by
    obtain ⟨m1, e1⟩ := a.tbls c ps q
    obtain ⟨m2, e2⟩ := b.tbls c _ e1
    exact ⟨m1 ++ m2, by rw [e2, Array.append_assoc]⟩
theorem Un.kept (k : ∀ b u, h.get? b = some u -> h'.get? b = some u) : Un fs ex H H h h' :=
  ⟨fun b ob q _ _ _ => k b ob q, fun b ob q _ _ _ => ⟨ob.slots, k b ob q⟩, fun _ _ _ n _ => n, fun b ob q _ => ⟨ob, k b ob q⟩, fun _ _ q => q, fun _ _ _ q => q, fun _ ps q => ⟨#[], by rw [q]; simp⟩⟩
theorem Un.refl : Un fs ex H H h h := Un.kept fun _ _ q => q
theorem Un.laid (k : ∀ b u, h.get? b = some u -> h'.get? b = some u) (hp : h.objs.size <= a) (hn : H a = none) : Un fs ex H (upd H a o) h h' where
  keep := fun b u q _ _ _ => k b u q
  slot := fun b u q _ _ _ => ⟨u.slots, k b u q⟩
  free := fun b u q n _ => by rw [aI (Nat.ne_of_lt (Nat.lt_of_lt_of_le (Heap.lt_size q) hp))]; exact n
  there := fun b u q _ => ⟨u, k b u q⟩
  tups := fun b xs q => by rw [aI (fQ q hn)]; exact q
  frzs := fun b u xs q => by rw [aI (fQ q hn)]; exact q
  tbls := fun b ps q => ⟨#[], by rw [aI (fQ q hn), q]; simp⟩
theorem Un.write (mu : Mut (H x)) (he : e = x ∨ H e = some (.own x)) (k : ∀ b u, b ≠ e -> h.get? b = some u -> h'.get? b = some u) (heo : ∃ u, h'.get? e = some u) : Un fs ex H (upd H x o) h h' := by
  have hx : ∀ b, H b = none -> b ≠ x := fun b n z => by subst z; rw [n] at mu; exact mu
  have hb : ∀ b, H b = none -> b ≠ e := fun b n z => by
    subst z
    rcases he with r | r
    · exact hx b n r
    · rw [n] at r; cases r
  have hm : ∀ b u, H b = some u -> ¬ Mut (some u) -> b ≠ x := fun b u q nm z => by subst z; rw [q] at mu; exact nm mu
  refine ⟨fun b u q n _ _ => k b u (hb b n) q, fun b u q n _ _ => ⟨u.slots, k b u (hb b n) q⟩, fun b u q n _ => by rw [aI (hx b n)]; exact n, fun b u q _ => ?_,
    fun b xs q => by rw [aI (hm b _ q fun z => z)]; exact q, fun b u xs q => by rw [aI (hm b _ q fun z => z)]; exact q, fun b ps q => ⟨#[], by rw [aI (hm b _ q fun z => z), q]; simp⟩⟩
  by_cases hbe : b = e
  · subst hbe; exact heo
  · exact ⟨u, k b u hbe q⟩
theorem Un.mono (u : Un fs ex H H1 h h1) (hs : ∀ b ∈ fs, b ∈ fs') (hx : ∀ b ∈ ex, b ∈ ex') : Un fs' ex' H H1 h h1 :=
  ⟨fun b ob q n hb he => u.keep b ob q n (fun z => hb (hs b z)) fun z => he (hx b z), fun _ _ q n _ he => u.any q n fun z => he (hx _ z), fun b ob q n he => u.free b ob q n fun z => he (hx b z), fun b ob q he => u.there b ob q fun z => he (hx b z), u.tups, u.frzs, u.tbls⟩
end
def trk (h : Heap) (H : Hp) : List Addr := (List.range h.objs.size).filter fun a => (H a).isSome
def pI (h : Heap) (H : Hp) : Heap := PySem.W.hideAll h (trk h H)
theorem zC (h : Heap) (H : Hp) : (pI h H).objs.size = h.objs.size := PySem.W.hideAll_size _ _
theorem aAi {h : Heap} {H : Hp} {b : Addr} {o : Obj} (e : h.get? b = some o) (n : H b = none) : (pI h H).get? b = some o :=
  PySem.W.hideAll_get _ e fun hm => by
    have q : (H b).isSome = true := (List.mem_filter.mp hm).2
    rw [n] at q; simp at q
theorem aBL {h : Heap} {H : Hp} {b : Addr} {o : Obj} (e : (pI h H).get? b = some o) : h.get? b = some o /\ H b = none := by
  have e' : h.get? b = some o := PySem.W.of_hideAll (trk h H) e
  refine ⟨e', ?_⟩
  cases q : H b with
  | none => rfl
  | some x =>
    have hm : b ∈ trk h H := List.mem_filter.mpr ⟨List.mem_range.mpr (Heap.lt_size e'), by simp [q]⟩
    have z : (pI h H).get? b = none := PySem.W.hideAll_none (trk h H) hm
    rw [z] at e; cases e
def aBM (g h : Heap) (L : Addr) : List (Addr × Obj) := (List.range h.objs.size).filterMap fun a => if a = L ∨ (g.get? a).isSome = true then none else (h.get? a).map fun o => (a, o)
def lW (g h : Heap) (L d : Addr) : List (Addr × Obj) := (aBM g h L).filter fun p => decide (p.1 ≠ d)
end L2
namespace L2
open PySem PySem.Spec PyProof.Rows
structure Mod (K : PySem.W.Frag) (mg : Str -> Option Value) (base : Heap) : Prop where
  kin : K.In base
  glob : base.Ns mainGlobals mg
  blt : ∃ mb, base.Ns builtinsNs mb /\ ∀ x : Str, x ≠ "__name__" -> mb x = bootBuiltins x
  nolimit : base.NoLimit
  mods : ∃ mm, base.Ns sysModules mm
structure Cx where
  prog : Program
  w : World
  K : PySem.W.Frag
  mg : Str -> Option Value
  base : Heap
  A : Around
  N : List Str
  s₀ : Shared
  H₀ : Hp
  env : Env
  outer : List Env
  stack : List Env
  ex : List Addr
  fn : Str -> Bool
  calm : Bool
  pn : List (Addr × Obj)
  xe : Value -> Shared -> Prop
def frs (l : List Env) : List Addr := l.filterMap (·.frame)
abbrev Cx.fs (X : Cx) : List Addr := frs X.outer
def Vis (sc : Scope) (x : Str) : Prop := sc.names.lookup x = some .local ∨ sc.names.lookup x = some .cell ∨ sc.names.lookup x = some .free
def Loc (sc : Scope) (x : Str) : Prop := sc.names.lookup x = some .local ∨ sc.names.lookup x = some .cell
def aDr (env : Env) (h : Heap) (m : Str -> Option Value) (x : Str) (u : Value) : Prop :=
  (env.kindOf x = some .local /\ m x = some u) ∨ ((env.kindOf x = some .cell ∨ env.kindOf x = some .free) /\ ∃ c, env.cells.lookup x = some c /\ h.IsCell c (some u))
structure Cx.Ok (X : Cx) : Prop where
  mod : Mod X.K X.mg X.base
  kind : X.env.scope.kind = .function
  glob : X.env.globals = mainGlobals
  blt : X.env.builtins = builtinsNs
  above : X.s₀.heap.objs.size <= X.env.locals
  inj : ∀ x y c, X.env.cells.lookup x = some c -> X.env.cells.lookup y = some c -> x = y
  has : ∀ x, (X.env.kindOf x = some .cell ∨ X.env.kindOf x = some .free) -> ∃ c, X.env.cells.lookup x = some c
  cab : ∀ x c, X.fn x = true -> X.env.cells.lookup x = some c -> X.s₀.heap.objs.size <= c
  hd : X.calm = true -> X.A.handled = none
  frames : X.A.frames = some X.stack
  stk : X.stack = X.outer ∨ (X.stack = X.env :: X.outer /\ X.env.frame = some X.env.locals)
  exf : ∀ b ∈ X.ex, b ≠ X.env.locals /\ ∀ x c, X.env.cells.lookup x = some c -> c ≠ b
  bs : ∀ b o, X.base.get? b = some o -> X.s₀.heap.get? b = some o /\ X.H₀ b = none
  bsz : X.base.objs.size <= X.s₀.heap.objs.size
  noex : ∀ b o, X.base.get? b = some o -> b ∉ X.ex
  exfs : ∀ b ∈ X.ex, b ∉ X.fs
  funs : X.s₀.heap.FunFrames X.base X.outer
  frf : ∀ b ∈ X.fs, X.H₀ b = none
structure Inv (X : Cx) (pins : List (Addr × Obj)) (σ : List (Option V)) (H : Hp) (s : Shared) : Prop where
  ok : X.Ok
  os : s.os = X.s₀.os
  bare : AllBare s.gens
  base : Un X.fs X.ex X.H₀ H X.s₀.heap s.heap
  loc : ∃ m, s.heap.Ns X.env.locals m /\ ∀ (i : Nat) (x : Str) (v : V), X.N[i]? = some x -> σ[i]? = some (some v) -> Vis X.env.scope x -> ∃ u, bE v u /\ aDr X.env s.heap m x u
  cell : ∀ x c, X.env.cells.lookup x = some c -> ∃ v, s.heap.IsCell c v
  free : H X.env.locals = none
  freeC : ∀ x c, X.env.cells.lookup x = some c -> H c = none
  pin : ∀ p ∈ X.pn ++ pins, s.heap.get? p.1 = some p.2 /\ H p.1 = none /\ p.1 ≠ X.env.locals /\ p.1 ∉ X.fs /\ ∀ v, p.2.data ≠ .cell v
  hok : HOk X.prog X.w H s.heap
  len : σ.length = X.N.length
section
variable {X : Cx} {pins : List (Addr × Obj)} {σ : List (Option V)} {H H' : Hp} {s : Shared} {h' : Heap}
theorem Cx.Ok.nofr (ok : X.Ok) {b : Addr} {o : Obj} (e : X.base.get? b = some o) : b ∉ X.fs := fun hb => by
  have := (ok.funs.mem hb).1
  rw [e] at this; cases this
theorem Inv.bs (I : Inv X pins σ H s) : ∀ b o, X.base.get? b = some o -> s.heap.get? b = some o /\ H b = none := fun b o e =>
  ⟨I.base.keep b o (I.ok.bs b o e).1 (I.ok.bs b o e).2 (I.ok.nofr e) (I.ok.noex b o e), I.base.free b o (I.ok.bs b o e).1 (I.ok.bs b o e).2 (I.ok.noex b o e)⟩
theorem Inv.bk (I : Inv X pins σ H s) : ∀ b o, X.base.get? b = some o -> s.heap.get? b = some o := fun b o e => (I.bs b o e).1
theorem Inv.mod (I : Inv X pins σ H s) : Mod X.K X.mg X.base := I.ok.mod
theorem Inv.kIn (I : Inv X pins σ H s) : X.K.In s.heap := I.ok.mod.kin.keeps I.bk
theorem Inv.nolimit (I : Inv X pins σ H s) : s.heap.NoLimit := I.ok.mod.nolimit.keeps I.bk
theorem Inv.fr (I : Inv X pins σ H s) : ∃ m, Fr X.base X.env.locals s.heap m :=
  let ⟨m, hn, _⟩ := I.loc
  ⟨m, hn, I.bk, Nat.le_trans I.ok.bsz I.ok.above⟩
theorem Inv.lt (I : Inv X pins σ H s) : X.env.locals < s.heap.objs.size := let ⟨_, hn, _⟩ := I.loc; hn.lt
theorem Inv.sz (I : Inv X pins σ H s) : X.s₀.heap.objs.size <= s.heap.objs.size := Nat.le_trans I.ok.above (Nat.le_of_lt I.lt)
theorem Inv.nofs (I : Inv X pins σ H s) {a : Addr} (h : s.heap.objs.size <= a) : a ∉ X.fs := fun hb => by
  obtain ⟨_, o, ho, _⟩ := I.ok.funs.mem hb
  exact absurd (Nat.lt_of_lt_of_le (Heap.lt_size ho) (Nat.le_trans I.sz h)) (Nat.lt_irrefl _)
theorem Inv.cne (I : Inv X pins σ H s) : ∀ x c, X.env.cells.lookup x = some c -> c ≠ X.env.locals := fun x c e z => by
  obtain ⟨v, o, ho, hd⟩ := I.cell x c e
  obtain ⟨m, ⟨o', es, ep, ho', hd', _⟩, _⟩ := I.loc
  rw [z, ho'] at ho; cases ho; rw [hd'] at hd; cases hd
theorem Inv.funs (I : Inv X pins σ H s) : s.heap.FunFrames X.base X.outer := by
  have all : ∀ (l : List Env), (∀ b ∈ frs l, b ∈ X.fs) -> X.s₀.heap.FunFrames X.base l -> s.heap.FunFrames X.base l := by
    intro l
    induction l with
    | nil => intro _ _; trivial
    | cons env r ih =>
      intro hs hl
      obtain ⟨hk, ⟨L, o, hf, hn, ho, hd⟩, hr⟩ := hl
      have hL : L ∈ X.fs := hs L (by unfold frs; rw [List.filterMap_cons, hf]; exact List.mem_cons_self)
      obtain ⟨sl, e⟩ := I.base.slot L o ho (I.ok.frf L hL) hL fun z => I.ok.exfs L z hL
      exact ⟨hk, ⟨L, _, hf, hn, e, hd⟩, ih (fun b hb => hs b (by unfold frs; rw [List.filterMap_cons, hf]; exact List.mem_cons_of_mem _ hb)) hr⟩
  exact all X.outer (fun _ hb => hb) I.ok.funs
theorem Inv.stack (I : Inv X pins σ H s) : s.heap.FunFrames X.base X.stack := by
  rcases I.ok.stk with e | ⟨e, hf⟩
  · rw [e]; exact I.funs
  · rw [e]
    obtain ⟨m, hn, _⟩ := I.loc
    refine .cons (by rw [I.ok.kind]; decide) hf hn ?_ I.funs
    exact Heap.get?_none_of_le (Nat.le_trans I.ok.bsz I.ok.above)
theorem Inv.stkSub (I : Inv X pins σ H s) : ∀ b ∈ frs X.stack, b ∈ X.env.locals :: X.fs := fun b hb => by
  rcases I.ok.stk with e | ⟨e, hf⟩
  · rw [e] at hb; exact List.mem_cons_of_mem _ hb
  · rw [e] at hb
    unfold frs at hb
    rw [List.filterMap_cons, hf] at hb
    exact hb
theorem Inv.stkFree (I : Inv X pins σ H s) : ∀ b ∈ frs X.stack, H b = none := fun b hb => by
  rcases List.mem_cons.mp (I.stkSub b hb) with e | hb
  · rw [e]; exact I.free
  · obtain ⟨_, o, ho, _⟩ := I.ok.funs.mem hb
    exact I.base.free b o ho (I.ok.frf b hb) fun z => I.ok.exfs b z hb
theorem Inv.step {g' : Array GenState} {t' : Nat} {d' : Drawn} {ch : List Addr} (I : Inv X pins σ H s)
    (hch : ∀ b ∈ ch, (b ∈ X.ex ∨ X.s₀.heap.objs.size <= b) /\ b ≠ X.env.locals /\ (∀ x c, X.env.cells.lookup x = some c -> c ≠ b) /\ ∀ p ∈ X.pn ++ pins, p.1 ≠ b)
    (keep : ∀ b o, b ≠ X.env.locals -> b ∉ X.fs -> b ∉ ch -> s.heap.get? b = some o -> H b = none -> h'.get? b = some o)
    (slot : ∀ b o, b ≠ X.env.locals -> b ∈ X.fs -> b ∉ ch -> s.heap.get? b = some o -> H b = none -> ∃ sl, h'.get? b = some { o with slots := sl }) (free : ∀ b o, b ∉ ch -> s.heap.get? b = some o -> H b = none -> H' b = none)
    (there : ∀ b o, b ∉ ch -> s.heap.get? b = some o -> ∃ o', h'.get? b = some o')
    (tups : ∀ b xs, H b = some (.tup xs) -> H' b = some (.tup xs)) (frzs : ∀ b o u, H b = some (.frz o u) -> H' b = some (.frz o u)) (tbls : ∀ b ps, H b = some (.tbl ps) -> ∃ more, H' b = some (.tbl (ps ++ more)))
    (ns : ∀ m, s.heap.Ns X.env.locals m -> h'.Ns X.env.locals m) (hok : HOk X.prog X.w H' h') (hg : AllBare g') :
    Inv X pins σ H' { s with heap := h', gens := g', drawn := d', toks := t' } := by
  have neL : ∀ b o, X.s₀.heap.get? b = some o -> b ≠ X.env.locals := fun b o e => Nat.ne_of_lt (Nat.lt_of_lt_of_le (Heap.lt_size e) I.ok.above)
  have neC : ∀ b o, X.s₀.heap.get? b = some o -> b ∉ X.ex -> b ∉ ch := fun b o e hx hb => by
    rcases (hch b hb).1 with z | z
    · exact hx z
    · exact absurd (Nat.lt_of_lt_of_le (Heap.lt_size e) z) (Nat.lt_irrefl _)
  have cellK : ∀ x c, X.env.cells.lookup x = some c -> ∀ v, s.heap.IsCell c v -> h'.IsCell c v := fun x c e v ⟨o, ho, hd⟩ => by
    have nch : c ∉ ch := fun z => (hch c z).2.2.1 x c e rfl
    by_cases hc : c ∈ X.fs
    · obtain ⟨sl, q⟩ := slot c o (I.cne x c e) hc nch ho (I.freeC x c e)
      exact ⟨_, q, hd⟩
    · exact ⟨o, keep c o (I.cne x c e) hc nch ho (I.freeC x c e), hd⟩
  refine ⟨I.ok, I.os, hg, ⟨fun b o e n hb hx => ?_, fun b o e n hb hx => ?_, fun b o e n hx => ?_, fun b o e hx => ?_, fun b xs e => tups b xs (I.base.tups b xs e), fun b o xs e => frzs b o xs (I.base.frzs b o xs e), fun b ps e => ?_⟩, ?_, fun x c e => ?_, ?_, fun x c e => ?_, fun p hp => ?_, hok, I.len⟩
  · exact keep b o (neL b o e) hb (neC b o e hx) (I.base.keep b o e n hb hx) (I.base.free b o e n hx)
  · obtain ⟨sl, e1⟩ := I.base.slot b o e n hb hx
    obtain ⟨sl', e2⟩ := slot b _ (neL b o e) hb (neC b o e hx) e1 (I.base.free b o e n hx)
    exact ⟨sl', e2⟩
  · obtain ⟨o', e1⟩ := I.base.there b o e hx
    exact free b o' (neC b o e hx) e1 (I.base.free b o e n hx)
  · obtain ⟨o', e1⟩ := I.base.there b o e hx
    exact there b o' (neC b o e hx) e1
  · obtain ⟨m1, e1⟩ := I.base.tbls b ps e
    obtain ⟨m2, e2⟩ := tbls b _ e1
    exact ⟨m1 ++ m2, by rw [e2, Array.append_assoc]⟩
  · obtain ⟨m, hn, hl⟩ := I.loc
    refine ⟨m, ns m hn, fun i x v e1 e2 e3 => ?_⟩
    obtain ⟨u, r, l⟩ := hl i x v e1 e2 e3
    refine ⟨u, r, ?_⟩
    rcases l with l | ⟨k, c, e, z⟩
    · exact .inl l
    · exact .inr ⟨k, c, e, cellK x c e _ z⟩
  · obtain ⟨v, z⟩ := I.cell x c e
    exact ⟨v, cellK x c e v z⟩
  · obtain ⟨m, ⟨o, _, _, ho, _⟩, _⟩ := I.loc
    exact free _ o (fun z => (hch _ z).2.1 rfl) ho I.free
  · obtain ⟨v, o, ho, hd⟩ := I.cell x c e
    exact free c o (fun z => (hch c z).2.2.1 x c e rfl) ho (I.freeC x c e)
  · obtain ⟨e, n, ne, nf, d⟩ := I.pin p hp
    have nch : p.1 ∉ ch := fun z => (hch p.1 z).2.2.2 p hp rfl
    exact ⟨keep p.1 p.2 ne nf nch e n, free p.1 p.2 nch e n, ne, nf, d⟩
theorem Inv.un {t' : Nat} (I : Inv X pins σ H s) (u : Un X.fs [] H H' s.heap h') (hok : HOk X.prog X.w H' h') : Inv X pins σ H' { s with heap := h', toks := t' } := by
  obtain ⟨m, ⟨o, es, ep, ho, r⟩, _⟩ := id I.loc
  obtain ⟨sl, hL⟩ := u.any ho I.free (by simp)
  exact I.step (g' := s.gens) (d' := s.drawn) (ch := []) (fun _ z => nomatch z) (fun b o _ hb _ e n => u.keep b o e n hb (by simp)) (fun b o _ hb _ e n => u.slot b o e n hb (by simp)) (fun b o _ e n => u.free b o e n (by simp)) (fun b o _ e => u.there b o e (by simp)) u.tups u.frzs u.tbls (fun m' hm => by
    obtain ⟨o', es', ep', ho', r'⟩ := hm
    rw [ho] at ho'; cases ho'
    exact ⟨_, es', ep', hL, r'⟩) hok I.bare
theorem Inv.call {g' : Array GenState} {t' : Nat} {d' : Drawn} {ch : List Addr} (I : Inv X pins σ H s) (u : Un (frs X.stack) ch H H' s.heap h') (hok : HOk X.prog X.w H' h') (hg : AllBare g')
    (hch : ∀ b ∈ ch, (b ∈ X.ex ∨ X.s₀.heap.objs.size <= b) /\ b ≠ X.env.locals /\ (∀ x c, X.env.cells.lookup x = some c -> c ≠ b) /\ ∀ p ∈ X.pn ++ pins, p.1 ≠ b) :
    Inv X pins σ H' { s with heap := h', gens := g', drawn := d', toks := t' } := by
  obtain ⟨m, ⟨o, es, ep, ho, r⟩, _⟩ := id I.loc
  obtain ⟨sl, hL⟩ := u.any ho I.free fun z => (hch _ z).2.1 rfl
  exact I.step (ch := ch) hch (fun b o hL hb hc e n => u.keep b o e n (fun z => (List.mem_cons.mp (I.stkSub b z)).elim hL hb) hc) (fun b o _ _ hc e n => u.any e n hc) (fun b o hc e n => u.free b o e n hc) (fun b o hc e => u.there b o e hc) u.tups u.frzs u.tbls (fun m' hm => by
    obtain ⟨o', es', ep', ho', r'⟩ := hm
    rw [ho] at ho'; cases ho'
    exact ⟨_, es', ep', hL, r'⟩) hok hg
theorem Inv.turned {t' : Nat} {it : Addr} (I : Inv X pins σ H s) (k : ∀ b o, b ≠ it -> s.heap.get? b = some o -> h'.get? b = some o) (hn : H it = none) (hL : it ≠ X.env.locals)
    (h1 : it ∈ X.ex ∨ X.s₀.heap.objs.size <= it) (h2 : ∀ x c, X.env.cells.lookup x = some c -> c ≠ it) (h3 : ∀ p ∈ X.pn ++ pins, p.1 ≠ it) : Inv X pins σ H { s with heap := h', toks := t' } := by
  have nit : ∀ b u, H b = some u -> b ≠ it := fun b u e z => by rw [z, hn] at e; cases e
  refine I.step (g' := s.gens) (d' := s.drawn) (ch := [it]) (fun b hb => ?_) (fun b o _ _ hc e _ => k b o (fun z => hc (by simp [z])) e) (fun b o _ _ hc e _ => ⟨o.slots, k b o (fun z => hc (by simp [z])) e⟩) (fun _ _ _ _ n => n)
    (fun b o hc e => ⟨o, k b o (fun z => hc (by simp [z])) e⟩) (fun _ _ e => e) (fun _ _ _ e => e) (fun b ps e => ⟨#[], by rw [e]; simp⟩) (fun m hm => ?_) (fun b u e => ?_) I.bare
  · have e : b = it := by simpa using hb
    subst e
    exact ⟨h1, hL, h2, h3⟩
  · obtain ⟨o, es, ep, ho, r⟩ := hm
    exact ⟨o, es, ep, k _ o (Ne.symm hL) ho, r⟩
  · refine (I.hok b u e).stay (fun c v hc q => k c v ?_ q) (fun _ q => q) fun _ _ q => q
    rcases hc with z | z
    · rw [z]; exact nit b u e
    · exact nit c _ z
theorem Inv.tok (I : Inv X pins σ H s) (t : Nat) : Inv X pins σ H { s with toks := t } := I.un (h' := s.heap) (t' := t) Un.refl I.hok
theorem Inv.kept {t' : Nat} (I : Inv X pins σ H s) (k : ∀ b u, s.heap.get? b = some u -> h'.get? b = some u) : Inv X pins σ H { s with heap := h', toks := t' } := I.un (Un.kept k) (I.hok.kept k)
theorem Inv.laid {a : Addr} {o : HO} {t' : Nat} (I : Inv X pins σ H s) (k : ∀ b u, s.heap.get? b = some u -> h'.get? b = some u) (hp : s.heap.objs.size <= a) (new : bO X.prog X.w (upd H a o) h' a o) :
    Inv X pins σ (upd H a o) { s with heap := h', toks := t' } := I.un (Un.laid k hp (I.hok.fresh hp)) (I.hok.laid k hp new)
theorem Inv.write {x e : Addr} {o : HO} {t' : Nat} (I : Inv X pins σ H s) (mu : Mut (H x)) (he : e = x ∨ H e = some (.own x)) (k : ∀ b u, b ≠ e -> s.heap.get? b = some u -> h'.get? b = some u) (heo : ∃ u, h'.get? e = some u)
    (new : bO X.prog X.w (upd H x o) h' x o) : Inv X pins σ (upd H x o) { s with heap := h', toks := t' } := I.un (Un.write mu he k heo) (I.hok.write mu he k heo new)
theorem Inv.pins_of {pins' : List (Addr × Obj)} (I : Inv X pins σ H s) (h : ∀ p ∈ pins', s.heap.get? p.1 = some p.2 /\ H p.1 = none /\ p.1 ≠ X.env.locals /\ p.1 ∉ X.fs /\ ∀ v, p.2.data ≠ .cell v) : Inv X pins' σ H s :=
  ⟨I.ok, I.os, I.bare, I.base, I.loc, I.cell, I.free, I.freeC, fun p hp => (List.mem_append.mp hp).elim (fun z => I.pin p (List.mem_append_left _ z)) (h p), I.hok, I.len⟩
theorem tJ {N : List Str} (hN : N.Nodup) {i j : Nat} {x : Str} (a : N[i]? = some x) (b : N[j]? = some x) : i = j := by
  obtain ⟨h1, e1⟩ := List.getElem?_eq_some_iff.mp a
  obtain ⟨h2, e2⟩ := List.getElem?_eq_some_iff.mp b
  exact (List.getElem_inj hN).mp (e1.trans e2.symm)
theorem pZ {M : Model} {A : Around} {E : Value -> Shared -> Prop} {i : Nat} {x : Str} {v : V} {u : Value} {Q : Unit -> Shared -> Prop} (I : Inv X pins σ H s) (hN : X.N.Nodup) (hi : X.N[i]? = some x) (hx : Loc X.env.scope x) (r : bE v u)
    (h : ∀ s', Inv X pins (σ.set i (some v)) H s' -> (∃ a, Heap.SameBut a s.heap s'.heap /\ (a = X.env.locals ∨ X.env.cells.lookup x = some a)) -> Q () s') (hf : X.fn x = true ∨ X.env.scope.names.lookup x = some .local := by first | exact .inl rfl | exact .inr rfl | assumption) : wpAny M A (storeName X.env x u) Q E s := by
  obtain ⟨m, hn, hl⟩ := id I.loc
  have hcls : (X.env.scope.kind == .class || (X.env.scope.kind == .module && X.env.locals != X.env.globals)) = false := by rw [I.ok.kind]; rfl
  have hiσ : i < σ.length := by rw [I.len]; exact (List.getElem?_eq_some_iff.mp hi).1
  have cne := I.cne
  have tracked : ∀ {a : Addr} {h' : Heap}, (∃ o, s.heap.get? a = some o /\ H a = none) -> Heap.SameBut a s.heap h' -> HOk X.prog X.w H h' := fun {a h'} ha hs b ob e => by
    obtain ⟨_, _, hfree⟩ := ha
    refine (I.hok b ob e).stay (fun c w' hc q => (hs.2 c ?_).trans q) (fun _ q => q) fun _ _ q => q
    rintro rfl
    rcases hc with rfl | hc
    · rw [hfree] at e; cases e
    · rw [hfree] at hc; cases hc
  rcases hx with hk | hk
  · refine wpAny_storeName_local hk hn (fun h' hn' hs => ?_) hcls
    obtain ⟨oL, _, _, hoL, _⟩ := id hn
    refine h _ ⟨I.ok, I.os, I.bare, ⟨fun b o e n hb hx => ?_, fun b o e n hb hx => ?_, I.base.free, fun b o e hx => ?_, I.base.tups, I.base.frzs, I.base.tbls⟩, ⟨_, hn', fun j y v' e1 e2 e3 => ?_⟩, fun y c e => ?_, I.free, I.freeC, fun p hp => ?_, tracked ⟨oL, hoL, I.free⟩ hs, by simpa using I.len⟩ ⟨_, hs, .inl rfl⟩
    · exact (hs.2 b (Nat.ne_of_lt (Nat.lt_of_lt_of_le (Heap.lt_size e) I.ok.above))).trans (I.base.keep b o e n hb hx)
    · obtain ⟨sl, e1⟩ := I.base.slot b o e n hb hx
      exact ⟨sl, (hs.2 b (Nat.ne_of_lt (Nat.lt_of_lt_of_le (Heap.lt_size e) I.ok.above))).trans e1⟩
    · obtain ⟨o', e1⟩ := I.base.there b o e hx
      exact ⟨o', (hs.2 b (Nat.ne_of_lt (Nat.lt_of_lt_of_le (Heap.lt_size e) I.ok.above))).trans e1⟩
    · by_cases hj : j = i
      · subst hj
        rw [hi] at e1; cases e1
        rw [List.getElem?_set_self hiσ] at e2
        cases e2
        exact ⟨u, r, .inl ⟨hk, by simp⟩⟩
      · rw [List.getElem?_set_ne (Ne.symm hj)] at e2
        obtain ⟨u', r', q⟩ := hl j y v' e1 e2 e3
        refine ⟨u', r', ?_⟩
        rcases q with ⟨k, e⟩ | ⟨k, c, e, z⟩
        · refine .inl ⟨k, ?_⟩
          have : y ≠ x := fun e => hj (tJ hN e1 (e ▸ hi))
          simp [this, e]
        · exact .inr ⟨k, c, e, z.sameBut hs (cne y c e)⟩
    · obtain ⟨w', z⟩ := I.cell y c e
      exact ⟨w', z.sameBut hs (cne y c e)⟩
    · obtain ⟨e, n, ne, nf, d⟩ := I.pin p hp
      exact ⟨(hs.2 p.1 ne).trans e, n, ne, nf, d⟩
  · have hfn : X.fn x = true := by
      rcases hf with z | z
      · exact z
      · rw [z] at hk; cases hk
    obtain ⟨c, hc⟩ := I.ok.has x (.inl hk)
    obtain ⟨w', z⟩ := I.cell x c hc
    refine wpAny_storeName_cell I.ok.kind hk hc z (fun h' hc' hs => ?_)
    obtain ⟨oc, hoc, hocd⟩ := id z
    refine h { s with heap := h' } ⟨I.ok, I.os, I.bare, ⟨fun b o e n hb hx => ?_, fun b o e n hb hx => ?_, I.base.free, fun b o e hx => ?_, I.base.tups, I.base.frzs, I.base.tbls⟩, ⟨m, hn.sameBut hs (Ne.symm (cne x c hc)), fun j y v' e1 e2 e3 => ?_⟩, fun y c' e => ?_, I.free, I.freeC, fun p hp => ?_, tracked ⟨oc, hoc, I.freeC x c hc⟩ hs, by simpa using I.len⟩ ⟨c, hs, .inr hc⟩
    · exact (hs.2 b (Nat.ne_of_lt (Nat.lt_of_lt_of_le (Heap.lt_size e) (I.ok.cab x c hfn hc)))).trans (I.base.keep b o e n hb hx)
    · obtain ⟨sl, e1⟩ := I.base.slot b o e n hb hx
      exact ⟨sl, (hs.2 b (Nat.ne_of_lt (Nat.lt_of_lt_of_le (Heap.lt_size e) (I.ok.cab x c hfn hc)))).trans e1⟩
    · obtain ⟨o', e1⟩ := I.base.there b o e hx
      exact ⟨o', (hs.2 b (Nat.ne_of_lt (Nat.lt_of_lt_of_le (Heap.lt_size e) (I.ok.cab x c hfn hc)))).trans e1⟩
    · by_cases hj : j = i
      · subst hj
        rw [hi] at e1; cases e1
        rw [List.getElem?_set_self hiσ] at e2
        cases e2
        exact ⟨u, r, .inr ⟨.inl hk, c, hc, hc'⟩⟩
      · rw [List.getElem?_set_ne (Ne.symm hj)] at e2
        obtain ⟨u', r', q⟩ := hl j y v' e1 e2 e3
        refine ⟨u', r', ?_⟩
        rcases q with q | ⟨k, c', e, z'⟩
        · exact .inl q
        · refine .inr ⟨k, c', e, z'.sameBut hs ?_⟩
          rintro rfl
          exact hj (tJ hN e1 (I.ok.inj _ _ _ e hc ▸ hi))
    · by_cases hcc : c' = c
      · subst hcc; exact ⟨_, hc'⟩
      · obtain ⟨w2, z2⟩ := I.cell y c' e
        exact ⟨w2, z2.sameBut hs hcc⟩
    · obtain ⟨e, n, ne, nf, d⟩ := I.pin p hp
      refine ⟨(hs.2 p.1 ?_).trans e, n, ne, nf, d⟩
      intro q
      rw [q, hoc] at e
      have q' : oc = p.2 := Option.some.inj e
      exact d w' (by rw [<- q']; exact hocd)
theorem nO {M : Model} {A : Around} {E : Value -> Shared -> Prop} {i : Nat} {x : Str} {v : V} {u : Value} {Q : Unit -> Shared -> Prop} (I : Inv X pins σ H s) (hN : X.N.Nodup) (hi : X.N[i]? = some x) (hx : Loc X.env.scope x) (r : bE v u)
    (h : ∀ s', Inv X pins (σ.set i (some v)) H s' -> Q () s') (hf : X.fn x = true ∨ X.env.scope.names.lookup x = some .local := by first | exact .inl rfl | exact .inr rfl | assumption) : wpAny M A (storeName X.env x u) Q E s :=
  pZ I hN hi hx r (fun s' I' _ => h s' I') hf
theorem Inv.call' {s' : Shared} {ch : List Addr} (I : Inv X pins σ H s) (ho : s'.os = s.os) (u : Un (frs X.stack) ch H H' s.heap s'.heap) (hok : HOk X.prog X.w H' s'.heap) (hg : AllBare s'.gens)
    (hch : ∀ b ∈ ch, (b ∈ X.ex ∨ X.s₀.heap.objs.size <= b) /\ b ≠ X.env.locals /\ (∀ x c, X.env.cells.lookup x = some c -> c ≠ b) /\ ∀ p ∈ X.pn ++ pins, p.1 ≠ b) : Inv X pins σ H' s' := by
  obtain ⟨h', g', d', t', o'⟩ := s'
  have e : o' = s.os := ho
  subst e
  exact I.call (g' := g') (t' := t') (d' := d') u hok hg hch
end
abbrev XK := Value -> Option Addr -> Hp -> Prop
abbrev St := List (Option V)
abbrev VK := V -> Hp -> Prop
abbrev TE := St -> Hp -> VK -> Prop
abbrev TT := St -> Hp -> (Bool -> Hp -> Prop) -> Prop
abbrev TA := St -> Hp -> (List V -> Hp -> Prop) -> Prop
structure Ends where
  nx : St -> Hp -> Prop
  rt : VK
  bk : St -> Hp -> Prop := fun _ _ => False
  ct : St -> Hp -> Prop := fun _ _ => False
abbrev TS := Ends -> St -> Hp -> Prop
def EP (X : Cx) (pins : List (Addr × Obj)) (σ : St) (Q : VK) (u : Value) (s' : Shared) : Prop := ∃ v H', Inv X pins σ H' s' /\ bE v u /\ Q v H'
def TP (X : Cx) (pins : List (Addr × Obj)) (σ : St) (Q : Bool -> Hp -> Prop) (b : Bool) (s' : Shared) : Prop := ∃ H', Inv X pins σ H' s' /\ Q b H'
def AP (X : Cx) (pins : List (Addr × Obj)) (σ : St) (Q : List V -> Hp -> Prop) (us : List Value) (s' : Shared) : Prop := ∃ vs H', Inv X pins σ H' s' /\ bB vs us /\ Q vs H'
def SP (X : Cx) (pins : List (Addr × Obj)) (D : Ends) (f : Flow) (s' : Shared) : Prop :=
  match f with
  | .next => ∃ σ' H', Inv X pins σ' H' s' /\ D.nx σ' H'
  | .brk => ∃ σ' H', Inv X pins σ' H' s' /\ D.bk σ' H'
  | .cont => ∃ σ' H', Inv X pins σ' H' s' /\ D.ct σ' H'
  | .ret u => ∃ v σ' H', Inv X pins σ' H' s' /\ bE v u /\ D.rt v H'
def PE (X : Cx) (e : Expr) (t : TE) : Prop :=
  ∀ (pins : List (Addr × Obj)) (s : Shared) (σ : St) (H : Hp) (Q : VK), Inv X pins σ H s -> t σ H Q -> wpAny (model X.prog X.w) X.A (eval e X.env) (EP X pins σ Q) X.xe s
def PT (X : Cx) (e : Expr) (t : TT) : Prop :=
  ∀ (pins : List (Addr × Obj)) (s : Shared) (σ : St) (H : Hp) (Q : Bool -> Hp -> Prop), Inv X pins σ H s -> t σ H Q -> wpAny (model X.prog X.w) X.A (isTrue e X.env (eval e X.env)) (TP X pins σ Q) X.xe s
def PW (X : Cx) (e : Expr) (t : TT) : Prop :=
  ∀ (whole : Sem Value) (pins : List (Addr × Obj)) (s : Shared) (σ : St) (H : Hp) (Q : Bool -> Hp -> Prop), Inv X pins σ H s -> t σ H Q -> wpAny (model X.prog X.w) X.A (isTrue e X.env whole) (TP X pins σ Q) X.xe s
theorem PW.pt {X : Cx} {e : Expr} {t : TT} (h : PW X e t) : PT X e t := h _
def PA (X : Cx) (es : List Expr) (t : TA) : Prop :=
  ∀ (pos : Pos) (pins : List (Addr × Obj)) (s : Shared) (σ : St) (H : Hp) (Q : List V -> Hp -> Prop), Inv X pins σ H s -> t σ H Q -> wpAny (model X.prog X.w) X.A (spliced (backTo pos (starEach es X.env))) (AP X pins σ Q) X.xe s
def PS (X : Cx) (st : Stmt) (t : TS) : Prop :=
  ∀ (pins : List (Addr × Obj)) (s : Shared) (σ : St) (H : Hp) (D : Ends), Inv X pins σ H s -> t D σ H -> wpAny (model X.prog X.w) X.A (exec st X.env) (SP X pins D) X.xe s
def PSs (X : Cx) (st : List Stmt) (t : TS) : Prop :=
  ∀ (pins : List (Addr × Obj)) (s : Shared) (σ : St) (H : Hp) (D : Ends), Inv X pins σ H s -> t D σ H -> wpAny (model X.prog X.w) X.A (execs st X.env) (SP X pins D) X.xe s
theorem thn {α : Type} {t : Sem α} {Q Q' : α -> Shared -> Prop} {M : Model} {A : Around} {E : Value -> Shared -> Prop} {s : Shared} (h : wpAny M A t Q E s) (hQ : ∀ a s, Q a s -> Q' a s) : wpAny M A t Q' E s := wpAny_mono h hQ fun _ _ x => x
end L2
namespace L2
open PySem PySem.Spec PyProof.Rows
section
variable {X : Cx}
def aDs (i : Nat) : TE := fun σ H Q => ∃ v, σ[i]? = some (some v) /\ Q v H
abbrev tC (v : V) : TE := fun _ H Q => Q v H
theorem aCK {i : Nat} {x : Str} {pos : Pos} (hN : X.N[i]? = some x) (hv : Vis X.env.scope x) (hd : (x == ("__debug__" : Str)) = false := by decide) (hcd : (x == ("__classdict__" : Str)) = false := by decide) : PE X (.Name x pos) (aDs i) := by
  intro pins s σ H Q I h
  obtain ⟨v, e, h⟩ := h
  obtain ⟨m, hn, hl⟩ := I.loc
  obtain ⟨u, r, l⟩ := hl i x v hN e hv
  have fin : EP X pins σ Q u s := ⟨v, H, I, r, h⟩
  rcases l with ⟨hk, hm⟩ | ⟨hk, c, hc, hcell⟩
  · exact wpAny_Name (wpAny_loadName_local I.ok.kind hk hn hm fin) hd
  · rcases hk with hk | hk
    · exact wpAny_Name (wpAny_loadName_cell I.ok.kind hk hc hcell fin) hd
    · exact wpAny_Name (wpAny_loadName_free I.ok.kind hk hc hcell fin hcd) hd
theorem aG {i j pos} : PE X (.Constant (.int i) j pos) (tC (.int i)) := fun _ _ _ H _ I h => wpAny_Constant_int ⟨.int i, H, I.tok _, ⟨_, rfl⟩, h⟩
theorem cF {b j pos} : PE X (.Constant (.bool b) j pos) (tC (.bl b)) := fun _ _ _ H _ I h => Constant_bool ⟨.bl b, H, I, rfl, h⟩
theorem rR {j pos} : PE X (.Constant .none j pos) (tC .non) := fun _ _ _ H _ I h => Constant_none ⟨.non, H, I, rfl, h⟩
theorem lX {x j pos} : PE X (.Constant (.str x) j pos) (tC (.str x)) := fun _ _ _ H _ I h => Calls.Constant_str ⟨.str x, H, I.tok _, ⟨_, rfl⟩, h⟩
def Gl (X : Cx) (x : Str) : Prop := X.env.kindOf x = some .globalImplicit
theorem xN {E : Value -> Shared -> Prop} {pins : List (Addr × Obj)} {s : Shared} {σ : St} {H : Hp} {x : Str} {u : Value} {pos : Pos} {Q : Value -> Shared -> Prop} (I : Inv X pins σ H s) (hg : Gl X x) (hm : X.mg x = some u) (h : Q u s)
    (hd : (x == ("__debug__" : Str)) = false := by decide) : wpAny (model X.prog X.w) X.A (eval (.Name x pos) X.env) Q E s :=
  Calls.Name_function_global I.ok.kind hg (Calls.loadGlobal_global (by rw [I.ok.glob]; exact I.mod.glob.keeps I.bk) hm h) hd
theorem iM {E : Value -> Shared -> Prop} {pins : List (Addr × Obj)} {s : Shared} {σ : St} {H : Hp} {x : Str} {u : Value} {pos : Pos} {Q : Value -> Shared -> Prop} (I : Inv X pins σ H s) (hg : Gl X x) (hm : X.mg x = none) (hv : bootBuiltins x = some u) (h : Q u s)
    (hn : x ≠ "__name__" := by decide) (hd : (x == ("__debug__" : Str)) = false := by decide) : wpAny (model X.prog X.w) X.A (eval (.Name x pos) X.env) Q E s := by
  obtain ⟨mb, h1, h2⟩ := I.mod.blt
  exact Calls.Name_function_global I.ok.kind hg (Calls.loadGlobal_builtin (by rw [I.ok.glob]; exact I.mod.glob.keeps I.bk) hm (by rw [I.ok.blt]; exact h1.keeps I.bk) ((h2 x hn).trans hv) h) hd
theorem xO {x : Str} {v : V} {u : Value} {pos : Pos} (hg : Gl X x) (hm : X.mg x = some u) (r : bE v u) (hd : (x == ("__debug__" : Str)) = false := by decide) : PE X (.Name x pos) (tC v) :=
  fun _ _ _ H _ I h => xN I hg hm ⟨v, H, I, r, h⟩ hd
theorem gL {x : Str} {v : V} {u : Value} {pos : Pos} (hg : Gl X x) (hm : X.mg x = none) (hv : bootBuiltins x = some u) (r : bE v u) (hn : x ≠ "__name__" := by decide) (hd : (x == ("__debug__" : Str)) = false := by decide) : PE X (.Name x pos) (tC v) :=
  fun _ _ _ H _ I h => iM I hg hm hv ⟨v, H, I, r, h⟩ hn hd
variable {a b : Expr} {ta tb : TE} {pos : Pos}
def PC (X : Cx) (op : CmpOp) (a b : Expr) (t : TE) : Prop :=
  ∀ (pins : List (Addr × Obj)) (s : Shared) (σ : St) (H : Hp) (Q : VK), Inv X pins σ H s -> t σ H Q ->
    wpAny (model X.prog X.w) X.A (eval a X.env) (fun v s₁ => wpAny (model X.prog X.w) X.A (eval b X.env) (fun u s₂ => wpAny (model X.prog X.w) X.A (compareOp op v u) (EP X pins σ Q) X.xe s₂) X.xe s₁) X.xe s
theorem aAj (b : Expr) {op : CmpOp} (h : op ≠ .In) (h2 : op ≠ .NotIn) : behindInMarks op b = false := by
  have e1 : (op == CmpOp.In) = false := by cases op <;> first | rfl | exact absurd rfl h
  have e2 : (op == CmpOp.NotIn) = false := by cases op <;> first | rfl | exact absurd rfl h2
  cases b <;> simp [behindInMarks, e1, e2]
def aDt (ta : TE) : TE := fun σ H Q => ta σ H fun x H1 => Q (.bl (!decide (x = .non))) H1
theorem bE.none_iff {x : V} {v : Value} (r : bE x v) : (v == Value.none) = decide (x = .non) := by
  cases x with
  | non => cases r; rfl
  | bl _ => cases r; rfl
  | int _ => obtain ⟨t, rfl⟩ := r; rfl
  | str _ => obtain ⟨t, rfl⟩ := r; rfl
  | byt _ => obtain ⟨t, rfl⟩ := r; rfl
  | flt _ => obtain ⟨t, rfl⟩ := r; rfl
  | ref _ => cases r; rfl
  | ty _ => cases r; rfl
theorem aBN {j pos'} (ha : PE X a ta) : PC X .IsNot a (.Constant .none j pos') (aDt ta) := by
  intro pins s σ H Q I h
  refine thn (ha pins s σ H _ I h) fun v s1 hx9 => ?_
  obtain ⟨x, H1, I1, r1, q1⟩ := hx9
  exact Constant_none (isnot_none_gen ⟨.bl _, H1, I1, by rw [r1.none_iff]; rfl, q1⟩)
def tB (t : TE) : TT := fun σ H Q => t σ H fun x H1 => ∃ c, x = .bl c /\ Q c H1
theorem aAk {op : CmpOp} {t : TE} (h : PC X op a b t) (h1 : behindInMarks op b = false := by first | exact aAj _ (by decide) (by decide) | rfl) : PT X (.Compare a [op] [b] pos) (tB t) := by
  intro pins s σ H Q I hw
  refine wpAny_isTrue_Compare1 (thn (h pins s σ H _ I hw) fun v s1 h1 => thn h1 fun u s2 h2 => thn h2 fun c s3 hx9 => ?_) h1
  obtain ⟨x, H1, I1, r1, q1⟩ := hx9
  obtain ⟨d, rfl, q⟩ := q1
  cases r1
  exact wpAny_truthy_bool ⟨H1, I1, q⟩
theorem eG {e : Expr} {t : TE} (h : PE X e t) (he : ∀ whole, isTrue e X.env whole = (do let v <- whole; standAt e.pos; holding [v] (truthy v)) := by intro _; rfl) : PT X e (tB t) := by
  intro pins s σ H Q I hw
  refine isTrue_plain (thn (h pins s σ H _ I hw) fun v s1 hx9 => ?_) (he _)
  obtain ⟨x, H1, I1, r1, q1⟩ := hx9
  obtain ⟨d, rfl, q⟩ := q1
  cases r1
  exact wpAny_truthy_bool ⟨H1, I1, q⟩
variable {tA tB' : TT} {lW : List Expr}
def aDu (t u : TT) : TT := fun σ H Q => t σ H fun c H1 => if c = true then u σ H1 Q else Q false H1
def tOr (t u : TT) : TT := fun σ H Q => t σ H fun c H1 => if c = true then Q true H1 else u σ H1 Q
def aD2 (t : TT) : TT := fun σ H Q => t σ H fun c H1 => Q (!c) H1
theorem rS (ha : PT X a tA) : PW X (.BoolOp .And [a] pos) tA := by
  intro wh pins s σ H Q I h
  refine isTrue_and (thn (ha pins s σ H Q I h) fun c s1 e => ?_)
  cases c with
  | true => exact isTrue_and_nil e
  | false => exact e
theorem eI (ha : PT X a tA) : PW X (.BoolOp .Or [a] pos) tA := by
  intro wh pins s σ H Q I h
  refine isTrue_or (thn (ha pins s σ H Q I h) fun c s1 e => ?_)
  cases c with
  | false => exact isTrue_or_nil e
  | true => exact e
theorem vS (ha : PT X a tA) (hb : PW X (.BoolOp .And (b :: lW) pos) tB') : PW X (.BoolOp .And (a :: b :: lW) pos) (aDu tA tB') := by
  intro wh pins s σ H Q I h
  refine isTrue_and (thn (ha pins s σ H _ I h) fun c s1 hx9 => ?_)
  obtain ⟨H1, I1, q1⟩ := hx9
  cases c with
  | true => exact hb wh pins s1 σ H1 Q I1 q1
  | false => exact ⟨H1, I1, q1⟩
theorem gE (ha : PT X a tA) (hb : PW X (.BoolOp .Or (b :: lW) pos) tB') : PW X (.BoolOp .Or (a :: b :: lW) pos) (tOr tA tB') := by
  intro wh pins s σ H Q I h
  refine isTrue_or (thn (ha pins s σ H _ I h) fun c s1 hx9 => ?_)
  obtain ⟨H1, I1, q1⟩ := hx9
  cases c with
  | true => exact ⟨H1, I1, q1⟩
  | false => exact hb wh pins s1 σ H1 Q I1 q1
theorem dM (ha : PT X a tA) : PT X (.UnaryOp .Not a pos) (aD2 tA) := by
  intro pins s σ H Q I h
  exact isTrue_not (ha pins s σ H (fun c H1 => Q (!c) H1) I h)
def aDv (ta tb : TE) : TE := fun σ H Q => ta σ H fun x H1 => ∃ c, x = .bl c /\ if c = true then tb σ H1 Q else Q (.bl false) H1
def aDw (ta : TE) : TE := fun σ H Q => ta σ H fun x H1 => ∃ c, x = .bl c /\ Q (.bl (!c)) H1
theorem lY {op} {t : TE} (h : PE X a t) : PE X (.BoolOp op [a] pos) t := fun pins s σ H Q I hw => BoolOp_one (h pins s σ H Q I hw)
theorem kK (ha : PE X a ta) (hb : PE X (.BoolOp .And (b :: lW) pos) tb) : PE X (.BoolOp .And (a :: b :: lW) pos) (aDv ta tb) := by
  intro pins s σ H Q I h
  refine BoolOp_and (thn (ha pins s σ H _ I h) fun v s1 hx9 => ?_)
  obtain ⟨x, H1, I1, r1, q1⟩ := hx9
  obtain ⟨c, rfl, q1⟩ := q1
  cases r1
  refine wpAny_truthy_bool ?_
  cases c with
  | true => exact hb pins s1 σ H1 Q I1 q1
  | false => exact ⟨.bl false, H1, I1, rfl, q1⟩
theorem aCL (ha : PE X a ta) : PE X (.UnaryOp .Not a pos) (aDw ta) := by
  intro pins s σ H Q I h
  refine UnaryOp_ (thn (ha pins s σ H _ I h) fun v s1 hx9 => ?_)
  obtain ⟨x, H1, I1, r1, q1⟩ := hx9
  obtain ⟨c, rfl, q1⟩ := q1
  cases r1
  exact not_of (wpAny_truthy_bool ⟨.bl (!c), H1, I1, rfl, q1⟩)
end
end L2
namespace L2
open PySem PySem.Spec PyProof.Rows
def SqL (K : PySem.W.Frag) (H : Hp) (a : Addr) (xs : List V) : Prop :=
  Rd H a (.lst xs) ∨
    ∃ (o : Obj) (its : Array Value) (n : Nat), K.lookup a = some o /\ o.cls = .type "list" /\ o.dict = none /\ o.data = .seq its n /\ its.size <= sizeLine /\ bB xs its.toList
def SqT (K : PySem.W.Frag) (H : Hp) (a : Addr) (xs : List V) : Prop :=
  Rd H a (.tup xs) ∨
    ∃ (o : Obj) (its : Array Value) (n : Nat), K.lookup a = some o /\ o.cls = .type "tuple" /\ o.dict = none /\ o.data = .seq its n /\ its.size <= sizeLine /\ bB xs its.toList
def aD3 : Value -> Option V
  | .none => some .non
  | .bool b => some (.bl b)
  | .int i _ => some (.int i)
  | .str x _ => some (.str x)
  | .bytes b _ => some (.byt b)
  | .float b _ => some (.flt b)
  | .ref a => some (.ref a)
  | .type n => some (.ty n)
  | _ => none
theorem bE.abs {x : V} {u : Value} (r : bE x u) : aD3 u = some x := by
  cases x with
  | non => cases r; rfl
  | bl _ => cases r; rfl
  | int _ => obtain ⟨t, rfl⟩ := r; rfl
  | str _ => obtain ⟨t, rfl⟩ := r; rfl
  | byt _ => obtain ⟨t, rfl⟩ := r; rfl
  | flt _ => obtain ⟨t, rfl⟩ := r; rfl
  | ref _ => cases r; rfl
  | ty _ => cases r; rfl
theorem bE.inj {x y : V} {u : Value} (r : bE x u) (q : bE y u) : x = y := Option.some.inj (r.abs.symm.trans q.abs)
theorem bB.inj : ∀ {xs ys : List V} {us : List Value}, bB xs us -> bB ys us -> xs = ys
  := by
  intro xs ys us h
  induction h generalizing ys with
  | nil => intro q; cases q; rfl
  | cons r t ih => intro q; cases q with | cons r' t' => rw [r.inj r', ih t']
section
variable {X : Cx} {pins : List (Addr × Obj)} {σ : St} {H : Hp} {s : Shared} {a : Addr} {xs ys : List V}
theorem SqL.of {K : PySem.W.Frag} (h : H a = some (.lst xs)) : SqL K H a xs := .inl (.inl h)
theorem SqT.of {K : PySem.W.Frag} (h : H a = some (.tup xs)) : SqT K H a xs := .inl (.inl h)
theorem Inv.list (I : Inv X pins σ H s) (h : SqL X.K H a xs) : ∃ its : List Value, bB xs its /\ PlainL s.heap a its.toArray /\ xs.length <= sizeLine := by
  rcases h with h | ⟨o, its, n, hk, hc, hd, hs, hz, r⟩
  · obtain ⟨z, its, n, r, e⟩ := h.ok I.hok
    exact ⟨its, r, ⟨_, n, e, rfl, rfl, rfl⟩, z⟩
  · refine ⟨its.toList, r, ⟨o, n, I.kIn a o hk, hc, hd, by simpa using hs⟩, ?_⟩
    have e := r.length
    simp only [Array.length_toList] at e
    omega
theorem Inv.tuple (I : Inv X pins σ H s) (h : SqT X.K H a xs) : ∃ its : List Value, bB xs its /\ IsTup s.heap a its.toArray /\ xs.length <= sizeLine := by
  rcases h with h | ⟨o, its, n, hk, hc, _, hs, hz, r⟩
  · obtain ⟨z, its, n, r, p⟩ := h.ok I.hok
    exact ⟨its, r, ⟨_, p, rfl, n, rfl⟩, z⟩
  · refine ⟨its.toList, r, ⟨o, I.kIn a o hk, hc, n, by simpa using hs⟩, ?_⟩
    have e := r.length
    simp only [Array.length_toList] at e
    omega
theorem Inv.list_inj (I : Inv X pins σ H s) (h : SqL X.K H a xs) (h' : SqL X.K H a ys) : xs = ys := by
  obtain ⟨its, r, ⟨o, n, e, _, _, d⟩, _⟩ := I.list h
  obtain ⟨its', r', ⟨o', n', e', _, _, d'⟩, _⟩ := I.list h'
  rw [e] at e'; cases e'
  rw [d] at d'
  injection d' with d1 _
  have : its = its' := by simpa using congrArg Array.toList d1
  subst this
  exact r.inj r'
theorem Inv.tuple_inj (I : Inv X pins σ H s) (h : SqT X.K H a xs) (h' : SqT X.K H a ys) : xs = ys := by
  obtain ⟨its, r, ⟨o, e, _, n, d⟩, _⟩ := I.tuple h
  obtain ⟨its', r', ⟨o', e', _, n', d'⟩, _⟩ := I.tuple h'
  rw [e] at e'; cases e'
  rw [d] at d'
  injection d' with d1 _
  have : its = its' := by simpa using congrArg Array.toList d1
  subst this
  exact r.inj r'
end
abbrev Cx.wish (X : Cx) (E : Value -> Shared -> Prop) : Cx := { X with xe := E }
abbrev Cx.nox (X : Cx) : Cx := X.wish fun _ _ => False
theorem Cx.Ok.wish {X : Cx} (ok : X.Ok) (E : Value -> Shared -> Prop) : (X.wish E).Ok :=
  ⟨ok.mod, ok.kind, ok.glob, ok.blt, ok.above, ok.inj, ok.has, ok.cab, ok.hd, ok.frames, ok.stk, ok.exf, ok.bs, ok.bsz, ok.noex, ok.exfs, ok.funs, ok.frf⟩
theorem Cx.Ok.unwish {X : Cx} {E : Value -> Shared -> Prop} (ok : (X.wish E).Ok) : X.Ok :=
  ⟨ok.mod, ok.kind, ok.glob, ok.blt, ok.above, ok.inj, ok.has, ok.cab, ok.hd, ok.frames, ok.stk, ok.exf, ok.bs, ok.bsz, ok.noex, ok.exfs, ok.funs, ok.frf⟩
section
variable {X : Cx} {pins : List (Addr × Obj)} {σ : St} {H : Hp} {s : Shared} {E : Value -> Shared -> Prop}
theorem Inv.wish (I : Inv X pins σ H s) (E : Value -> Shared -> Prop) : Inv (X.wish E) pins σ H s := ⟨I.ok.wish E, I.os, I.bare, I.base, I.loc, I.cell, I.free, I.freeC, I.pin, I.hok, I.len⟩
theorem Inv.unwish (I : Inv (X.wish E) pins σ H s) : Inv X pins σ H s := ⟨I.ok.unwish, I.os, I.bare, I.base, I.loc, I.cell, I.free, I.freeC, I.pin, I.hok, I.len⟩
theorem SP.unwish {D : Ends} {f : Flow} {s' : Shared} (h : SP (X.wish E) pins D f s') : SP X pins D f s' := by
  cases f with
  | next => obtain ⟨σ', H', I, q⟩ := h; exact ⟨σ', H', I.unwish, q⟩
  | brk => obtain ⟨σ', H', I, q⟩ := h; exact ⟨σ', H', I.unwish, q⟩
  | cont => obtain ⟨σ', H', I, q⟩ := h; exact ⟨σ', H', I.unwish, q⟩
  | ret u => obtain ⟨v, σ', H', I, r, q⟩ := h; exact ⟨v, σ', H', I.unwish, r, q⟩
theorem PE.nox {e : Expr} {t : TE} (h : PE X.nox e t) : PE X e t := fun pins s σ H Q I hw =>
  wpAny_mono (h pins s σ H Q (I.wish _) hw) (fun _ _ ⟨v, H', I', r, q⟩ => ⟨v, H', I'.unwish, r, q⟩) fun _ _ z => False.elim z
theorem PT.nox {e : Expr} {t : TT} (h : PT X.nox e t) : PT X e t := fun pins s σ H Q I hw =>
  wpAny_mono (h pins s σ H Q (I.wish _) hw) (fun _ _ ⟨H', I', q⟩ => ⟨H', I'.unwish, q⟩) fun _ _ z => False.elim z
theorem PSs.nox {st : List Stmt} {t : TS} (h : PSs X.nox st t) : PSs X st t := fun pins s σ H D I hw =>
  wpAny_mono (h pins s σ H D (I.wish _) hw) (fun _ _ q => q.unwish) fun _ _ z => False.elim z
end
section
variable {X : Cx} {st : Stmt} {lW : List Stmt} {t u : TS} {e : Expr} {te : TE} {pos : Pos}
def aCv : TS := fun D σ H => D.nx σ H
def aDx (t u : TS) : TS := fun D σ H => t { D with nx := u D } σ H
theorem aW : PSs X [] aCv := fun _ _ σ H _ I h => wpAny_execs_nil ⟨σ, H, I, h⟩
theorem aD (h1 : PS X st t) (h2 : PSs X lW u) : PSs X (st :: lW) (aDx t u) := by
  intro pins s σ H D I h
  refine wpAny_execs_cons (thn (h1 pins s σ H { D with nx := u D } I h) fun f s1 q => ?_)
  cases f with
  | next =>
    obtain ⟨σ', H', I', q⟩ := q
    exact h2 pins s1 σ' H' D I' q
  | ret v => exact q
  | brk => exact q
  | cont => exact q
theorem aF (h1 : PS X st t) : PSs X [st] t := by
  intro pins s σ H D I h
  refine wpAny_execs_cons (thn (h1 pins s σ H D I h) fun f s1 q => ?_)
  cases f with
  | next => exact wpAny_execs_nil q
  | ret v => exact q
  | brk => exact q
  | cont => exact q
def aCM : TS := fun D σ H => D.bk σ H
theorem aAl : PS X (.Break pos) aCM := fun _ _ σ H _ I h => wpAny_Break ⟨σ, H, I, h⟩
theorem Inv.quiet {pins : List (Addr × Obj)} {σ : St} {H : Hp} {s : Shared} (I : Inv X pins σ H s) : interactive X.env = false := by simp [interactive, I.ok.kind]
def aDy (te : TE) : TS := fun D σ H => te σ H fun _ H1 => D.nx σ H1
theorem eA (he : PE X e te) (hs : swapsWith e none pos.line X.env = pure false := by rfl) : PS X (.Expr e pos) (aDy te) := by
  intro pins s σ H D I h
  refine wpAny_Expr_any (thn (he pins s σ H _ I h) fun v s1 hx9 => ?_) I.quiet hs
  obtain ⟨x, H1, I1, r1, q1⟩ := hx9
  exact ⟨σ, H1, I1, q1⟩
def aD4 (te : TE) : TS := fun D σ H => te σ H D.rt
theorem aM (he : PE X e te) : PS X (.Return (some e) pos) (aD4 te) := by
  intro pins s σ H D I h
  refine wpAny_Return_some (thn (he pins s σ H _ I h) fun v s1 hx9 => ?_)
  obtain ⟨x, H1, I1, r1, q1⟩ := hx9
  exact ⟨x, σ, H1, I1, r1, q1⟩
def aD5 (c : TT) (t u : TS) : TS := fun D σ H => c σ H fun b H1 => if b = true then t D σ H1 else u D σ H1
theorem bR {c : Expr} {a b : List Stmt} {tc : TT} (hc : PT X c tc) (ha : PSs X a t) (hb : PSs X b u) : PS X (.If c a b pos) (aD5 tc t u) := by
  intro pins s σ H D I h
  refine wpAny_If (thn (hc pins s σ H _ I h) fun d s1 hx9 => ?_)
  obtain ⟨H1, I1, q1⟩ := hx9
  cases d with
  | true => exact ha pins s1 σ H1 D I1 q1
  | false => exact hb pins s1 σ H1 D I1 q1
def aCN : TS := fun _ _ _ => False
theorem lZ {sts : List Stmt} : PSs X sts aCN := fun _ _ _ _ _ _ h => h.elim
end
abbrev TG := V -> St -> Hp -> (St -> Hp -> Prop) -> Prop
abbrev TGs := List V -> St -> Hp -> (St -> Hp -> Prop) -> Prop
def PG (X : Cx) (target : Expr) (t : TG) : Prop :=
  ∀ (pins : List (Addr × Obj)) (s : Shared) (σ : St) (H : Hp) (v : V) (u : Value) (Q : St -> Hp -> Prop), Inv X pins σ H s -> bE v u -> t v σ H Q ->
    wpAny (model X.prog X.w) X.A (assign target X.env u) (fun _ s' => ∃ σ' H', Inv X pins σ' H' s' /\ Q σ' H') X.xe s
def PGs (X : Cx) (ts : List Expr) (t : TGs) : Prop :=
  ∀ (pins : List (Addr × Obj)) (s : Shared) (σ : St) (H : Hp) (vs : List V) (us : List Value) (Q : St -> Hp -> Prop), Inv X pins σ H s -> bB vs us -> t vs σ H Q ->
    wpAny (model X.prog X.w) X.A (assignInOrder ((assignEach ts X.env).map (·.2)) us) (fun _ s' => ∃ σ' H', Inv X pins σ' H' s' /\ Q σ' H') X.xe s
abbrev aCO := V -> V -> V -> Hp -> (Hp -> Prop) -> Prop
def aDz (X : Cx) (t : aCO) : Prop :=
  ∀ (pins : List (Addr × Obj)) (s : Shared) (σ : St) (H : Hp) (o i v : V) (ov iv u : Value) (Q : Hp -> Prop), Inv X pins σ H s -> bE o ov -> bE i iv -> bE v u -> t o i v H Q ->
    wpAny (model X.prog X.w) X.A (setItem ov iv u) (fun _ s' => ∃ H', Inv X pins σ H' s' /\ Q H') X.xe s
abbrev TIp := V -> V -> Hp -> VK -> Prop
def PIp (X : Cx) (op : Operator) (t : TIp) : Prop :=
  ∀ (pins : List (Addr × Obj)) (s : Shared) (σ : St) (H : Hp) (x y : V) (v u : Value) (Q : VK), Inv X pins σ H s -> bE x v -> bE y u -> t x y H Q ->
    wpAny (model X.prog X.w) X.A (inplaceOp op v u) (EP X pins σ Q) X.xe s
section
variable {X : Cx} {pos : Pos}
def xP (i : Nat) : TG := fun v σ H Q => Q (σ.set i (some v)) H
theorem aK {i : Nat} {x : Str} (hN : X.N.Nodup) (hi : X.N[i]? = some x) (hx : Loc X.env.scope x) (hf : X.fn x = true ∨ X.env.scope.names.lookup x = some .local := by first | exact .inl rfl | exact .inr rfl | assumption) : PG X (.Name x pos) (xP i) := by
  intro pins s σ H v u Q I r h
  exact wpAny_assign_Name (nO I hN hi hx r (fun s' I' => ⟨_, H, I', h⟩) hf)
def aD6 : TGs := fun vs σ H Q => vs = [] /\ Q σ H
def aDA (t : TG) (u : TGs) : TGs := fun vs σ H Q => ∃ v r, vs = v :: r /\ t v σ H fun σ' H' => u r σ' H' Q
theorem cT : PGs X [] aD6 := by
  intro pins s σ H vs us Q I r h
  obtain ⟨e, h⟩ := h
  subst e
  cases r
  exact assignInOrder_nil ⟨σ, H, I, h⟩
theorem aT {e : Expr} {es : List Expr} {t : TG} {u : TGs} (h1 : PG X e t) (h2 : PGs X es u)
    (hs : (assignEach (e :: es) X.env).map (·.2) = assign e X.env :: (assignEach es X.env).map (·.2) := by rfl) : PGs X (e :: es) (aDA t u) := by
  intro pins s σ H vs us Q I r h
  obtain ⟨v, vr, e1, h⟩ := h
  subst e1
  cases r with
  | cons r rr =>
    rw [hs]
    refine assignInOrder_cons (thn (h1 pins s σ H _ _ _ I r h) fun _ s1 hx9 => ?_)
    obtain ⟨σ1, H1, I1, q1⟩ := hx9
    exact h2 pins s1 σ1 H1 _ _ Q I1 rr q1
def aDB (K : PySem.W.Frag) (n : Nat) (t : TGs) : TG := fun v σ H Q => ∃ a xs, v = .ref a /\ SqT K H a xs /\ xs.length = n /\ t xs σ H Q
theorem fU {es : List Expr} {k : Nat} {t : TGs} {n : Nat} (hc : X.calm = true) (h : PGs X es t)
    (hn : (assignEach es X.env).length = n := by rfl) (hst : (assignEach es X.env).findIdx? (·.1) = none := by rfl) : PG X (.Tuple es k pos) (aDB X.K n t) := by
  intro pins s σ H v u Q I r hw
  obtain ⟨a, xs, e1, hq, hl, hw⟩ := hw
  subst e1
  cases r
  obtain ⟨its, rv, ht, hz⟩ := I.tuple hq
  refine assign_Tuple_tuple (I.ok.hd hc) ht (by simp [hn, <- hl, rv.length]) hst fun h' hx => ?_
  have I1 : Inv X pins σ H { s with heap := h' } := I.kept (t' := s.toks) fun b o e => hx b o (Nat.ne_of_lt (Heap.lt_size e)) e
  exact h pins _ σ H xs _ Q I1 (by simpa using rv) hw
def aD7 (to ti : TE) (t : aCO) : TG := fun v σ H Q => to σ H fun o H1 => ti σ H1 fun i H2 => t o i v H2 fun H3 => Q σ H3
theorem rT {o i : Expr} {to ti : TE} {t : aCO} (ho : PE X o to) (hi : PE X i ti) (hs : aDz X t)
    (ha : ∀ v, assign (.Subscript o i pos) X.env v = (do
      let ov <- holding [v] (eval o X.env)
      let iv <- holding [v, ov] (eval i X.env)
      standAt pos
      holding [v, ov, iv] (setItem ov iv v)
      release [v, ov, iv] []) := by intro _; rfl) : PG X (.Subscript o i pos) (aD7 to ti t) := by
  intro pins s σ H v u Q I r h
  rw [ha]
  refine wpAny_bind (wpAny_holding (thn (ho pins s σ H _ I h) fun ov s1 hx9 => ?_))
  obtain ⟨x, H1, I1, r1, q1⟩ := hx9
  refine wpAny_bind (wpAny_holding (thn (hi pins s1 σ H1 _ I1 q1) fun iv s2 hx9 => ?_))
  obtain ⟨y, H2, I2, r2, q2⟩ := hx9
  refine wpAny_bind (wpAny_standAt (wpAny_bind (wpAny_holding (thn (hs pins s2 σ H2 x y v ov iv u _ I2 r1 r2 r q2) fun _ s3 hx9 => ?_))))
  obtain ⟨H3, I3, q3⟩ := hx9
  exact wpAny_release ⟨σ, H3, I3, q3⟩
def aCP (te : TE) (g : TG) : TS := fun D σ H => te σ H fun x H1 => g x σ H1 D.nx
theorem gR {tg e : Expr} {te : TE} {g : TG} (he : PE X e te) (hg : PG X tg g) (hs : swapsWithSole [tg] e pos.line X.env = pure false := by rfl) (hw : swappedStores [tg] e X.env = pure none := by rfl)
    (h1 : (assignEach [tg] X.env).map (·.2) = [assign tg X.env] := by rfl) : PS X (.Assign [tg] e pos) (aCP te g) := by
  intro pins s σ H D I h
  refine wpAny_Assign_stores (thn (he pins s σ H _ I h) fun v s1 hx9 => ?_) hs hw
  obtain ⟨x, H1, I1, r1, q1⟩ := hx9
  rw [h1]
  exact thn (hg pins s1 σ H1 x v _ I1 r1 q1) fun _ s2 q => q
theorem aU {i : Nat} {x : Str} {e : Expr} {te : TE} {pos' : Pos} (hN : X.N.Nodup) (hi : X.N[i]? = some x) (hx : Loc X.env.scope x) (he : PE X e te) (hs : swapsWith e (some (.Name x pos')) pos.line X.env = pure false := by rfl) (hf : X.fn x = true ∨ X.env.scope.names.lookup x = some .local := by first | exact .inl rfl | exact .inr rfl | assumption) :
    PS X (.Assign [.Name x pos'] e pos) (aCP te (xP i)) := by
  intro pins s σ H D I h
  refine wpAny_Assign_Name (thn (he pins s σ H _ I h) fun v s1 hx9 => ?_) hs
  obtain ⟨y, H1, I1, r1, q1⟩ := hx9
  exact nO I1 hN hi hx r1 (fun s2 I2 => ⟨_, H1, I2, q1⟩) hf
def aD8 (i : Nat) (te : TE) (ti : TIp) : TS := fun D σ H => ∃ x, σ[i]? = some (some x) /\ te σ H fun y H1 => ti x y H1 fun z H2 => D.nx (σ.set i (some z)) H2
theorem aCQ {i : Nat} {x : Str} {e : Expr} {te : TE} {op : Operator} {ti : TIp} {pos' : Pos} (hN : X.N.Nodup) (hi : X.N[i]? = some x) (hx : Loc X.env.scope x) (he : PE X e te) (ho : PIp X op ti) (hf : X.fn x = true ∨ X.env.scope.names.lookup x = some .local := by first | exact .inl rfl | exact .inr rfl | assumption) :
    PS X (.AugAssign (.Name x pos') op e pos) (aD8 i te ti) := by
  intro pins s σ H D I h
  obtain ⟨v, e1, h⟩ := h
  obtain ⟨m, hn, hl⟩ := I.loc
  have vis : Vis X.env.scope x := by rcases hx with k | k; exact .inl k; exact .inr (.inl k)
  obtain ⟨u, r, l⟩ := hl i x v hi e1 vis
  refine wpAny_AugAssign_Name ?_
  have go : wpAny (model X.prog X.w) X.A (eval e X.env) (fun w s₂ => wpAny (model X.prog X.w) X.A (inplaceOp op u w) (fun r s₃ => wpAny (model X.prog X.w) X.A (storeName X.env x r) (fun _ => SP X pins D .next) X.xe s₃) X.xe s₂) X.xe s := by
    refine thn (he pins s σ H _ I h) fun w s1 hx9 => ?_
    obtain ⟨y, H1, I1, r1, q1⟩ := hx9
    refine thn (ho pins s1 σ H1 v y u w _ I1 r r1 q1) fun z s2 hx9 => ?_
    obtain ⟨zv, H2, I2, r2, q2⟩ := hx9
    exact nO I2 hN hi hx r2 (fun s3 I3 => ⟨_, H2, I3, q2⟩) hf
  rcases l with ⟨hk, hm⟩ | ⟨hk, c, hc, hcell⟩
  · exact wpAny_loadName_local I.ok.kind hk hn hm go
  · rcases hk with hk | hk
    · exact wpAny_loadName_cell I.ok.kind hk hc hcell go
    · rcases hx with k | k
      · have : X.env.scope.names.lookup x = some .free := hk
        rw [k] at this; cases this
      · have : X.env.scope.names.lookup x = some .free := hk
        rw [k] at this; cases this
def ipI (f : Int -> Int -> Int) : TIp := fun x y H Q => ∃ i j, x = .int i /\ y = .int j /\ Q (.int (f i j)) H
theorem aCR : PIp X .Add (ipI fun i j => i + j) := by
  intro pins s σ H x y v u Q I r1 r2 h
  obtain ⟨i, j, e1, e2, q⟩ := h
  subst e1; subst e2
  obtain ⟨t, rfl⟩ := r1
  obtain ⟨t', rfl⟩ := r2
  exact iadd_int ⟨.int _, H, I.tok _, ⟨_, rfl⟩, q⟩
end
section
variable {X : Cx} {pos : Pos}
def aCS (c : TT) (tb : TS) : TS := fun D σ H => ∃ W : Nat -> St -> Hp -> Prop, (∃ m, W m σ H) /\ ∀ m σ H, W m σ H ->
  c σ H fun b H1 => if b = true then ∃ N : St -> Hp -> Prop, (∀ σ' H', N σ' H' -> ∃ m', m' < m /\ W m' σ' H') /\ tb { D with nx := N, ct := N, bk := D.nx } σ H1 else D.nx σ H1
theorem nQ {c : Expr} {body : List Stmt} {tc : TT} {tb : TS} (hp : PassesOwn (model X.prog X.w) X.A X.env X.xe) (hc : PT X c tc) (hb : PSs X body tb) : PS X (.While c body [] pos) (aCS tc tb) := by
  intro pins s σ H D I h
  obtain ⟨W, ⟨m0, w0⟩, turn⟩ := h
  refine wpAny_While (codeAny_whileLoop (fun n s' => ∃ σ' H', Inv X pins σ' H' s' /\ W n σ' H') ?_ m0 ⟨σ, H, I, w0⟩)
  rintro n s1 ⟨σ1, H1, I1, w1⟩
  refine wpAny_passesOwn hp (thn (hc pins s1 σ1 H1 _ I1 (turn n σ1 H1 w1)) fun b s2 hx9 => ?_)
  obtain ⟨H2, I2, q2⟩ := hx9
  cases b with
  | true =>
    obtain ⟨N, hN, q2⟩ := q2
    rw [if_pos rfl]
    refine wpAny_passesOwn hp (thn (hb pins s2 σ1 H2 _ I2 q2) fun f s3 q3 => ?_)
    cases f with
    | next =>
      obtain ⟨σ3, H3, I3, n3⟩ := q3
      obtain ⟨m', hm, w3⟩ := hN σ3 H3 n3
      exact ⟨m', hm, σ3, H3, I3, w3⟩
    | cont =>
      obtain ⟨σ3, H3, I3, n3⟩ := q3
      obtain ⟨m', hm, w3⟩ := hN σ3 H3 n3
      exact ⟨m', hm, σ3, H3, I3, w3⟩
    | brk => exact q3
    | ret v => exact q3
  | false =>
    rw [if_neg Bool.false_ne_true]
    exact wpAny_execs_nil ⟨σ1, H2, I2, q2⟩
end
structure It where
  go : Nat -> Hp -> Prop
  yld : Nat -> Hp -> V -> Hp -> Prop
  stop : Nat -> Hp -> Prop
def kL (X : Cx) (pins : List (Addr × Obj)) (H : Hp) (b : Addr) : Prop :=
  H b = none /\ b ≠ X.env.locals /\ b ∉ X.fs /\ (b ∈ X.ex ∨ X.s₀.heap.objs.size <= b) /\ (∀ x c, X.env.cells.lookup x = some c -> c ≠ b) /\ ∀ p ∈ X.pn ++ pins, p.1 ≠ b
theorem Inv.fpOk {X : Cx} {pins : List (Addr × Obj)} {σ : St} {H H' : Hp} {s : Shared} {b : Addr} (I : Inv X pins σ H s) (hb : s.heap.objs.size <= b) (hn : H' b = none) : kL X pins H' b := by
  refine ⟨hn, Nat.ne_of_gt (Nat.lt_of_lt_of_le I.lt hb), I.nofs hb, .inr (Nat.le_trans I.sz hb), fun x c e z => ?_, fun p hp z => ?_⟩
  · obtain ⟨v, q⟩ := I.cell x c e
    exact absurd (Nat.lt_of_lt_of_le q.lt (by rw [z]; exact hb)) (Nat.lt_irrefl _)
  · exact absurd (Nat.lt_of_lt_of_le (Heap.lt_size (I.pin p hp).1) (by rw [z]; exact hb)) (Nat.lt_irrefl _)
structure Turn (P : Program) (w : World) (K : PySem.W.Frag) (tg : Expr) (J : It) (fp : List Addr) (it : Addr) (tn : Nat -> Heap -> Prop) : Prop where
  mem : it ∈ fp
  obj : ∀ i h, tn i h -> ∀ b ∈ fp, ∃ o, h.get? b = some o /\ ∀ v, o.data ≠ .cell v
  keep : ∀ i h h', tn i h -> (∀ b ∈ fp, ∀ o, h.get? b = some o -> h'.get? b = some o) -> tn i h'
  item : ∀ (X : Cx), X.prog = P -> X.w = w -> X.K = K -> X.calm = true -> ∀ (i : Nat) (pins : List (Addr × Obj)) (s : Shared) (σ : St) (H : Hp) (E : Value -> Shared -> Prop), Inv X pins σ H s -> (∀ b ∈ fp, kL X pins H b) -> tn i s.heap -> J.go i H ->
    wpAny (model P w) X.A (pyNext (.ref it)) (fun r s1 => ∃ u, r = some u /\
      wpAny (model P w) X.A (letOwnedTupleGo tg (.ref it) u) (fun _ s2 => ∃ x H', Inv X pins σ H' s2 /\ bE x u /\ J.yld i H x H' /\ tn (i + 1) s2.heap /\ ∀ b ∈ fp, H' b = none) E s1) E s
  done : ∀ (X : Cx), X.prog = P -> X.w = w -> X.K = K -> X.calm = true -> ∀ (i : Nat) (pins : List (Addr × Obj)) (s : Shared) (σ : St) (H : Hp) (E : Value -> Shared -> Prop), Inv X pins σ H s -> (∀ b ∈ fp, kL X pins H b) -> tn i s.heap -> J.stop i H ->
    wpAny (model P w) X.A (pyNext (.ref it)) (fun r s1 => r = none /\ Inv X pins σ H s1) E s
  self : ∀ (A : Around) (i : Nat) (s : Shared) (Q : Value -> Shared -> Prop) (E : Value -> Shared -> Prop), tn i s.heap -> Q (.ref it) s -> wpAny (model P w) A (pyIter (.ref it)) Q E s
abbrev TI := St -> Hp -> (It -> Hp -> Prop) -> Prop
def PIE (X : Cx) (pins : List (Addr × Obj)) (σ : St) (tg : Expr) (R : It -> Hp -> Prop) (itv : Value) (s2 : Shared) : Prop :=
  ∃ (it : Addr) (fp : List Addr) (tn : Nat -> Heap -> Prop) (J : It) (H' : Hp), itv = .ref it /\ Inv X pins σ H' s2 /\ Turn X.prog X.w X.K tg J fp it tn /\ tn 0 s2.heap /\ (∀ b ∈ fp, kL X pins H' b) /\ R J H'
def PI (X : Cx) (tg iter : Expr) (wi : TI) : Prop :=
  ∀ (pins : List (Addr × Obj)) (s : Shared) (σ : St) (H : Hp) (R : It -> Hp -> Prop), Inv X pins σ H s -> wi σ H R ->
    wpAny (model X.prog X.w) X.A (eval iter X.env) (fun v s1 => wpAny (model X.prog X.w) X.A (pyIter v) (PIE X pins σ tg R) X.xe s1) X.xe s
theorem xQ {M : Model} {A : Around} {E : Value -> Shared -> Prop} {s : Shared} {tg : Expr} {it : Addr} {u : Value} {o : Obj} {n : String} {vs : Array Value} {Q : Unit -> Shared -> Prop} (ho : s.heap.get? it = some o) (hc : o.cls = .type n) (hd : o.data = .fields vs)
    (hn : ["enumerate", "zip", "dict_itemiterator", "dict_reverseitemiterator", "odict_iterator", "itertools.zip_longest", "itertools.pairwise"].contains n = false) (hQ : Q () s) : wpAny M A (letOwnedTupleGo tg (.ref it) u) Q E s := by
  unfold letOwnedTupleGo
  cases tg <;> first
    | exact wpAny_pure hQ
    | (cases u <;> first
        | exact wpAny_pure hQ
        | (refine wpAny_bind (wpAny_load ho ?_)
           rw [hc, hd]
           show wpAny M A (if (["enumerate", "zip", "dict_itemiterator", "dict_reverseitemiterator", "odict_iterator", "itertools.zip_longest", "itertools.pairwise"].contains n && vs[0]? == some (rawInt _)) = true then _ else _) Q E s
           rw [if_neg (by intro h; rw [hn, Bool.false_and] at h; cases h)]
           exact wpAny_pure hQ))
def Itl (K : PySem.W.Frag) (a : Addr) : It :=
  ⟨fun i H => ∃ xs x, SqL K H a xs /\ xs[i]? = some x, fun i H x H' => H' = H /\ ∀ xs, SqL K H a xs -> xs[i]? = some x, fun i H => ∃ xs, SqL K H a xs /\ xs.length <= i⟩
def Itt (K : PySem.W.Frag) (a : Addr) : It :=
  ⟨fun i H => ∃ xs x, SqT K H a xs /\ xs[i]? = some x, fun i H x H' => H' = H /\ ∀ xs, SqT K H a xs -> xs[i]? = some x, fun i H => ∃ xs, SqT K H a xs /\ xs.length <= i⟩
def Itr (lo : Int) (n : Nat) : It := ⟨fun i _ => i < n, fun i H x H' => H' = H /\ x = .int (lo + i), fun i _ => n <= i⟩
theorem zD {P : Program} {w : World} {K : PySem.W.Frag} {tg : Expr} (a it : Addr) : Turn P w K tg (Itl K a) [it] it (fun i h => h.IsListIter it a i) where
  mem := by simp
  obj := fun i h st b hb => by
    have e : b = it := by simpa using hb
    subst e
    obtain ⟨o, e, c, d⟩ := st
    exact ⟨o, e, fun v z => by rw [d] at z; cases z⟩
  keep := fun i h h' st k => st.at fun o e => k it (by simp) o e
  item := by
    intro X hP hw hK hc i pins s σ H E I hf st hg
    subst hP hw hK
    obtain ⟨xs, x, hq, hx⟩ := hg
    obtain ⟨its, rv, p, hz⟩ := I.list hq
    obtain ⟨u, hu, ru⟩ := rv.get hx
    obtain ⟨f0, f1, f2, f3, f4, f5⟩ := hf it (by simp)
    refine wpAny_pyNext_list_item st p.isList (x := u) (by simpa using hu) fun h' st' sb => ?_
    have I1 : Inv X pins σ H { s with heap := h' } := I.turned (t' := s.toks) (fun b o hb e => (sb.2 b hb).trans e) f0 f1 f3 f4 f5
    obtain ⟨o, e, c, d⟩ := id st'
    exact ⟨u, rfl, xQ (s := { s with heap := h' }) e c d (by decide) ⟨x, H, I1, ru, ⟨rfl, fun ys hy => by rw [I.list_inj hy hq]; exact hx⟩, st', fun b hb => (hf b hb).1⟩⟩
  done := by
    intro X hP hw hK hc i pins s σ H E I hf st hg
    subst hP hw hK
    obtain ⟨xs, hq, hx⟩ := hg
    obtain ⟨its, rv, p, hz⟩ := I.list hq
    obtain ⟨f0, f1, f2, f3, f4, f5⟩ := hf it (by simp)
    have hl := rv.length
    exact wpAny_pyNext_list_end (I.ok.hd hc) st p.isList (by simp; omega) fun h' eb => ⟨rfl, I.turned (t' := s.toks) (fun b o hb e => eb b o hb e) f0 f1 f3 f4 f5⟩
  self := fun _ _ _ _ _ st h => wpAny_pyIter_listiter st h
theorem vT {P : Program} {w : World} {K : PySem.W.Frag} {tg : Expr} (a it : Addr) : Turn P w K tg (Itt K a) [it] it (fun i h => h.IsTupleIter it a i) where
  mem := by simp
  obj := fun i h st b hb => by
    have e : b = it := by simpa using hb
    subst e
    obtain ⟨o, e, c, d⟩ := st
    exact ⟨o, e, fun v z => by rw [d] at z; cases z⟩
  keep := fun i h h' st k => st.at fun o e => k it (by simp) o e
  item := by
    intro X hP hw hK hc i pins s σ H E I hf st hg
    subst hP hw hK
    obtain ⟨xs, x, hq, hx⟩ := hg
    obtain ⟨its, rv, p, hz⟩ := I.tuple hq
    obtain ⟨u, hu, ru⟩ := rv.get hx
    obtain ⟨f0, f1, f2, f3, f4, f5⟩ := hf it (by simp)
    refine wpAny_pyNext_tuple_item st (show s.heap.IsTuple a its.toArray from p) (x := u) (by simpa using hu) fun h' st' sb => ?_
    have I1 : Inv X pins σ H { s with heap := h' } := I.turned (t' := s.toks) (fun b o hb e => (sb.2 b hb).trans e) f0 f1 f3 f4 f5
    obtain ⟨o, e, c, d⟩ := id st'
    exact ⟨u, rfl, xQ (s := { s with heap := h' }) e c d (by decide) ⟨x, H, I1, ru, ⟨rfl, fun ys hy => by rw [I.tuple_inj hy hq]; exact hx⟩, st', fun b hb => (hf b hb).1⟩⟩
  done := by
    intro X hP hw hK hc i pins s σ H E I hf st hg
    subst hP hw hK
    obtain ⟨xs, hq, hx⟩ := hg
    obtain ⟨its, rv, p, hz⟩ := I.tuple hq
    obtain ⟨f0, f1, f2, f3, f4, f5⟩ := hf it (by simp)
    have hl := rv.length
    exact wpAny_pyNext_tuple_end (I.ok.hd hc) st (show s.heap.IsTuple a its.toArray from p) (by simp; omega) fun h' eb => ⟨rfl, I.turned (t' := s.toks) (fun b o hb e => eb b o hb e) f0 f1 f3 f4 f5⟩
  self := fun _ _ _ _ _ st h => wpAny_pyIter_tupleiter st h
theorem vU {P : Program} {w : World} {K : PySem.W.Frag} {tg : Expr} (it : Addr) (lo : Int) (n : Nat) : Turn P w K tg (Itr lo n) [it] it (fun i h => IsRangeIter h it (lo + (i : Nat) * 1) ((n : Int) - (i : Nat)) 1) where
  mem := by simp
  obj := fun i h st b hb => by
    have e : b = it := by simpa using hb
    subst e
    exact ⟨_, st, fun v z => by
      have z' : Data.fields _ = Data.cell v := z
      cases z'⟩
  keep := fun i h h' st k => k it (by simp) _ st
  item := by
    intro X hP hw hK hc i pins s σ H E I hf st hg
    subst hP hw hK
    obtain ⟨f0, f1, f2, f3, f4, f5⟩ := hf it (by simp)
    have W := Walks.range (prog := X.prog) (w := X.w) (I.ok.hd hc) it lo 1 n
    refine W.item i s _ _ hg st fun v h' tk hv st' kk => ?_
    obtain ⟨t, rfl⟩ := hv
    have I1 : Inv X pins σ H { s with heap := h', toks := tk } := I.turned (fun b o hb e => kk b o (by simpa using hb) e) f0 f1 f3 f4 f5
    refine ⟨_, rfl, xQ (s := { s with heap := h', toks := tk }) (n := "range_iterator") st' rfl rfl (by decide) ⟨.int (lo + i), H, I1, ⟨t, ?_⟩, ⟨rfl, rfl⟩, st', fun b hb => (hf b hb).1⟩⟩
    rw [Int.mul_one]
  done := by
    intro X hP hw hK hc i pins s σ H E I hf st hg
    subst hP hw hK
    obtain ⟨f0, f1, f2, f3, f4, f5⟩ := hf it (by simp)
    exact wpAny_pyNext_range_end (I.ok.hd hc) st (by have : n <= i := hg; omega) fun h' eb => ⟨rfl, I.turned (t' := s.toks) (fun b o hb e => eb b o hb e) f0 f1 f3 f4 f5⟩
  self := fun _ _ _ _ _ st h => wpAny_pyIter_rangeiter st h
end L2
namespace L2
open PySem PySem.Spec PyProof.Rows
section
variable {X : Cx} {tg : Expr}
def aDC (K : PySem.W.Frag) (tl : TE) : TI := fun σ H R => tl σ H fun x H1 => ∃ a, x = .ref a /\ (∃ xs, SqL K H1 a xs) /\ R (Itl K a) H1
def aDD (K : PySem.W.Frag) (tl : TE) : TI := fun σ H R => tl σ H fun x H1 => ∃ a, x = .ref a /\ (∃ xs, SqT K H1 a xs) /\ R (Itt K a) H1
theorem lA {l : Expr} {tl : TE} (hl : PE X l tl) : PI X tg l (aDC X.K tl) := by
  intro pins s σ H R I h
  refine thn (hl pins s σ H _ I h) fun v s1 hx9 => ?_
  obtain ⟨x, H1, I1, r1, q1⟩ := hx9
  obtain ⟨a, e, ⟨xs, hq⟩, q⟩ := q1
  subst e
  cases r1
  obtain ⟨its, rv, p, hz⟩ := I1.list hq
  refine wpAny_pyIter_list p.isList ?_
  refine ⟨s1.heap.objs.size, [s1.heap.objs.size], _, _, H1, rfl, I1.kept (t' := s1.toks) fun b o e => Heap.get?_push_of_some _ e, zD a _, ⟨_, Heap.get?_push_size _ rfl, rfl, rfl⟩, fun b hb => ?_, q⟩
  have e : b = s1.heap.objs.size := by simpa using hb
  subst e
  exact I1.fpOk (Nat.le_refl _) (I1.hok.fresh (Nat.le_refl _))
theorem gS {l : Expr} {tl : TE} (hl : PE X l tl) : PI X tg l (aDD X.K tl) := by
  intro pins s σ H R I h
  refine thn (hl pins s σ H _ I h) fun v s1 hx9 => ?_
  obtain ⟨x, H1, I1, r1, q1⟩ := hx9
  obtain ⟨a, e, ⟨xs, hq⟩, q⟩ := q1
  subst e
  cases r1
  obtain ⟨its, rv, p, hz⟩ := I1.tuple hq
  refine wpAny_pyIter_tuple (show s1.heap.IsTuple a its.toArray from p) ?_
  refine ⟨s1.heap.objs.size, [s1.heap.objs.size], _, _, H1, rfl, I1.kept (t' := s1.toks) fun b o e => Heap.get?_push_of_some _ e, vT a _, ⟨_, Heap.get?_push_size _ rfl, rfl, rfl⟩, fun b hb => ?_, q⟩
  have e : b = s1.heap.objs.size := by simpa using hb
  subst e
  exact I1.fpOk (Nat.le_refl _) (I1.hok.fresh (Nat.le_refl _))
theorem aAm {pins : List (Addr × Obj)} {σ : St} {H : Hp} {s : Shared} {R : It -> Hp -> Prop} {E : Value -> Shared -> Prop} {lo hi : Int} {t u v : Tok} {tk : Nat} (I : Inv X pins σ H s) (h1 : -(2 ^ 62) <= lo) (h2 : lo < 2 ^ 62) (h3 : -(2 ^ 62) <= hi) (h4 : hi < 2 ^ 62)
    (q : R (Itr lo (hi - lo).toNat) H) : wpAny (model X.prog X.w) X.A (pyIter (.ref s.heap.objs.size)) (PIE X pins σ tg R) E { s with heap := s.heap.push { cls := .type "range", data := .fields #[.int lo t, .int hi u, .int 1 v] }, toks := tk } := by
  refine wpAny_pyIter_range (IsRange.new ..) (small_one h1 h2 h3 h4) ?_
  have I1 : Inv X pins σ H { s with heap := s.heap.push { cls := .type "range", data := .fields #[.int lo t, .int hi u, .int 1 v] }, toks := tk } := I.kept fun b o e => Heap.get?_push_of_some _ e
  refine ⟨(s.heap.push { cls := .type "range", data := .fields #[.int lo t, .int hi u, .int 1 v] }).objs.size, [(s.heap.push { cls := .type "range", data := .fields #[.int lo t, .int hi u, .int 1 v] }).objs.size], _, _, H, rfl,
    I1.kept (t' := tk) fun b o e => Heap.get?_push_of_some _ e, vU _ lo (hi - lo).toNat, ?_, fun b hb => ?_, q⟩
  · have e1 : lo + ((0 : Nat) : Int) * 1 = lo := by simp
    have e2 : (((hi - lo).toNat : Nat) : Int) - ((0 : Nat) : Int) = Builtin.Range.rangeSize lo hi 1 := by rw [rangeSize_one]; split <;> omega
    show IsRangeIter _ _ (lo + ((0 : Nat) : Int) * 1) ((((hi - lo).toNat : Nat) : Int) - ((0 : Nat) : Int)) 1
    rw [e1, e2]
    exact Heap.get?_push_size _ rfl
  · have e : b = (s.heap.push { cls := .type "range", data := .fields #[.int lo t, .int hi u, .int 1 v] }).objs.size := by simpa using hb
    subst e
    exact I1.fpOk (Nat.le_refl _) (I1.hok.fresh (Nat.le_refl _))
def aDE (ta : TA) : TI := fun σ H R => ta σ H fun vs H1 => ∃ j : Int, vs = [.int j] /\ -(2 ^ 62) <= j /\ j < 2 ^ 62 /\ R (Itr 0 j.toNat) H1
theorem eQ {a : Expr} {ta : TA} {p pos : Pos} (hg : Gl X "range") (hm : X.mg "range" = none) (ha : PA X [a] ta) (hs : starEach [a] X.env = [(false, eval a X.env)] := by rfl) : PI X tg (.Call (.Name "range" p) [a] [] pos) (aDE ta) := by
  intro pins s σ H R I h
  refine Call_ (iM I hg hm boot_range (PyProof.Rows.callWith_type1 (thn (ha pos pins s σ H _ I h) fun us s1 hx9 => ?_) hs rfl))
  obtain ⟨vs, H1, I1, r1, q1⟩ := hx9
  obtain ⟨j, e, q1, q2, q⟩ := q1
  subst e
  cases r1 with
  | cons r rr =>
    cases rr
    obtain ⟨t, rfl⟩ := r
    exact call_range_1 (aAm I1 (by omega) (by omega) q1 q2 (by simpa using q))
def aD9 (wi : TI) (g : TG) (tb : TS) : TS := fun D σ H => wi σ H fun J H1 => ∃ W : Nat -> Nat -> St -> Hp -> Prop, (∃ m, W 0 m σ H1) /\ ∀ i m σ H, W i m σ H ->
  (J.stop i H /\ D.nx σ H) ∨ (J.go i H /\ ∃ N : St -> Hp -> Prop, (∀ σ' H', N σ' H' -> ∃ m', m' < m /\ W (i + 1) m' σ' H') /\ ∀ x H', J.yld i H x H' -> g x σ H' fun σ2 H2 => tb { D with nx := N, ct := N, bk := D.nx } σ2 H2)
def kM (fp : List Addr) (h : Heap) : List (Addr × Obj) := fp.filterMap fun b => (h.get? b).map fun o => (b, o)
theorem dP {fp : List Addr} {h : Heap} {b : Addr} {o : Obj} (hb : b ∈ fp) (e : h.get? b = some o) : (b, o) ∈ kM fp h := List.mem_filterMap.mpr ⟨b, hb, by rw [e]; rfl⟩
theorem qA {fp : List Addr} {h : Heap} {p : Addr × Obj} (hp : p ∈ kM fp h) : p.1 ∈ fp /\ h.get? p.1 = some p.2 := by
  obtain ⟨b, hb, e⟩ := List.mem_filterMap.mp hp
  cases q : h.get? b with
  | none => rw [q] at e; cases e
  | some o =>
    rw [q] at e
    have e' : (b, o) = p := Option.some.inj e
    subst e'
    exact ⟨hb, q⟩
theorem Inv.pinned {pins : List (Addr × Obj)} {σ : St} {H : Hp} {s : Shared} {fp : List Addr} (I : Inv X pins σ H s) (hf : ∀ b ∈ fp, kL X pins H b) (ho : ∀ b ∈ fp, ∃ o, s.heap.get? b = some o /\ ∀ v, o.data ≠ .cell v) : Inv X (pins ++ kM fp s.heap) σ H s :=
  I.pins_of fun p hp => (List.mem_append.mp hp).elim (fun z => I.pin p (List.mem_append_right _ z)) fun z => by
    obtain ⟨hb, e⟩ := qA z
    obtain ⟨f0, f1, f2, _⟩ := hf p.1 hb
    obtain ⟨o, e', d⟩ := ho p.1 hb
    rw [e] at e'; cases e'
    exact ⟨e, f0, f1, f2, d⟩
theorem Inv.unpinned {pins pl : List (Addr × Obj)} {σ : St} {H : Hp} {s : Shared} (I : Inv X (pins ++ pl) σ H s) : Inv X pins σ H s := I.pins_of fun p hp => I.pin p (List.mem_append_right _ (List.mem_append_left _ hp))
theorem eW {iter : Expr} {body : List Stmt} {wi : TI} {g : TG} {tb : TS} {pos : Pos} (hp : PassesOwn (model X.prog X.w) X.A X.env X.xe) (hc : X.calm = true) (hi : PI X tg iter wi) (hg : PG X tg g) (hb : PSs X body tb)
    (hs : ∀ x, foldedSetIterable iter X.env x = pure x := by intro _; rfl) : PS X (.For tg iter body [] pos) (aD9 wi g tb) := by
  intro pins s σ H D I h
  refine wpAny_For (thn (hi pins s σ H _ I h) fun v s1 h1 => thn h1 fun itv s2 h2 => ?_) hs
  obtain ⟨it, fp, tn, J, H2, e, I2, T, st2, f2, W, ⟨m0, w0⟩, turn⟩ := h2
  subst e
  -- what stays true of the iterator's objects through the loop
  have stat : ∀ {H' : Hp}, (∀ b ∈ fp, H' b = none) -> ∀ b ∈ fp, kL X pins H' b := fun hn b hb => ⟨hn b hb, (f2 b hb).2⟩
  refine codeAny_forLoop_any (fun n s' => ∃ i σ' H', Inv X pins σ' H' s' /\ tn i s'.heap /\ (∀ b ∈ fp, H' b = none) /\ W i n σ' H') ?_ m0 ⟨0, σ, H2, I2, st2, fun b hb => (f2 b hb).1, w0⟩
  rintro n s3 ⟨i, σ3, H3, I3, st3, fr3, w3⟩
  rcases turn i n σ3 H3 w3 with ⟨stop, qn⟩ | ⟨go, N, hN, step⟩
  · refine wpAny_passesOwn hp (thn (T.done X rfl rfl rfl hc i pins s3 σ3 H3 X.xe I3 (stat fr3) st3 stop) fun r s4 hx9 => ?_)
    obtain ⟨hr, I4⟩ := hx9
    subst hr
    exact wpAny_execs_nil ⟨σ3, H3, I4, qn⟩
  · refine wpAny_passesOwn hp (thn (T.item X rfl rfl rfl hc i pins s3 σ3 H3 X.xe I3 (stat fr3) st3 go) fun r s4 hx9 => ?_)
    obtain ⟨u, hr, h4⟩ := hx9
    subst hr
    refine wpAny_passesOwn hp (thn h4 fun _ s5 hx9 => ?_)
    obtain ⟨x, H5, I5, r5, y5, st5, fr5⟩ := hx9
    have I5' := I5.pinned (stat fr5) (T.obj _ _ st5)
    refine wpAny_passesOwn hp (thn (hg _ s5 σ3 H5 x u _ I5' r5 (step x H5 y5)) fun _ s6 hx9 => ?_)
    obtain ⟨σ6, H6, I6, q6⟩ := hx9
    refine wpAny_passesOwn hp (thn (hb _ s6 σ6 H6 _ I6 q6) fun f s7 q7 => ?_)
    have again : ∀ {σ7 : St} {H7 : Hp}, Inv X (pins ++ kM fp s5.heap) σ7 H7 s7 -> N σ7 H7 -> ∃ m, m < n /\ ∃ i σ' H', Inv X pins σ' H' s7 /\ tn i s7.heap /\ (∀ b ∈ fp, H' b = none) /\ W i m σ' H' := fun {σ7 H7} I7 n7 => by
      obtain ⟨m', hm, w7⟩ := hN σ7 H7 n7
      refine ⟨m', hm, i + 1, σ7, H7, I7.unpinned, T.keep _ _ _ st5 fun b hb o e => (I7.pin (b, o) (List.mem_append_right _ (List.mem_append_right _ (dP hb e)))).1, fun b hb => ?_, w7⟩
      obtain ⟨o, e, d⟩ := T.obj _ _ st5 b hb
      exact (I7.pin (b, o) (List.mem_append_right _ (List.mem_append_right _ (dP hb e)))).2.1
    cases f with
    | next => obtain ⟨σ7, H7, I7, n7⟩ := q7; exact again I7 n7
    | cont => obtain ⟨σ7, H7, I7, n7⟩ := q7; exact again I7 n7
    | brk => obtain ⟨σ7, H7, I7, q7⟩ := q7; exact ⟨σ7, H7, I7.unpinned, q7⟩
    | ret v => obtain ⟨x7, σ7, H7, I7, r7, q7⟩ := q7; exact ⟨x7, σ7, H7, I7.unpinned, r7, q7⟩
end
theorem tK {K : PySem.W.Frag} {a : Addr} {xs : List V} {g : TG} {tb : TS} {D : Ends} {σ : St} {H : Hp} (Pv : Nat -> St -> Hp -> Prop) (h0 : Pv 0 σ H) (hl : ∀ i σ H, i <= xs.length -> Pv i σ H -> SqL K H a xs)
    (hs : ∀ i x σ H, xs[i]? = some x -> Pv i σ H -> g x σ H fun σ2 H2 => tb { D with nx := Pv (i + 1), ct := Pv (i + 1), bk := D.nx } σ2 H2) (hd : ∀ σ H, Pv xs.length σ H -> D.nx σ H) :
    ∃ W : Nat -> Nat -> St -> Hp -> Prop, (∃ m, W 0 m σ H) /\ ∀ i m σ H, W i m σ H ->
      ((Itl K a).stop i H /\ D.nx σ H) ∨ ((Itl K a).go i H /\ ∃ N : St -> Hp -> Prop, (∀ σ' H', N σ' H' -> ∃ m', m' < m /\ W (i + 1) m' σ' H') /\ ∀ x H', (Itl K a).yld i H x H' -> g x σ H' fun σ2 H2 => tb { D with nx := N, ct := N, bk := D.nx } σ2 H2) := by
  refine ⟨fun i m σ H => m = xs.length - i /\ i <= xs.length /\ Pv i σ H, ⟨xs.length, by simp, Nat.zero_le _, h0⟩, ?_⟩
  rintro i m σ H ⟨rfl, hi, p⟩
  have q := hl i σ H hi p
  by_cases hlt : i < xs.length
  · refine .inr ⟨⟨xs, xs[i], q, by simp [hlt]⟩, Pv (i + 1), fun σ' H' p' => ⟨xs.length - (i + 1), by omega, rfl, hlt, p'⟩, fun x H' y => ?_⟩
    obtain ⟨e, y⟩ := y
    subst e
    exact hs i x σ _ (y xs q) p
  · have e : i = xs.length := by omega
    subst e
    exact .inl ⟨⟨xs, q, Nat.le_refl _⟩, hd σ H p⟩
theorem rV {K : PySem.W.Frag} {a : Addr} {xs : List V} {g : TG} {tb : TS} {D : Ends} {σ : St} {H : Hp} (Pv : Nat -> St -> Hp -> Prop) (h0 : Pv 0 σ H) (hl : ∀ i σ H, i <= xs.length -> Pv i σ H -> SqT K H a xs)
    (hs : ∀ i x σ H, xs[i]? = some x -> Pv i σ H -> g x σ H fun σ2 H2 => tb { D with nx := Pv (i + 1), ct := Pv (i + 1), bk := D.nx } σ2 H2) (hd : ∀ σ H, Pv xs.length σ H -> D.nx σ H) :
    ∃ W : Nat -> Nat -> St -> Hp -> Prop, (∃ m, W 0 m σ H) /\ ∀ i m σ H, W i m σ H ->
      ((Itt K a).stop i H /\ D.nx σ H) ∨ ((Itt K a).go i H /\ ∃ N : St -> Hp -> Prop, (∀ σ' H', N σ' H' -> ∃ m', m' < m /\ W (i + 1) m' σ' H') /\ ∀ x H', (Itt K a).yld i H x H' -> g x σ H' fun σ2 H2 => tb { D with nx := N, ct := N, bk := D.nx } σ2 H2) := by
  refine ⟨fun i m σ H => m = xs.length - i /\ i <= xs.length /\ Pv i σ H, ⟨xs.length, by simp, Nat.zero_le _, h0⟩, ?_⟩
  rintro i m σ H ⟨rfl, hi, p⟩
  have q := hl i σ H hi p
  by_cases hlt : i < xs.length
  · refine .inr ⟨⟨xs, xs[i], q, by simp [hlt]⟩, Pv (i + 1), fun σ' H' p' => ⟨xs.length - (i + 1), by omega, rfl, hlt, p'⟩, fun x H' y => ?_⟩
    obtain ⟨e, y⟩ := y
    subst e
    exact hs i x σ _ (y xs q) p
  · have e : i = xs.length := by omega
    subst e
    exact .inl ⟨⟨xs, q, Nat.le_refl _⟩, hd σ H p⟩
theorem iE {lo : Int} {n : Nat} {g : TG} {tb : TS} {D : Ends} {σ : St} {H : Hp} (Pv : Nat -> St -> Hp -> Prop) (h0 : Pv 0 σ H)
    (hs : ∀ i σ H, i < n -> Pv i σ H -> g (.int (lo + i)) σ H fun σ2 H2 => tb { D with nx := Pv (i + 1), ct := Pv (i + 1), bk := D.nx } σ2 H2) (hd : ∀ σ H, Pv n σ H -> D.nx σ H) :
    ∃ W : Nat -> Nat -> St -> Hp -> Prop, (∃ m, W 0 m σ H) /\ ∀ i m σ H, W i m σ H ->
      ((Itr lo n).stop i H /\ D.nx σ H) ∨ ((Itr lo n).go i H /\ ∃ N : St -> Hp -> Prop, (∀ σ' H', N σ' H' -> ∃ m', m' < m /\ W (i + 1) m' σ' H') /\ ∀ x H', (Itr lo n).yld i H x H' -> g x σ H' fun σ2 H2 => tb { D with nx := N, ct := N, bk := D.nx } σ2 H2) := by
  refine ⟨fun i m σ H => m = n - i /\ i <= n /\ Pv i σ H, ⟨n, by simp, Nat.zero_le _, h0⟩, ?_⟩
  rintro i m σ H ⟨rfl, hi, p⟩
  by_cases hlt : i < n
  · refine .inr ⟨hlt, Pv (i + 1), fun σ' H' p' => ⟨n - (i + 1), by omega, rfl, hlt, p'⟩, fun x H' y => ?_⟩
    obtain ⟨e, y⟩ := y
    subst e y
    exact hs i σ _ hlt p
  · have e : i = n := by omega
    subst e
    exact .inl ⟨Nat.le_refl _, hd σ H p⟩
end L2
namespace L2
open PySem PySem.Spec PyProof.Rows
abbrev R2 := V -> V -> Hp -> VK -> Prop
def OpR (X : Cx) (f : Value -> Value -> Sem Value) (r : R2) : Prop :=
  ∀ (pins : List (Addr × Obj)) (s : Shared) (σ : St) (H : Hp) (x y : V) (v u : Value) (Q : VK), Inv X pins σ H s -> bE x v -> bE y u -> r x y H Q ->
    wpAny (model X.prog X.w) X.A (f v u) (EP X pins σ Q) X.xe s
def UnR (X : Cx) (f : Value -> Sem Value) (r : V -> Hp -> VK -> Prop) : Prop :=
  ∀ (pins : List (Addr × Obj)) (s : Shared) (σ : St) (H : Hp) (x : V) (v : Value) (Q : VK), Inv X pins σ H s -> bE x v -> r x H Q ->
    wpAny (model X.prog X.w) X.A (f v) (EP X pins σ Q) X.xe s
def eX (X : Cx) (f : Value) (r : List V -> Hp -> VK -> Prop) : Prop :=
  ∀ (pins : List (Addr × Obj)) (s : Shared) (σ : St) (H : Hp) (xs : List V) (us : List Value) (Q : VK), Inv X pins σ H s -> bB xs us -> r xs H Q ->
    wpAny (model X.prog X.w) X.A (call f us) (EP X pins σ Q) X.xe s
def aEa (X : Cx) (r : V -> Hp -> (Bool -> Hp -> Prop) -> Prop) : Prop :=
  ∀ (pins : List (Addr × Obj)) (s : Shared) (σ : St) (H : Hp) (x : V) (v : Value) (Q : Bool -> Hp -> Prop), Inv X pins σ H s -> bE x v -> r x H Q ->
    wpAny (model X.prog X.w) X.A (truthy v) (TP X pins σ Q) X.xe s
def tOp (r : R2) (ta tb : TE) : TE := fun σ H Q => ta σ H fun x H1 => tb σ H1 fun y H2 => r x y H2 Q
def tUn (r : V -> Hp -> VK -> Prop) (ta : TE) : TE := fun σ H Q => ta σ H fun x H1 => r x H1 Q
def rI (C : Int -> Int -> Prop) (g : Int -> Int -> V) : R2 := fun x y H Q => ∃ i j, x = .int i /\ y = .int j /\ C i j /\ Q (g i j) H
def rI0 (g : Int -> Int -> V) : R2 := fun x y H Q => ∃ i j, x = .int i /\ y = .int j /\ Q (g i j) H
def rU (g : Int -> V) : V -> Hp -> VK -> Prop := fun x H Q => ∃ i, x = .int i /\ Q (g i) H
section
variable {X : Cx} {a b c : Expr} {ta tb tc : TE} {pos : Pos}
theorem aCT (ha : PE X a ta) (hb : PE X b tb) {pins : List (Addr × Obj)} {s : Shared} {σ : St} {H : Hp} {R : V -> V -> Hp -> Prop} (I : Inv X pins σ H s)
    (h : ta σ H fun x H1 => tb σ H1 fun y H2 => R x y H2) {Q : Value -> Shared -> Prop} {f : Value -> Value -> Sem Value}
    (hf : ∀ v u s2 x y H2, Inv X pins σ H2 s2 -> bE x v -> bE y u -> R x y H2 -> wpAny (model X.prog X.w) X.A (f v u) Q X.xe s2) :
    wpAny (model X.prog X.w) X.A (eval a X.env) (fun v s₁ => wpAny (model X.prog X.w) X.A (eval b X.env) (fun u s₂ => wpAny (model X.prog X.w) X.A (f v u) Q X.xe s₂) X.xe s₁) X.xe s := by
  refine thn (ha pins s σ H _ I h) fun v s1 hx9 => ?_
  obtain ⟨x, H1, I1, r1, q1⟩ := hx9
  refine thn (hb pins s1 σ H1 _ I1 q1) fun u s2 hx9 => ?_
  obtain ⟨y, H2, I2, r2, q2⟩ := hx9
  exact hf v u s2 x y H2 I2 r1 r2 q2
theorem bK {op : Operator} {r : R2} (ho : OpR X (binaryOp op) r) (ha : PE X a ta) (hb : PE X b tb) : PE X (.BinOp a op b pos) (tOp r ta tb) := by
  intro pins s σ H Q I h
  exact wpAny_BinOp (aCT ha hb I h fun v u s2 x y H2 I2 rx ry q => ho pins s2 σ H2 x y v u Q I2 rx ry q)
theorem aAn {op : UnaryOp} {r : V -> Hp -> VK -> Prop} (ho : UnR X (unaryOp op) r) (ha : PE X a ta) : PE X (.UnaryOp op a pos) (tUn r ta) := by
  intro pins s σ H Q I h
  refine UnaryOp_ (thn (ha pins s σ H _ I h) fun v s1 hx9 => ?_)
  obtain ⟨x, H1, I1, r1, q1⟩ := hx9
  exact ho pins s1 σ H1 x v Q I1 r1 q1
theorem opI {f : Value -> Value -> Sem Value} {C : Int -> Int -> Prop} {g : Int -> Int -> Int}
    (rule : ∀ (i j : Int) (t u : Tok) (s : Shared) (Q : Value -> Shared -> Prop) (E : Value -> Shared -> Prop), C i j -> Q (.int (g i j) s.toks) { s with toks := s.toks + 1 } -> wpAny (model X.prog X.w) X.A (f (.int i t) (.int j u)) Q E s) :
    OpR X f (rI C fun i j => .int (g i j)) := by
  intro pins s σ H x y v u Q I rx ry h
  obtain ⟨i, j, rfl, rfl, hc, q⟩ := h
  obtain ⟨t, rfl⟩ := rx
  obtain ⟨t', rfl⟩ := ry
  exact rule i j t t' s _ _ hc ⟨.int (g i j), H, I.tok _, ⟨_, rfl⟩, q⟩
theorem aDF {f : Value -> Value -> Sem Value} {g : Int -> Int -> Int}
    (rule : ∀ (i j : Int) (t u : Tok) (s : Shared) (Q : Value -> Shared -> Prop) (E : Value -> Shared -> Prop), Q (.int (g i j) s.toks) { s with toks := s.toks + 1 } -> wpAny (model X.prog X.w) X.A (f (.int i t) (.int j u)) Q E s) :
    OpR X f (rI0 fun i j => .int (g i j)) := by
  intro pins s σ H x y v u Q I rx ry h
  obtain ⟨i, j, rfl, rfl, q⟩ := h
  obtain ⟨t, rfl⟩ := rx
  obtain ⟨t', rfl⟩ := ry
  exact rule i j t t' s _ _ ⟨.int (g i j), H, I.tok _, ⟨_, rfl⟩, q⟩
theorem aBO {f : Value -> Value -> Sem Value} {g : Int -> Int -> Bool}
    (rule : ∀ (i j : Int) (t u : Tok) (s : Shared) (Q : Value -> Shared -> Prop) (E : Value -> Shared -> Prop), Q (.bool (g i j)) s -> wpAny (model X.prog X.w) X.A (f (.int i t) (.int j u)) Q E s) :
    OpR X f (rI0 fun i j => .bl (g i j)) := by
  intro pins s σ H x y v u Q I rx ry h
  obtain ⟨i, j, rfl, rfl, q⟩ := h
  obtain ⟨t, rfl⟩ := rx
  obtain ⟨t', rfl⟩ := ry
  exact rule i j t t' s _ _ ⟨.bl (g i j), H, I, rfl, q⟩
def aEb (i j : Int) : Prop := 0 < j /\ j < 1073741824
def aEc (i j : Int) : Prop := 0 <= j /\ j <= 1000000 /\ i.natAbs < 2 ^ 64
def aCU (i j : Int) : Prop := (-(2 ^ 64) < i /\ i < 2 ^ 64) ∨ (-(2 ^ 64) < j /\ j < 2 ^ 64)
theorem aCU.ok {i j : Int} (h : aCU i j) : IntMulOk i j := by
  rcases h with ⟨h1, h2⟩ | ⟨h1, h2⟩
  · exact .of_left (intBits_le_64 h1 h2)
  · exact .of_right (intBits_le_64 h1 h2)
theorem dQ : OpR X (binaryOp .Add) (rI0 fun i j => .int (i + j)) := aDF fun _ _ _ _ _ _ _ q => add_int q
theorem rW : OpR X (binaryOp .Sub) (rI0 fun i j => .int (i - j)) := aDF fun _ _ _ _ _ _ _ q => sub_int q
theorem gT : OpR X (binaryOp .Mult) (rI aCU fun i j => .int (i * j)) := opI fun _ _ _ _ _ _ _ hc q => mul_int q hc.ok
theorem aBP : OpR X (binaryOp .FloorDiv) (rI aEb fun i j => .int (i / j)) := opI fun i j _ _ _ _ _ hc q => by
  have h1 : (0 : Int) < j := hc.1
  have h2 : j < 1073741824 := hc.2
  exact floordiv_int (by omega) (by rw [Int.fdiv_eq_ediv_of_nonneg i (by omega)]; exact q) (.inl (PyProof.noPylong_small (by omega)))
theorem iZ : OpR X (binaryOp .Mod) (rI (fun _ j => 0 < j) fun i j => .int (i % j)) := opI fun i j _ _ _ _ _ hc q => by
  have h1 : (0 : Int) < j := hc
  exact mod_int' (by omega) (by rw [Int.fmod_eq_emod_of_nonneg i (by omega)]; exact q)
theorem aCV : OpR X (binaryOp .Pow) (rI aEc fun i j => .int (i ^ j.toNat)) := opI fun _ _ _ _ _ _ _ hc q => pow_int_small hc.1 hc.2.1 hc.2.2 q
theorem unI {f : Value -> Sem Value} {g : Int -> Int}
    (rule : ∀ (i : Int) (t : Tok) (s : Shared) (Q : Value -> Shared -> Prop) (E : Value -> Shared -> Prop), Q (.int (g i) s.toks) { s with toks := s.toks + 1 } -> wpAny (model X.prog X.w) X.A (f (.int i t)) Q E s) :
    UnR X f (rU fun i => .int (g i)) := by
  intro pins s σ H x v Q I rx h
  obtain ⟨i, rfl, q⟩ := h
  obtain ⟨t, rfl⟩ := rx
  exact rule i t s _ _ ⟨.int (g i), H, I.tok _, ⟨_, rfl⟩, q⟩
theorem vV : UnR X (unaryOp .USub) (rU fun i => .int (-i)) := unI fun _ _ _ _ _ q => neg_int q
end
def aDG : V -> V -> Bool
  | .non, .non => true | .non, .int _ => true | .int _, .non => true | .non, .bl _ => true | .bl _, .non => true | .non, .str _ => true | .str _, .non => true
  | .int _, .int _ => true | .bl _, .bl _ => true | .str _, .str _ => true | .byt _, .byt _ => true
  | .int _, .str _ => true | .str _, .int _ => true | .bl _, .str _ => true | .str _, .bl _ => true
  | _, _ => false
def rEq : R2 := fun x y H Q => aDG x y = true /\ Q (.bl (decide (x = y))) H
def rNe : R2 := fun x y H Q => aDG x y = true /\ Q (.bl (!decide (x = y))) H
theorem xR {i j : Int} : decide (V.int i = V.int j) = (i == j) := by
  rw [Bool.eq_iff_iff]
  simp
theorem aAo {i j : Bool} : decide (V.bl i = V.bl j) = (i == j) := by
  rw [Bool.eq_iff_iff]
  simp
theorem xS {i j : Str} : decide (V.str i = V.str j) = (i == j) := by
  rw [Bool.eq_iff_iff]
  simp
theorem xT {i j : Array UInt8} : decide (V.byt i = V.byt j) = (i.toList == j.toList) := by
  rw [Bool.eq_iff_iff]
  cases i
  cases j
  simp
section
variable {X : Cx} {a b c : Expr} {ta tb tc : TE} {pos : Pos}
theorem bM {pins : List (Addr × Obj)} {σ : St} {H : Hp} {s : Shared} {Q : VK} {k k' : Bool} (I : Inv X pins σ H s) (q : Q (.bl k) H) (e : k = k') : EP X pins σ Q (.bool k') s := by
  subst e
  exact ⟨.bl k, H, I, rfl, q⟩
theorem hJ : OpR X (compareOp .Eq) rEq := by
  intro pins s σ H x y v u Q I rx ry h
  obtain ⟨hs, q⟩ := h
  cases x with
  | non =>
    cases rx
    cases y with
    | non => cases ry; exact PySem.EqNone.eq_none_none (bM I q (by simp))
    | bl j => cases ry; exact PySem.EqNone.eq_none_bool (bM I q (by simp))
    | int j => obtain ⟨t', rfl⟩ := ry; exact PySem.EqNone.eq_none_int (bM I q (by simp))
    | str j => obtain ⟨t', rfl⟩ := ry; exact PySem.EqNone.eq_none_str (bM I q (by simp))
    | _ => exact absurd (show false = true from hs) Bool.false_ne_true
  | bl i =>
    cases rx
    cases y with
    | non => cases ry; exact PySem.EqNone.eq_bool_none (bM I q (by simp))
    | bl j => cases ry; exact eq_bool (bM I q aAo)
    | str j => obtain ⟨t', rfl⟩ := ry; exact PySem.EqMixed.eq_bool_str (bM I q (by simp))
    | _ => exact absurd (show false = true from hs) Bool.false_ne_true
  | int i =>
    obtain ⟨t, rfl⟩ := rx
    cases y with
    | non => cases ry; exact PySem.EqNone.eq_int_none (bM I q (by simp))
    | int j => obtain ⟨t', rfl⟩ := ry; exact eq_int (bM I q xR)
    | str j => obtain ⟨t', rfl⟩ := ry; exact PySem.EqMixed.eq_int_str (bM I q (by simp))
    | _ => exact absurd (show false = true from hs) Bool.false_ne_true
  | str i =>
    obtain ⟨t, rfl⟩ := rx
    cases y with
    | non => cases ry; exact PySem.EqNone.eq_str_none (bM I q (by simp))
    | bl j => cases ry; exact PySem.EqMixed.eq_str_bool (bM I q (by simp))
    | int j => obtain ⟨t', rfl⟩ := ry; exact PySem.EqMixed.eq_str_int (bM I q (by simp))
    | str j => obtain ⟨t', rfl⟩ := ry; exact eq_str (bM I q xS)
    | _ => exact absurd (show false = true from hs) Bool.false_ne_true
  | byt i =>
    obtain ⟨t, rfl⟩ := rx
    cases y with
    | byt j => obtain ⟨t', rfl⟩ := ry; exact PySem.W.eq_bytes (bM I q xT)
    | _ => exact absurd (show false = true from hs) Bool.false_ne_true
  | _ => cases y <;> exact absurd (show false = true from hs) Bool.false_ne_true
theorem lB : OpR X (compareOp .NotEq) rNe := by
  intro pins s σ H x y v u Q I rx ry h
  obtain ⟨hs, q⟩ := h
  cases x with
  | non =>
    cases rx
    cases y with
    | non => cases ry; exact PySem.EqNone.ne_none_none (bM I q (by simp))
    | bl j => cases ry; exact PySem.EqNone.ne_none_bool (bM I q (by simp))
    | int j => obtain ⟨t', rfl⟩ := ry; exact PySem.EqNone.ne_none_int (bM I q (by simp))
    | str j => obtain ⟨t', rfl⟩ := ry; exact PySem.EqNone.ne_none_str (bM I q (by simp))
    | _ => exact absurd (show false = true from hs) Bool.false_ne_true
  | bl i =>
    cases rx
    cases y with
    | non => cases ry; exact PySem.EqNone.ne_bool_none (bM I q (by simp))
    | bl j => cases ry; exact ne_bool (bM I q (congrArg not aAo))
    | str j => obtain ⟨t', rfl⟩ := ry; exact PySem.EqMixed.ne_bool_str (bM I q (by simp))
    | _ => exact absurd (show false = true from hs) Bool.false_ne_true
  | int i =>
    obtain ⟨t, rfl⟩ := rx
    cases y with
    | non => cases ry; exact PySem.EqNone.ne_int_none (bM I q (by simp))
    | int j => obtain ⟨t', rfl⟩ := ry; exact ne_int (bM I q (congrArg not xR))
    | str j => obtain ⟨t', rfl⟩ := ry; exact PySem.EqMixed.ne_int_str (bM I q (by simp))
    | _ => exact absurd (show false = true from hs) Bool.false_ne_true
  | str i =>
    obtain ⟨t, rfl⟩ := rx
    cases y with
    | non => cases ry; exact PySem.EqNone.ne_str_none (bM I q (by simp))
    | bl j => cases ry; exact PySem.EqMixed.ne_str_bool (bM I q (by simp))
    | int j => obtain ⟨t', rfl⟩ := ry; exact PySem.EqMixed.ne_str_int (bM I q (by simp))
    | str j => obtain ⟨t', rfl⟩ := ry; exact ne_str (bM I q (congrArg not xS))
    | _ => exact absurd (show false = true from hs) Bool.false_ne_true
  | byt i =>
    obtain ⟨t, rfl⟩ := rx
    cases y with
    | byt j => obtain ⟨t', rfl⟩ := ry; exact PySem.W.ne_bytes (bM I q (congrArg not xT))
    | _ => exact absurd (show false = true from hs) Bool.false_ne_true
  | _ => cases y <;> exact absurd (show false = true from hs) Bool.false_ne_true
theorem tL : OpR X (compareOp .Lt) (rI0 fun i j => .bl (decide (i < j))) := aBO fun _ _ _ _ _ _ _ q => lt_int q
theorem tM : OpR X (compareOp .LtE) (rI0 fun i j => .bl (decide (i <= j))) := aBO fun _ _ _ _ _ _ _ q => le_int q
theorem tN : OpR X (compareOp .Gt) (rI0 fun i j => .bl (decide (j < i))) := aBO fun _ _ _ _ _ _ _ q => gt_int q
theorem qB : OpR X (compareOp .GtE) (rI0 fun i j => .bl (decide (j <= i))) := aBO fun _ _ _ _ _ _ _ q => ge_int q
theorem aCW : OpR X (compareOp .Is) (fun x y H Q => y = .non /\ Q (.bl (decide (x = .non))) H) := by
  intro pins s σ H x y v u Q I rx ry h
  obtain ⟨rfl, q⟩ := h
  cases ry
  refine is_none_gen (bM I q ?_)
  cases x <;> first
    | (cases rx; rfl)
    | (obtain ⟨t, rfl⟩ := rx; rfl)
theorem aS (b : Expr) {op : CmpOp} (h : op ≠ .In := by decide) (h2 : op ≠ .NotIn := by decide) : behindInMarks op b = false := by
  have e1 : (op == CmpOp.In) = false := by cases op <;> first | rfl | exact absurd rfl h
  have e2 : (op == CmpOp.NotIn) = false := by cases op <;> first | rfl | exact absurd rfl h2
  cases b <;> simp [behindInMarks, e1, e2]
theorem eY {op : CmpOp} {r : R2} (ho : OpR X (compareOp op) r) (ha : PE X a ta) (hb : PE X b tb) (hm : behindInMarks op b = false) : PE X (.Compare a [op] [b] pos) (tOp r ta tb) := by
  intro pins s σ H Q I h
  exact wpAny_Compare1 (aCT ha hb I h fun v u s2 x y H2 I2 rx ry q => ho pins s2 σ H2 x y v u Q I2 rx ry q) hm
def aCw (t : TE) : TT := fun σ H Q => t σ H fun x H' => ∃ k, x = .bl k /\ Q k H'
theorem aN {op : CmpOp} {r : R2} (ho : OpR X (compareOp op) r) (ha : PE X a ta) (hb : PE X b tb) (hm : behindInMarks op b = false) : PT X (.Compare a [op] [b] pos) (aCw (tOp r ta tb)) := by
  intro pins s σ H Q I h
  refine wpAny_isTrue_Compare1 (thn (ha pins s σ H _ I h) fun v s1 ⟨x, H1, I1, r1, q1⟩ => thn (hb pins s1 σ H1 _ I1 q1) fun u s2 ⟨y, H2, I2, r2, q2⟩ =>
    thn (ho pins s2 σ H2 x y v u _ I2 r1 r2 q2) fun c s3 ⟨z, H3, I3, r3, k, e, q3⟩ => ?_) hm
  subst e
  cases r3
  exact wpAny_truthy_bool ⟨H3, I3, q3⟩
def aAp (r r' : R2) (ta tb tc : TE) : TE := fun σ H Q => ta σ H fun x H1 => tb σ H1 fun y H2 => r x y H2 fun z H3 => ∃ k, z = .bl k /\
  (if k = true then tc σ H3 fun w' H4 => r' y w' H4 Q else Q (.bl false) H3)
theorem aAq {op op' : CmpOp} {r r' : R2} (ho : OpR X (compareOp op) r) (ho' : OpR X (compareOp op') r') (ha : PE X a ta) (hb : PE X b tb) (hc : PE X c tc)
    (hm : lastMarks [op, op'] [b, c] = false := by with_unfolding_all rfl) : PE X (.Compare a [op, op'] [b, c] pos) (aAp r r' ta tb tc) := by
  intro pins s σ H Q I h
  refine Compare_chain (thn (ha pins s σ H _ I h) fun v s1 ⟨x, H1, I1, r1, q1⟩ => chain_link (thn (hb pins s1 σ H1 _ I1 q1) fun u s2 ⟨y, H2, I2, r2, q2⟩ =>
    thn (ho pins s2 σ H2 x y v u _ I2 r1 r2 q2) fun d s3 ⟨z, H3, I3, r3, k, e, q3⟩ => ?_)) hm
  subst e
  cases r3
  refine wpAny_truthy_bool ?_
  cases k with
  | false => exact ite_ff ⟨.bl false, H3, I3, rfl, q3⟩
  | true => exact ite_tt (chain_last (thn (hc pins s3 σ H3 _ I3 q3) fun w' s4 ⟨z', H4, I4, r4, q4⟩ => ho' pins s4 σ H4 y z' u w' Q I4 r2 r4 q4))
theorem aAr {op op' : CmpOp} {r r' : R2} (ho : OpR X (compareOp op) r) (ho' : OpR X (compareOp op') r') (ha : PE X a ta) (hb : PE X b tb) (hc : PE X c tc)
    (hm : lastMarks [op, op'] [b, c] = false := by with_unfolding_all rfl) : PT X (.Compare a [op, op'] [b, c] pos) (aCw (aAp r r' ta tb tc)) := by
  intro pins s σ H Q I h
  refine isTrue_chain (thn (ha pins s σ H _ I h) fun v s1 ⟨x, H1, I1, r1, q1⟩ => test_link (thn (hb pins s1 σ H1 _ I1 q1) fun u s2 ⟨y, H2, I2, r2, q2⟩ =>
    thn (ho pins s2 σ H2 x y v u _ I2 r1 r2 q2) fun d s3 ⟨z, H3, I3, r3, k, e, q3⟩ => ?_)) hm
  subst e
  cases r3
  refine wpAny_truthy_bool ?_
  cases k with
  | false =>
    obtain ⟨k', e', q'⟩ := q3
    cases e'
    exact ite_ff ⟨H3, I3, q'⟩
  | true =>
    refine ite_tt (test_last (thn (hc pins s3 σ H3 _ I3 q3) fun w' s4 ⟨z', H4, I4, r4, q4⟩ => thn (ho' pins s4 σ H4 y z' u w' _ I4 r2 r4 q4) fun d' s5 hx9 => ?_))
    obtain ⟨z2, H5, I5, r5, k2, e2, q5⟩ := hx9
    subst e2
    cases r5
    exact wpAny_truthy_bool ⟨H5, I5, q5⟩
def aDH (K : PySem.W.Frag) (x : V) (H : Hp) (k : Bool) : Prop :=
  match x with
  | .non => k = false
  | .bl b => k = b
  | .int i => k = (i != 0)
  | .str y => y.length <= sizeLine /\ k = ((y.length : Int) != 0)
  | .byt y => y.size <= sizeLine /\ k = ((y.size : Int) != 0)
  | .ref p => (∃ xs, SqL K H p xs /\ k = !xs.isEmpty) ∨ (∃ xs, SqT K H p xs /\ k = !xs.isEmpty) ∨ ∃ kvs, H p = some (.dK kvs) /\ k = !kvs.isEmpty
  | _ => False
theorem vW {κ : Type} {kvs : List (κ × V)} {vs : List (κ × Value)} (r : KV kvs vs) : (!vs.isEmpty) = !kvs.isEmpty := by
  cases r <;> rfl
theorem nR {xs : List V} {its : List Value} (r : bB xs its) : (!its.toArray.isEmpty) = !xs.isEmpty := by
  cases r <;> simp
theorem nS : (sizeLine : Nat) < 2 ^ 63 := by rw [sizeLine_eq]; decide
theorem aCX : aEa X (fun x H Q => ∃ k, aDH X.K x H k /\ Q k H) := by
  intro pins s σ H x v Q I rx h
  obtain ⟨k, e, q⟩ := h
  have hl := nS
  have hs : sizeLine = 16777216 := sizeLine_eq
  cases x with
  | non =>
    cases rx
    have e' : k = false := e
    subst e'
    exact truthy_none ⟨H, I, q⟩
  | bl b =>
    cases rx
    have e' : k = b := e
    subst e'
    exact wpAny_truthy_bool ⟨H, I, q⟩
  | int i =>
    obtain ⟨t, rfl⟩ := rx
    have e' : k = (i != 0) := e
    subst e'
    exact PySem.P.truthy_int ⟨H, I, q⟩
  | str y =>
    obtain ⟨t, rfl⟩ := rx
    obtain ⟨hy, e'⟩ : y.length <= sizeLine /\ k = ((y.length : Int) != 0) := e
    subst e'
    exact PySem.P.truthy_str (by omega) ⟨H, I.tok _, q⟩
  | byt y =>
    obtain ⟨t, rfl⟩ := rx
    obtain ⟨hy, e'⟩ : y.size <= sizeLine /\ k = ((y.size : Int) != 0) := e
    subst e'
    exact PySem.W.truthy_bytes (by omega) ⟨H, I.tok _, q⟩
  | ref p =>
    cases rx
    have e' : (∃ xs, SqL X.K H p xs /\ k = !xs.isEmpty) ∨ (∃ xs, SqT X.K H p xs /\ k = !xs.isEmpty) ∨ ∃ kvs, H p = some (.dK kvs) /\ k = !kvs.isEmpty := e
    rcases e' with ⟨xs, hx, e'⟩ | ⟨xs, hx, e'⟩ | ⟨kvs, hx, e'⟩
    · subst e'
      obtain ⟨its, r, pl, hz⟩ := I.list hx
      have hlen := r.length
      exact wpAny_truthy_list pl.isList (by simp only [List.size_toArray]; omega) ⟨H, I.tok _, by rw [nR r]; exact q⟩
    · subst e'
      obtain ⟨its, r, pl, hz⟩ := I.tuple hx
      have hlen := r.length
      exact truthy_tuple pl (by simp only [List.size_toArray]; omega) ⟨H, I.tok _, by rw [nR r]; exact q⟩
    · subst e'
      obtain ⟨hz, hS, vs, r, m⟩ : kvs.length <= sizeLine /\ (p == sysModules) = false /\ ∃ vs, KV kvs vs /\ s.heap.DictOf (bY X.prog X.w) p vs := I.hok p _ hx
      have hlen : kvs.length = vs.length := Paired.length r
      exact wpAny_truthy_dict hS m (by omega) ⟨H, I.tok _, by rw [vW r]; exact q⟩
  | _ => exact (show False from e).elim
theorem aAs (ha : PE X a ta) (he : ∀ whole, isTrue a X.env whole = (do let v <- whole; standAt a.pos; holding [v] (truthy v))) :
    PT X a (fun σ H Q => ta σ H fun x H' => ∃ k, aDH X.K x H' k /\ Q k H') := by
  intro pins s σ H Q I h
  refine isTrue_plain (thn (ha pins s σ H _ I h) fun v s1 hx9 => ?_) (he _)
  obtain ⟨x, H1, I1, r1, q1⟩ := hx9
  exact aCX pins s1 σ H1 x v Q I1 r1 q1
theorem gF {x : V} {us : List Value} (r : bB [x] us) : ∃ u, us = [u] /\ bE x u := by
  cases r with
  | cons r1 r2 => cases r2; exact ⟨_, rfl, r1⟩
theorem mS {x y : V} {us : List Value} (r : bB [x, y] us) : ∃ u w', us = [u, w'] /\ bE x u /\ bE y w' := by
  cases r with
  | cons r1 r2 =>
    cases r2 with
    | cons r3 r4 => cases r4; exact ⟨_, _, rfl, r1, r3⟩
end
end L2
namespace L2
open PySem PySem.Spec PyProof.Rows
structure ObjM (h : Heap) (x dx C : Addr) (mA : Str -> Option Value) : Prop where
  obj : h.get? x = some (PySem.W.instObj C dx)
  ns : h.Ns1 dx mA
  ne : dx ≠ x
theorem zE {h : Heap} {dx : Addr} {mA : Str -> Option Value} (n : h.Ns1 dx mA) : ∃ od, h.get? dx = some od /\ ∀ name, PySem.W.lookIn name od = some (mA name) := by
  obtain ⟨o, es, ep, ho, hd, hk, _, hm⟩ := n
  refine ⟨o, ho, fun name => ?_⟩
  have e := hm name
  unfold nsFind findBy at e
  rw [<- Array.find?_toList] at e
  unfold PySem.W.lookIn
  rw [hd]
  dsimp only
  split
  · rename_i y q
    rw [q] at e
    exact congrArg some e
  · rename_i q
    rw [q] at e
    have a : es.toList.any (·.refKey) = false := by
      rw [List.any_eq_false]
      intro y hy
      obtain ⟨z, t, hkey⟩ := hk y (Array.mem_toList_iff.mp hy)
      simp [DictEntry.refKey, hkey]
    have a' : ¬ es.toList.any (·.refKey) = true := by rw [a]; exact Bool.false_ne_true
    rw [if_neg a']
    exact congrArg some e
theorem ObjM.look {h : Heap} {x dx C : Addr} {mA : Str -> Option Value} (I : ObjM h x dx C mA) : ∃ od, PySem.W.InstAt h x (PySem.W.instObj C dx) C (some od) /\ ∀ name, PySem.W.lookIn name od = some (mA name) :=
  let ⟨od, ho, hl⟩ := zE I.ns
  ⟨od, ⟨I.obj, rfl, rfl, ho⟩, hl⟩
section
variable {prog : Program} {w : World} {A : Around} {E : Value -> Shared -> Prop} {s : Shared} {K : PySem.W.Frag} {x dx C f : Addr} {mA : Str -> Option Value} {name : Str} {v : Value}
end
theorem mZ.some_of {v : V} {o : Option Value} (r : mZ (some v) o) : ∃ u, o = some u /\ bE v u := by
  cases o with
  | none => exact (show False from r).elim
  | some u => exact ⟨u, rfl, r⟩
section
variable {P : Program} {w : World} {H H' : Hp} {h h' : Heap} {a C dx : Addr} {fs fs' : List (Str × V)}
end
structure Cls (K : PySem.W.Frag) (C : Addr) : Prop where
  pg : PySem.W.plainGet K C Str.empty = true
  hd : PySem.W.hasDictIn K C = true
  po : PySem.W.plainOver K C = true
  sa : PySem.W.findIn K (.ref C) "__setattr__" = some (some (.builtin "object.__setattr__"))
theorem Cls.get {K : PySem.W.Frag} {C : Addr} (c : Cls K C) (f : Str) : PySem.W.plainGet K C f = true := c.pg
def aAt (K : PySem.W.Frag) (C : Addr) (f : Str) : Prop := PySem.W.findIn K (.ref C) f = some none
theorem aAt.taker {K : PySem.W.Frag} {C : Addr} {f : Str} (n : aAt K C f) : PySem.W.takerIn K C f = some none := by
  unfold PySem.W.takerIn
  rw [show PySem.W.findIn K (.ref C) f = some none from n]
  rfl
structure Con (K : PySem.W.Frag) (C : Addr) (f : Str) (v : V) (u : Value) : Prop where
  at_ : PySem.W.findIn K (.ref C) f = some (some u)
  rel : bE v u
  get : PySem.W.specialIn K u "__get__" = some none
  cp : PySem.W.copiedNames.contains f = false
structure Meth (K : PySem.W.Frag) (C : Addr) (m : Str) (f : Addr) : Prop where
  at_ : PySem.W.findIn K (.ref C) m = some (some (.ref f))
  fn : PySem.W.isFn K (.ref f) = true
  kp : PySem.W.keepIn K (.ref f) = true
section
variable {X : Cx} {pins : List (Addr × Obj)} {σ : St} {H : Hp} {s : Shared} {a C dx : Addr} {fs : List (Str × V)} {f : Str} {v : V} {A : Around} {E : Value -> Shared -> Prop}
theorem Inv.made (I : Inv X pins σ H s) : Inv X pins σ (upd (upd H s.heap.objs.size (.own (s.heap.objs.size + 1))) (s.heap.objs.size + 1) (.ins C s.heap.objs.size []))
    { s with heap := (s.heap.push PySem.W.emptyDict).push (PySem.W.instObj C s.heap.objs.size) } := by
  have e1 : (s.heap.push PySem.W.emptyDict).get? s.heap.objs.size = some PySem.W.emptyDict := Heap.get?_push_size s.heap rfl
  have e2 : ((s.heap.push PySem.W.emptyDict).push (PySem.W.instObj C s.heap.objs.size)).get? (s.heap.objs.size + 1) = some (PySem.W.instObj C s.heap.objs.size) := by
    have := Heap.get?_push_size (s.heap.push PySem.W.emptyDict) (o := PySem.W.instObj C s.heap.objs.size) rfl
    rwa [Heap.size_push] at this
  have e3 : (s.heap.push PySem.W.emptyDict).Ns s.heap.objs.size (fun _ => none) := ⟨PySem.W.emptyDict, #[], _, e1, rfl, (fun e he => absurd he (by simp)), fun _ => rfl⟩
  have I1 := I.laid (a := s.heap.objs.size) (o := .own (s.heap.objs.size + 1)) (h' := s.heap.push PySem.W.emptyDict) (t' := s.toks) (fun b u q => Heap.get?_push_of_some _ q) (Nat.le_refl _) ⟨_, e1⟩
  refine I1.laid (a := s.heap.objs.size + 1) (o := .ins C s.heap.objs.size []) (t' := s.toks) (fun b u q => Heap.get?_push_of_some _ q) (Nat.le_of_eq (Heap.size_push _ _)) ?_
  have ne : s.heap.objs.size ≠ s.heap.objs.size + 1 := Nat.ne_of_lt (Nat.lt_succ_self _)
  refine ⟨by rw [aI ne, aB], Nat.zero_le _, ne, e2, fun _ => none, (Heap.Ns1.of_empty e3).at fun o q => Heap.get?_push_of_some _ q, fun _ => True.intro, fun y hy => absurd rfl hy⟩
end
section
variable {X : Cx} {o e value : Expr} {f : Str} {pos pos' tpos : Pos} {ta tv : TE}
end
section
variable {X : Cx} {pins : List (Addr × Obj)} {σ : St} {H : Hp} {s : Shared} {A : Around} {E : Value -> Shared -> Prop} {Q : Value -> Shared -> Prop} {c : Value} {b : Bool}
inductive TyOf (K : PySem.W.Frag) (H : Hp) : V -> Value -> Prop where
  | non : TyOf K H .non (.type "NoneType")
  | bl (x : Bool) : TyOf K H (.bl x) (.type "bool")
  | int (i : Int) : TyOf K H (.int i) (.type "int")
  | str (x : Str) : TyOf K H (.str x) (.type "str")
  | flt (x : UInt64) : TyOf K H (.flt x) (.type "float")
  | lst {a : Addr} {xs : List V} (e : H a = some (.lst xs)) : TyOf K H (.ref a) (.type "list")
  | frz {a : Addr} {o : Obj} {xs : List V} (e : H a = some (.frz o (.lst xs))) : TyOf K H (.ref a) (.type "list")
  | tup {a : Addr} {xs : List V} (e : H a = some (.tup xs)) : TyOf K H (.ref a) (.type "tuple")
  | dK {a : Addr} {kvs : List (Key × V)} (e : H a = some (.dK kvs)) : TyOf K H (.ref a) (.type "dict")
  | dT {a : Addr} {kvs : List (List Key × V)} (e : H a = some (.dT kvs)) : TyOf K H (.ref a) (.type "dict")
  | ins {a C dx : Addr} {fs : List (Str × V)} (e : H a = some (.ins C dx fs)) (cl : Cls K C) (ha : PySem.W.findIn K (.ref C) "__class__" = some (some (.builtin "object.__class__")))
      (hn : PySem.W.specialIn K (.builtin "object.__class__") "__get__" = some (some (.builtin "getset_descriptor.__get__"))) (htk : PySem.W.takesIn K (.builtin "object.__class__") = some true)
      (hm : PySem.W.mroIn K C (.type "object") = some true) : TyOf K H (.ref a) (.ref C)
end
end L2
namespace L2
open PySem PySem.Spec PyProof.Rows
structure Room (k : Nat) (A : Around) : Prop where
  hd : A.handled = none
  dp : A.depth + 3 * k + 5 < recursionLimit
  un : A.units + 16 * k + 200 < cLine
  gd : A.guards = some []
theorem Room.mono {j k : Nat} {A : Around} (r : Room k A) (h : j <= k) : Room j A := ⟨r.hd, by have := r.dp; omega, by have := r.un; omega, r.gd⟩
theorem Room.deeper {k : Nat} {A : Around} (r : Room (k + 1) A) (env : Env) : Room k (A.deeper env) :=
  ⟨r.hd, by have := r.dp; show A.depth + 1 + 3 * k + 5 < _; omega, by have := r.un; show A.units + 3 + 16 * k + 200 < _; omega, r.gd⟩
theorem Room.in1 {k : Nat} {A : Around} (r : Room (k + 1) A) : Room k A.in1 :=
  ⟨r.hd, by have := r.dp; show A.depth + 3 * k + 5 < _; omega, by have := r.un; show A.units + 1 + 16 * k + 200 < _; omega, r.gd⟩
theorem Room.depth {k : Nat} {A : Around} (r : Room k A) : A.depth < recursionLimit := by have := r.dp; omega
theorem Room.units {k : Nat} {A : Around} (r : Room k A) : A.units + 64 < cLine := by have := r.un; omega
abbrev aAu : TA := fun _ H Q => Q [] H
abbrev tO (ta : TE) (tr : TA) : TA := fun σ H Q => ta σ H fun x H1 => tr σ H1 fun xs H2 => Q (x :: xs) H2
section
variable {X : Cx} {e : Expr} {es : List Expr} {te : TE} {t : TA} {pos : Pos}
theorem aC : PA X [] aAu := fun _ _ _ _ H Q I h => Calls.spliced_nil ⟨[], H, I, .nil, h⟩
theorem aA (ha : PE X e te) (hr : PA X es t) (hs : starEach (e :: es) X.env = (false, eval e X.env) :: starEach es X.env := by rfl) : PA X (e :: es) (tO te t) := by
  intro pos pins s σ H Q I h
  rw [hs]
  show wpAny _ _ (spliced ((false, eval e X.env) :: backTo pos (starEach es X.env))) _ _ s
  refine Calls.spliced_cons (thn (ha pins s σ H _ I h) fun u s1 hx9 => ?_)
  obtain ⟨x, H1, I1, r1, q1⟩ := hx9
  refine thn (hr pos pins s1 σ H1 _ I1 q1) fun us s2 hx9 => ?_
  obtain ⟨xs, H2, I2, r2, q2⟩ := hx9
  exact ⟨x :: xs, H2, I2, .cons r1 r2, q2⟩
def aEd (t : TA) : TE := fun σ H Q => t σ H fun xs H1 => xs.length <= sizeLine /\ ∀ p, H1 p = none -> Q (.ref p) (upd H1 p (.tup xs))
def aEe (t : TA) : TE := fun σ H Q => t σ H fun xs H1 => xs.length <= sizeLine /\ ∀ p, H1 p = none -> Q (.ref p) (upd H1 p (.lst xs))
theorem iN {x1} (h : PA X es t) : PE X (.Tuple es x1 pos) (aEd t) := by
  intro pins s σ H Q I hq
  refine wpAny_Tuple_spliced (thn (h pos pins s σ H _ I hq) fun us s1 ⟨xs, H1, I1, r, z, q⟩ => ⟨by rw [<- r.length]; exact z, ?_⟩)
  have hf : H1 s1.heap.objs.size = none := I1.hok.fresh (Nat.le_refl _)
  refine ⟨.ref s1.heap.objs.size, upd H1 s1.heap.objs.size (.tup xs), I1.laid (t' := s1.toks) (fun b u e => Heap.get?_push_of_some _ e) (Nat.le_refl _) ?_, rfl, q _ hf⟩
  exact ⟨z, us, 0, r, Heap.get?_push_size _ rfl⟩
theorem gI (h : PA X es t) : PE X (.List es pos) (aEe t) := by
  intro pins s σ H Q I hq
  refine wpAny_List_spliced (thn (h pos pins s σ H _ I hq) fun us s1 ⟨xs, H1, I1, r, z, q⟩ => ⟨by rw [<- r.length]; exact z, ?_⟩)
  have hf : H1 s1.heap.objs.size = none := I1.hok.fresh (Nat.le_refl _)
  refine ⟨.ref s1.heap.objs.size, upd H1 s1.heap.objs.size (.lst xs), I1.laid (t' := s1.toks) (fun b u e => Heap.get?_push_of_some _ e) (Nat.le_refl _) ?_, rfl, q _ hf⟩
  exact ⟨z, us, 0, r, Heap.get?_push_size _ rfl⟩
end
abbrev Sp := List V -> Hp -> VK -> XK -> Prop
abbrev CXT := List Env -> Hp -> Shared -> XK -> Value -> Shared -> Prop
structure Env0 (P : Program) (w : World) (K : PySem.W.Frag) (mg : Str -> Option Value) (base : Heap) (A : Around) (outer : List Env) (s : Shared) (H : Hp) : Prop where
  frames : A.frames = some outer
  mod : Mod K mg base
  bs : ∀ b o, base.get? b = some o -> s.heap.get? b = some o /\ H b = none
  bsz : base.objs.size <= s.heap.objs.size
  funs : s.heap.FunFrames base outer
  frf : ∀ b ∈ frs outer, H b = none
  hok : HOk P w H s.heap
  bare : AllBare s.gens
def CE (outer : List Env) (P : Program) (w : World) (H : Hp) (s : Shared) (Q : VK) (u : Value) (s' : Shared) : Prop :=
  ∃ v H', s'.os = s.os /\ AllBare s'.gens /\ Un (frs outer) [] H H' s.heap s'.heap /\ HOk P w H' s'.heap /\ bE v u /\ Q v H'
def CR (CX : CXT) (outer : List Env) (P : Program) (w : World) (H : Hp) (s : Shared) (Q : VK) (E : XK) (r : Result) (s' : Shared) : Prop :=
  match r with
  | .ok (.ret u) => CE outer P w H s Q u s'
  | .ok _ => False
  | .error e => CX outer H s E e s'
structure FnOk (P : Program) (w : World) (K : PySem.W.Frag) (mg : Str -> Option Value) (base : Heap) (CX : CXT) (k : Nat) (f : Addr) (fd : FuncData) (ps : List Str) (sp : Sp) : Prop where
  len : ∀ vs H Q E, sp vs H Q E -> vs.length = ps.length
  run : ∀ (A : Around) (outer : List Env) (s : Shared) (H : Hp) (args : Args) (us : List Value) (vs : List V) (Q : VK) (E : XK), Room k A -> Env0 P w K mg base A outer s H -> BindsTo s fd args (ps.zip us) -> bB vs us -> sp vs H Q E ->
    codeAny (model P w) A (.call (.ref f) args) (CR CX outer P w H s Q E) s
theorem FnOk.mono {P : Program} {w : World} {K : PySem.W.Frag} {mg : Str -> Option Value} {base : Heap} {CX : CXT} {j k : Nat} {f : Addr} {fd : FuncData} {ps : List Str} {sp : Sp} (F : FnOk P w K mg base CX j f fd ps sp) (h : j <= k) :
    FnOk P w K mg base CX k f fd ps sp := ⟨F.len, fun A outer s H args us vs Q E hr => F.run A outer s H args us vs Q E (hr.mono h)⟩
theorem FnOk.imp {P : Program} {w : World} {K : PySem.W.Frag} {mg : Str -> Option Value} {base : Heap} {CX : CXT} {k : Nat} {f : Addr} {fd : FuncData} {ps : List Str} {sp sp' : Sp} (F : FnOk P w K mg base CX k f fd ps sp)
    (h : ∀ vs H Q E, sp' vs H Q E -> sp vs H Q E) : FnOk P w K mg base CX k f fd ps sp' :=
  ⟨fun vs H Q E q => F.len vs H Q E (h _ _ _ _ q), fun A outer s H args us vs Q E hr he hb hv hs => F.run A outer s H args us vs Q E hr he hb hv (h _ _ _ _ hs)⟩
theorem Env0.in1 {P : Program} {w : World} {K : PySem.W.Frag} {mg : Str -> Option Value} {base : Heap} {A : Around} {outer : List Env} {s : Shared} {H : Hp} (e : Env0 P w K mg base A outer s H) :
    Env0 P w K mg base A.in1 outer s H := ⟨e.frames, e.mod, e.bs, e.bsz, e.funs, e.frf, e.hok, e.bare⟩
section
variable {X : Cx} {pins : List (Addr × Obj)} {σ : St} {H : Hp} {s s' : Shared}
theorem Inv.env0 (I : Inv X pins σ H s) : Env0 X.prog X.w X.K X.mg X.base X.A X.stack s H :=
  ⟨I.ok.frames, I.ok.mod, I.bs, Nat.le_trans I.ok.bsz I.sz, I.stack, I.stkFree, I.hok, I.bare⟩
theorem Inv.after {Q : VK} {u : Value} (I : Inv X pins σ H s) (h : CE X.stack X.prog X.w H s Q u s') : EP X pins σ Q u s' := by
  obtain ⟨v, H', os, bare, un, hok, r, q⟩ := h
  obtain ⟨hh, g, d, t, os'⟩ := s'
  obtain rfl : os' = s.os := os
  exact ⟨v, H', I.call (h' := hh) (g' := g) (d' := d) (t' := t) (ch := []) un hok bare (fun b z => absurd z (by simp)), r, q⟩
end
def aCx (sp : Sp) (dvs : List V) (E : XK) (t : TA) : TE := fun σ H Q => t σ H fun vs H1 => sp (vs ++ dvs) H1 Q E
def qC (K : PySem.W.Frag) (fd : FuncData) (ps : List Str) (ds : List Value) : Prop :=
  ∀ (s : Shared) (us : List Value), K.In s.heap -> (us ++ ds).length = ps.length -> BindsTo s fd ⟨us, []⟩ (ps.zip (us ++ ds))
theorem qC.all {K : PySem.W.Frag} {fd : FuncData} {ps : List Str} (h : ∀ us : List Value, us.length = ps.length -> bindArgs fd ⟨us, []⟩ = pure (ps.zip us)) : qC K fd ps [] := fun s us _ hl => by
  rw [List.append_nil] at hl ⊢
  exact .of_eq (h us hl)
def vX (CX : CXT) (X : Cx) (E : XK) : Prop := ∀ (pins : List (Addr × Obj)) (σ : St) (H : Hp) (s : Shared) (e : Value) (s' : Shared), Inv X pins σ H s -> CX X.stack H s E e s' -> X.xe e s'
section
variable {X : Cx} {CX : CXT} {k : Nat} {f C : Addr} {fd : FuncData} {ps : List Str} {sp : Sp} {dvs : List V} {ds : List Value} {E : XK} {x m : Str} {p pos apos : Pos} {e o : Expr} {es : List Expr} {ta : TE} {t : TA}
theorem aCY {pins : List (Addr × Obj)} {σ : St} {H : Hp} {s : Shared} {Q : VK} {us : List Value} {vs : List V} (F : FnOk X.prog X.w X.K X.mg X.base CX k f fd ps sp) (hr : Room k X.A) (hb : qC X.K fd ps ds) (hd : bB dvs ds) (hx : vX CX X E)
    (I : Inv X pins σ H s) (r : bB vs us) (h : sp (vs ++ dvs) H Q E) : wpAny (model X.prog X.w) X.A (call (.ref f) us) (EP X pins σ Q) X.xe s := by
  have r2 : bB (vs ++ dvs) (us ++ ds) := r.append hd
  have hl : (us ++ ds).length = ps.length := by rw [<- r2.length]; exact F.len _ _ _ _ h
  refine wpAny_call (codeAny_mono (F.run X.A X.stack s H ⟨us, []⟩ (us ++ ds) (vs ++ dvs) Q E hr I.env0 (hb s us I.kIn hl) r2 h) fun r s' hq => ?_)
  cases r with
  | error e => exact hx pins σ H s e s' I hq
  | ok fl =>
    cases fl with
    | ret u => exact I.after hq
    | next => exact False.elim hq
    | brk => exact False.elim hq
    | cont => exact False.elim hq
theorem aBQ (F : FnOk X.prog X.w X.K X.mg X.base CX k f fd ps sp) (hr : Room k X.A) (hg : Gl X x) (hm : X.mg x = some (.ref f)) (hk : PySem.W.keepIn X.K (.ref f) = true) (hb : qC X.K fd ps ds) (hd : bB dvs ds) (hx : vX CX X E)
    (ha : PA X (e :: es) t) (hdb : (x == ("__debug__" : Str)) = false := by decide) (he : starEach (e :: es) X.env = (false, eval e X.env) :: starEach es X.env := by rfl) (hpl : (backTo pos (starEach es X.env)).any (·.1) = false := by rfl) :
    PE X (.Call (.Name x p) (e :: es) [] pos) (aCx sp dvs E t) := by
  intro pins s σ H Q I h
  refine wpAny_Call_Name_kw (xN I hg hm ?_ hdb)
  refine PySem.W.callWith_K (h₀ := X.base) I.ok.mod.kin hk (thn (ha pos pins s σ H _ I h) fun us s1 ⟨vs, H1, I1, r, q⟩ => ⟨I1.kIn, ?_⟩) he hpl
  exact aCY F hr hb hd hx I1 r q
structure Mk (K : PySem.W.Frag) (C f : Addr) : Prop where
  makes : PySem.W.makesIn K C = true
  init : PySem.W.findIn K (.ref C) "__init__" = some (some (.ref f))
  fn : PySem.W.isFn K (.ref f) = true
  kp : PySem.W.keepIn K (.ref C) = true
end
def PK (X : Cx) (kws : List Keyword) (t : TA) : Prop :=
  ∀ (pos : Pos) (pins : List (Addr × Obj)) (s : Shared) (σ : St) (H : Hp) (Q : List V -> Hp -> Prop), Inv X pins σ H s -> t σ H Q -> wpAny (model X.prog X.w) X.A (evalAll ((backToKw pos (keywordEach kws X.env)).map (·.2))) (AP X pins σ Q) X.xe s
section
variable {X : Cx} {CX : CXT} {k : Nat} {f C : Addr} {fd : FuncData} {ps ks : List Str} {sp : Sp} {E : XK} {x m : Str} {p pos apos kpos : Pos} {e o : Expr} {es : List Expr} {kws : List Keyword} {te ta : TE} {t tk : TA} {nm : Option Str}
theorem aCZ : PK X [] aAu := fun _ _ _ _ H Q I h => wpAny_evalAll_nil ⟨[], H, I, .nil, h⟩
theorem aBR (ha : PE X e te) (hr : PK X kws t) : PK X (⟨nm, e, kpos⟩ :: kws) (tO te t) := by
  intro pos pins s σ H Q I h
  show wpAny _ _ (evalAll ((do let v <- eval e X.env; standAt pos; pure v) :: (backToKw pos (keywordEach kws X.env)).map (·.2))) _ _ s
  refine wpAny_evalAll_cons (wpAny_bind (thn (ha pins s σ H _ I h) fun u s1 ⟨x, H1, I1, r1, q1⟩ => wpAny_bind (wpAny_standAt (wpAny_pure ?_))))
  refine thn (hr pos pins s1 σ H1 _ I1 q1) fun us s2 hx9 => ?_
  obtain ⟨xs, H2, I2, r2, q2⟩ := hx9
  exact ⟨x :: xs, H2, I2, .cons r1 r2, q2⟩
structure KBinds (K : PySem.W.Frag) (fd : FuncData) (ps ks : List Str) (g : List Value -> List Value -> List Value) (gV : List V -> List V -> List V) : Prop where
  to : ∀ (s : Shared) (us ws : List Value), K.In s.heap -> (g us ws).length = ps.length -> BindsTo s fd ⟨us, ks.zip ws⟩ (ps.zip (g us ws))
  rel : ∀ {vs : List V} {us : List Value} {zs : List V} {ws : List Value}, bB vs us -> bB zs ws -> bB (gV vs zs) (g us ws)
variable {g : List Value -> List Value -> List Value} {gV : List V -> List V -> List V}
end
structure FnScope (N P : List Str) (sc : Scope) : Prop where
  kind : sc.kind = .function
  co : sc.isCoroutine = false
  gen : sc.isGenerator = false
  nd : N.Nodup
  pre : N.take P.length = P
  par : ∀ x ∈ P, sc.names.lookup x = some .local ∨ sc.names.lookup x = some .cell
  nofree : ∀ y ∈ sc.names, y.2 ≠ .free
theorem qD {kindOf : Str -> Option NameKind} {x : Str} : ∀ {binds : List (Str × Value)} {m : Str -> Option Value}, (∀ v, (x, v) ∉ binds) -> bindL kindOf binds m x = m x
  | [], _, _ => rfl
  | (n, v) :: r, m, h => by
    unfold bindL
    rw [qD fun w hw => h w (List.mem_cons_of_mem _ hw)]
    split
    · have : x ≠ n := by rintro rfl; exact h v List.mem_cons_self
      simp [this]
    · rfl
theorem qE {kindOf : Str -> Option NameKind} {x : Str} : ∀ {binds : List (Str × Value)} {m : Str -> Option Value}, (∀ v, (x, v) ∉ binds) -> bindC kindOf binds m x = m x
  | [], _, _ => rfl
  | (n, v) :: r, m, h => by
    unfold bindC
    rw [qE fun w hw => h w (List.mem_cons_of_mem _ hw)]
    split
    · rfl
    · have : x ≠ n := by rintro rfl; exact h v List.mem_cons_self
      simp [this]
theorem qF {kindOf : Str -> Option NameKind} {x : Str} {v : Value} : ∀ {P : List Str} {vs : List Value} {i : Nat} {m : Str -> Option Value}, P.Nodup -> P[i]? = some x -> vs[i]? = some v -> kindOf x = some .local ->
    bindL kindOf (P.zip vs) m x = some v
  | [], _, _, _, _, h, _, _ => by simp at h
  | _ :: _, [], _, _, _, _, h, _ => by simp at h
  | p :: P, w :: vs, 0, m, nd, h1, h2, hk => by
    simp at h1 h2; subst h1; subst h2
    show bindL kindOf ((p, w) :: P.zip vs) m p = _
    unfold bindL
    rw [qD fun v hv => (List.nodup_cons.mp nd).1 (List.of_mem_zip hv).1, if_pos hk]
    simp
  | p :: P, w :: vs, i + 1, m, nd, h1, h2, hk => by
    show bindL kindOf ((p, w) :: P.zip vs) m x = _
    unfold bindL
    exact qF (i := i) (List.nodup_cons.mp nd).2 (by simpa using h1) (by simpa using h2) hk
theorem qG {kindOf : Str -> Option NameKind} {x : Str} {v : Value} : ∀ {P : List Str} {vs : List Value} {i : Nat} {m : Str -> Option Value}, P.Nodup -> P[i]? = some x -> vs[i]? = some v -> kindOf x ≠ some .local ->
    bindC kindOf (P.zip vs) m x = some v
  | [], _, _, _, _, h, _, _ => by simp at h
  | _ :: _, [], _, _, _, _, h, _ => by simp at h
  | p :: P, w :: vs, 0, m, nd, h1, h2, hk => by
    simp at h1 h2; subst h1; subst h2
    show bindC kindOf ((p, w) :: P.zip vs) m p = _
    unfold bindC
    rw [qE fun v hv => (List.nodup_cons.mp nd).1 (List.of_mem_zip hv).1, if_neg hk]
    simp
  | p :: P, w :: vs, i + 1, m, nd, h1, h2, hk => by
    show bindC kindOf ((p, w) :: P.zip vs) m x = _
    unfold bindC
    exact qG (i := i) (List.nodup_cons.mp nd).2 (by simpa using h1) (by simpa using h2) hk
def lC (N : List Str) (vs : List V) : St := vs.map some ++ List.replicate (N.length - vs.length) none
def vY (CX : CXT) (P : Program) (w : World) (K : PySem.W.Frag) (mg : Str -> Option Value) (base : Heap) (N : List Str) (qual : Str) (scope : Scope) (f : Addr) (cd : Value) (A : Around) (outer : List Env) (s : Shared) (H : Hp) (E : XK) : Cx where
  prog := P
  w := w
  K := K
  mg := mg
  base := base
  A := A.deeper (envOfC qual scope s.heap.objs.size f cd)
  N := N
  s₀ := s
  H₀ := H
  env := envOfC qual scope s.heap.objs.size f cd
  outer := outer
  stack := envOfC qual scope s.heap.objs.size f cd :: outer
  ex := []
  calm := true
  fn := fun _ => true
  pn := []
  xe := fun e s' => wpAny (model P w) (A.deeper (envOfC qual scope s.heap.objs.size f cd)) (leaving (envOfC qual scope s.heap.objs.size f cd) e) (fun _ s'' => CX outer H s E e s'') (fun e' s'' => CX outer H s E e' s'') s'
theorem tP {sc : Scope} {n : Nat} {x : Str} (h : sc.names.lookup x = some .cell) : ∃ c, (cellsFrom n sc.names []).lookup x = some c := by
  have q := PySem.W.cellsFrom_some sc.names n [] (.inl h)
  exact Option.isSome_iff_exists.mp q
theorem zF {CX : CXT} {P : Program} {w : World} {K : PySem.W.Frag} {mg : Str -> Option Value} {base : Heap} {N ps : List Str} {qual : Str} {scope : Scope} {f : Addr} {cd : Value} {A : Around} {outer : List Env} {s s1 : Shared} {H : Hp} {E : XK} {us : List Value} {vs : List V}
    (S : FnScope N ps scope) (hd : A.handled = none) (e0 : Env0 P w K mg base A outer s H) (hl : vs.length = ps.length) (r : bB vs us)
    (x : InCallC s s.heap.objs.size (bindL (envOfC qual scope s.heap.objs.size f cd).kindOf (ps.zip us) fun _ => none) (cellsFrom (s.heap.objs.size + 1) scope.names []) (bindC (envOfC qual scope s.heap.objs.size f cd).kindOf (ps.zip us) fun _ => none) s1) :
    Inv (vY CX P w K mg base N qual scope f cd A outer s H E) [] (lC N vs) H s1 := by
  have hpl : ps.length <= N.length := by have := congrArg List.length S.pre; rw [List.length_take] at this; omega
  obtain ⟨h1, tk, rfl, hk⟩ := x.done
  have noA : ∀ b : Addr, b ∉ (vY CX P w K mg base N qual scope f cd A outer s H E).ex := fun b z => absurd (show b ∈ ([] : List Addr) from z) (by simp)
  refine ⟨⟨e0.mod, S.kind, rfl, rfl, Nat.le_refl _, fun y z c h1 h2 => ?_, fun y hy => ?_, fun y c _ h => ?_, fun _ => hd, Around.frames_deeper e0.frames, .inr ⟨rfl, rfl⟩, fun b z => absurd z (noA b), e0.bs, e0.bsz, fun b _ _ => noA b, fun b z => absurd z (noA b), e0.funs, e0.frf⟩,
    rfl, e0.bare, Un.kept hk, ⟨_, x.toInCall.ns, fun i y v h1 h2 h3 => ?_⟩, fun y c h => ⟨_, x.cell y c h⟩, e0.hok.fresh (Nat.le_refl _), fun y c h => ?_, fun p hp => absurd (show p ∈ ([] : List (Addr × Obj)) from hp) (by simp), e0.hok.kept hk, ?_⟩
  · exact name_of_addr x.apart (PySem.mem_of_lookup h1) (PySem.mem_of_lookup h2)
  · have hy : scope.names.lookup y = some .cell ∨ scope.names.lookup y = some .free := hy
    rcases hy with hy | hy
    · exact tP hy
    · exact absurd rfl (S.nofree _ (PySem.mem_of_lookup hy))
  · exact Nat.le_of_lt (x.above y c (PySem.mem_of_lookup h))
  · have hi : i < vs.length := by
      unfold lC at h2
      by_cases hi : i < vs.length
      · exact hi
      · rw [List.getElem?_append_right (by simpa using hi)] at h2
        rw [List.getElem?_replicate] at h2
        split at h2 <;> cases h2
    have ha : vs[i]? = some v := by
      unfold lC at h2
      rw [List.getElem?_append_left (by simpa using hi), List.getElem?_map] at h2
      cases e : vs[i]? with
      | none => rw [e] at h2; cases h2
      | some a => rw [e] at h2; cases h2; rfl
    obtain ⟨u, hu, rv⟩ := r.get ha
    have hp : ps[i]? = some y := by
      rw [<- S.pre, List.getElem?_take_of_lt (by omega)]; exact h1
    have ndP : ps.Nodup := by rw [<- S.pre]; exact S.nd.sublist (List.take_sublist _ _)
    refine ⟨u, rv, ?_⟩
    rcases S.par y (List.mem_of_getElem? hp) with k | k
    · exact .inl ⟨k, qF ndP hp hu k⟩
    · obtain ⟨c, e⟩ := tP (n := s.heap.objs.size + 1) k
      refine .inr ⟨.inl k, c, e, ?_⟩
      have q := x.cell y c e
      rw [qG ndP hp hu (by show scope.names.lookup y ≠ _; rw [k]; decide)] at q
      exact q
  · exact e0.hok.fresh (Nat.le_of_lt (x.above y c (PySem.mem_of_lookup h)))
  · unfold lC
    show _ = N.length
    rw [List.length_append, List.length_map, List.length_replicate]
    omega
theorem aCy {CX : CXT} {P : Program} {w : World} {K : PySem.W.Frag} {mg : Str -> Option Value} {base : Heap} {k : Nat} {f : Addr} {name qual : Str} {params : Arguments} {body : List Stmt} {scope : Scope} {dV kV doc pm cdv ct oc : Value} {an od : Option Addr}
    {osl : Array (Option Value)} {N ps : List Str} {sp : Sp} (lk : K.lookup f = some ⟨oc, od, .func (PySem.W.fnOf name qual params body scope dV kV doc pm an cdv ct), osl⟩) (hcd : PySem.W.codeIn K cdv qual = true) (S : FnScope N ps scope)
    (len : ∀ vs H Q E, sp vs H Q E -> vs.length = ps.length)
    (hbody : ∀ (A : Around) (outer : List Env) (s : Shared) (H : Hp) (vs : List V) (Q : VK) (E : XK), Room k (A.deeper (envOfC qual scope s.heap.objs.size f cdv)) -> sp vs H Q E ->
      ∃ t, PSs (vY CX P w K mg base N qual scope f cdv A outer s H E) body t /\ t { nx := fun _ H' => Q .non H', rt := Q } (lC N vs) H) :
    FnOk P w K mg base CX (k + 1) f (PySem.W.fnOf name qual params body scope dV kV doc pm an cdv ct) ps sp := by
  refine ⟨len, fun A outer s H args us vs Q E hr e0 hb r hsp => ?_⟩
  have hl := len _ _ _ _ hsp
  have KX : K.In s.heap := e0.mod.kin.keeps fun b o e => (e0.bs b o e).1
  have lim : s.heap.NoLimit := e0.mod.nolimit.keeps fun b o e => (e0.bs b o e).1
  have hkind : ∀ y ∈ ps.zip us, scope.names.lookup y.1 = some .local ∨ (scope.names.lookup y.1 = some .cell /\ ((cellsFrom (s.heap.objs.size + 1) scope.names []).lookup y.1).isSome = true) := fun ⟨n, v⟩ hy => by
    rcases S.par n (List.of_mem_zip hy).1 with q | q
    · exact .inl q
    · exact .inr ⟨q, PySem.W.cellsFrom_some _ _ _ (.inl q)⟩
  refine codeAny_call_function hr.depth (KX _ _ lk) rfl S.co S.gen rfl (PySem.W.codeRec_of KX hcd) (hb _ _ _ _ ?_)
  refine wpAny_newFunctionEnv_cells S.kind hkind fun env he s1 x => ?_
  subst he
  refine ⟨lim.keeps x.toInCall.keep, codeAny_func ?_⟩
  obtain ⟨t, ht, hq⟩ := hbody A outer s H vs Q E (hr.deeper _) hsp
  have I : Inv (vY CX P w K mg base N qual scope f cdv A outer s H E) [] (lC N vs) H s1 := zF S hr.hd e0 hl r x
  refine wpAny_mono (ht [] s1 (lC N vs) H _ I hq) (fun fl s' hs => ?_) fun e s' hs => hs
  have fin : ∀ {σ' : St} {H' : Hp} {v : V} {u : Value}, Inv (vY CX P w K mg base N qual scope f cdv A outer s H E) [] σ' H' s' -> bE v u -> Q v H' -> CE outer P w H s Q u s' :=
    fun {σ' H' v u} J rv q => ⟨v, H', J.os, J.bare, J.base, J.hok, rv, q⟩
  cases fl with
  | ret u =>
    obtain ⟨v, σ', H', J, rv, q⟩ := hs
    exact fin J rv q
  | next =>
    obtain ⟨σ', H', J, q⟩ := hs
    exact fin (v := V.non) (u := Value.none) J rfl q
  | brk =>
    obtain ⟨_, _, _, q⟩ := hs
    exact False.elim q
  | cont =>
    obtain ⟨_, _, _, q⟩ := hs
    exact False.elim q
end L2
namespace L2
open PySem PySem.Spec PyProof.Rows
section
variable {X : Cx} {x : Str} {p pos : Pos} {e : Expr} {es : List Expr} {t : TA} {id T : String} {r : List V -> Hp -> VK -> Prop}
def tCB (r : List V -> Hp -> VK -> Prop) (t : TA) : TE := fun σ H Q => t σ H fun vs H1 => r vs H1 Q
theorem aP (hc : eX X (.builtin id) r) (hg : Gl X x) (hm : X.mg x = none) (hv : bootBuiltins x = some (.builtin id)) (ha : PA X (e :: es) t) (hn : x ≠ "__name__" := by decide) (hdb : (x == ("__debug__" : Str)) = false := by decide)
    (he : starEach (e :: es) X.env = (false, eval e X.env) :: starEach es X.env := by rfl) (hpl : (backTo pos (starEach es X.env)).any (·.1) = false := by rfl) : PE X (.Call (.Name x p) (e :: es) [] pos) (tCB r t) := by
  intro pins s σ H Q I h
  refine wpAny_Call_Name_kw (iM I hg hm hv ?_ hn hdb)
  refine PyProof.Rows.callWith_builtin1 (thn (ha pos pins s σ H _ I h) fun us s1 hx9 => ?_) he hpl
  obtain ⟨vs, H1, I1, r1, q1⟩ := hx9
  exact hc pins s1 σ H1 vs us Q I1 r1 q1
theorem bT (hc : eX X (.type T) r) (hg : Gl X x) (hm : X.mg x = none) (hv : bootBuiltins x = some (.type T)) (ha : PA X (e :: es) t) (hn : x ≠ "__name__" := by decide) (hdb : (x == ("__debug__" : Str)) = false := by decide)
    (he : starEach (e :: es) X.env = (false, eval e X.env) :: starEach es X.env := by rfl) (hpl : (backTo pos (starEach es X.env)).any (·.1) = false := by rfl) : PE X (.Call (.Name x p) (e :: es) [] pos) (tCB r t) := by
  intro pins s σ H Q I h
  refine wpAny_Call_Name_kw (iM I hg hm hv ?_ hn hdb)
  refine PyProof.Rows.callWith_type1 (thn (ha pos pins s σ H _ I h) fun us s1 hx9 => ?_) he hpl
  obtain ⟨vs, H1, I1, r1, q1⟩ := hx9
  exact hc pins s1 σ H1 vs us Q I1 r1 q1
end
end L2
namespace HT
open PySem PyProof.Rows
section
open PySem.SeqAt
open PySem.AutoSeq1 (wpAny_loadPart')
open PySem.MeetsSeq PySem.MeetsSeq2 PySem.MeetsSeq3
end
section
variable {prog : Program} {w : World} {A : Around} {E : Value -> Shared -> Prop} {s : Shared}
theorem pick_gen (xs : Array Value) (i k : Nat) : ((List.range k).filterMap fun (m : Nat) => xs[((i : Int) + (m : Int) * 1).toNat]?).toArray = ((xs.toList.drop i).take k).toArray := by
  have e : (fun (m : Nat) => xs[((i : Int) + (m : Int) * 1).toNat]?) = fun m => xs[i + m]? := by
    funext m
    have : ((i : Int) + (m : Int) * 1).toNat = i + m := by omega
    rw [this]
  rw [e]
  have := pick_run xs i k
  rw [List.filterMap_map] at this
  have e2 : ((fun x => xs[x]?) ∘ fun x => i + x) = fun m => xs[i + m]? := rfl
  rw [e2] at this
  rw [this]
end
end HT
namespace L2
open PySem PySem.Spec PyProof.Rows
abbrev TO := St -> Hp -> (Option Int -> Hp -> Prop) -> Prop
theorem gU {ns : List Int} : ∀ {us : List Value}, bB (ns.map V.int) us -> IntsAre us ns := by
  induction ns with
  | nil => intro us r; rw [List.map_nil] at r; cases r; exact .nil
  | cons n ns ih =>
    intro us r
    rw [List.map_cons] at r
    cases r with
    | cons r1 r2 =>
      obtain ⟨t, e⟩ := r1
      subst e
      exact .cons n t (ih r2)
section
variable {X : Cx} {e : Expr} {te : TE} {lo hi : Option Expr} {tl th : TO} {pos p2 : Pos}
end
end L2
namespace L2
open PySem PySem.Spec PyProof.Rows
def ixN (n : Nat) (i : Int) : Option Nat := if 0 <= i then (if i < n then some i.toNat else none) else if -(n : Int) <= i then some (i + n).toNat else none
def atI {α : Type} (xs : List α) (i : Int) : Option α := (ixN xs.length i).bind fun j => xs[j]?
theorem xU {n : Nat} {i : Int} {j : Nat} (h : ixN n i = some j) : seqIndex? i n = some j /\ j < n /\ -(n : Int) <= i /\ i < n := by
  unfold ixN at h
  by_cases h0 : 0 <= i
  · rw [if_pos h0] at h
    by_cases h1 : i < n
    · rw [if_pos h1] at h
      have e : i.toNat = j := Option.some.inj h
      exact ⟨by rw [seqIndex_of h0 h1, e], by omega, by omega, h1⟩
    · rw [if_neg h1] at h; cases h
  · rw [if_neg h0] at h
    by_cases h1 : -(n : Int) <= i
    · rw [if_pos h1] at h
      have e : (i + n).toNat = j := Option.some.inj h
      exact ⟨by rw [seqIndex_neg (by omega) h1, e], by omega, h1, by omega⟩
    · rw [if_neg h1] at h; cases h
theorem xV {α : Type} {xs : List α} {i : Int} {v : α} (h : atI xs i = some v) : ∃ j, seqIndex? i xs.length = some j /\ xs[j]? = some v /\ j < xs.length /\ -(xs.length : Int) <= i /\ i < xs.length := by
  unfold atI at h
  cases e : ixN xs.length i with
  | none => rw [e] at h; cases h
  | some j =>
    rw [e] at h
    obtain ⟨h1, h2, h3, h4⟩ := xU e
    exact ⟨j, h1, h, h2, h3, h4⟩
theorem eC {α : Type} {xs : List α} {j : Nat} {v : α} (h : xs[j]? = some v) : atI xs (j : Int) = some v := by
  have hj : j < xs.length := (List.getElem?_eq_some_iff.mp h).1
  have e : ixN xs.length (j : Int) = some j := by
    unfold ixN
    rw [if_pos (by omega), if_pos (by omega)]; simp
  unfold atI; rw [e]; exact h
theorem aAv {α : Type} (xs : List α) (v : α) : atI (xs ++ [v]) (-1) = some v := by
  have hl : (xs ++ [v]).length = xs.length + 1 := by simp
  have e : ixN (xs ++ [v]).length (-1) = some xs.length := by
    unfold ixN
    rw [hl, if_neg (by decide), if_pos (by omega)]
    congr 1
    omega
  unfold atI
  rw [e]
  show (xs ++ [v])[xs.length]? = some v
  simp
def aBS (b : Expr) : Prop := ∀ o i, subscripted b false o i = operate [o, i] (getItem o i)
def IxR (X : Cx) (r : R2) : Prop :=
  ∀ (value slice : Expr) (pins : List (Addr × Obj)) (s : Shared) (σ : St) (H : Hp) (x y : V) (v u : Value) (Q : VK), Inv X pins σ H s -> bE x v -> bE y u -> r x y H Q ->
    subscripted slice false v u = operate [v, u] (getItem v u) -> wpAny (model X.prog X.w) X.A (subscriptTail value slice v u) (EP X pins σ Q) X.xe s
def MtR (X : Cx) (id : String) (r : V -> List V -> Hp -> VK -> Prop) : Prop :=
  ∀ (pins : List (Addr × Obj)) (s : Shared) (σ : St) (H : Hp) (x : V) (xs : List V) (v : Value) (us : List Value) (Q : VK), Inv X pins σ H s -> bE x v -> bB xs us -> r x xs H Q ->
    wpAny (model X.prog X.w) X.A (call (.builtin id) (v :: us)) (EP X pins σ Q) X.xe s
section
variable {X : Cx} {a b : Expr} {ta tb : TE} {pos : Pos}
theorem bC {r : R2} (hr : IxR X r) (ha : PE X a ta) (hb : PE X b tb) (hs : aBS b) : PE X (.Subscript a b pos) (tOp r ta tb) := by
  intro pins s σ H Q I h
  exact Subscript_ (aCT ha hb I h fun v u s2 x y H2 I2 rx ry q => hr a b pins s2 σ H2 x y v u Q I2 rx ry q (hs _ _))
def aDI (K : PySem.W.Frag) : R2 := fun x y H Q => ∃ p xs i v, x = .ref p /\ y = .int i /\ SqL K H p xs /\ atI xs i = some v /\ Q v H
def aDJ (K : PySem.W.Frag) : R2 := fun x y H Q => ∃ p xs i v, x = .ref p /\ y = .int i /\ SqT K H p xs /\ atI xs i = some v /\ Q v H
theorem bZ : IxR X (aDI X.K) := by
  intro value slice pins s σ H x y v u Q I rx ry h hs
  obtain ⟨p, xs, i, z, rfl, rfl, hq, he, q⟩ := h
  cases rx
  obtain ⟨t, rfl⟩ := ry
  obtain ⟨its, r, pl, hz⟩ := I.list hq
  obtain ⟨j, h1, h2, h3, h4, h5⟩ := xV he
  obtain ⟨w, ew, rw'⟩ := r.get h2
  have hl := r.length
  have hn := nS
  have fin : EP X pins σ Q w s := ⟨z, H, I, rw', q⟩
  by_cases h0 : 0 <= i
  · have hj : i.toNat = j := by
      rw [seqIndex_of h0 h5] at h1
      exact Option.some.inj h1
    exact item_listR pl.isList h0 (by omega) (by rw [hj]; simpa using ew) fin hs
  · have hj : (i + (its.toArray.size : Int)).toNat = j := by
      rw [seqIndex_neg (by omega) h4] at h1
      rw [List.size_toArray, <- hl]
      exact Option.some.inj h1
    exact subscriptTail_builtinR (x := w) pl.isList.typeIs slot_list_getitem.lookup
      (wpAny_getItem_list_neg (Q := fun r s' => r = w /\ EP X pins σ Q r s') pl.isList (by omega) (by rw [List.size_toArray] <;> omega) (by omega) (by rw [hj]; simpa using ew) ⟨rfl, fin⟩) hs
theorem bP : IxR X (aDJ X.K) := by
  intro value slice pins s σ H x y v u Q I rx ry h hs
  obtain ⟨p, xs, i, z, rfl, rfl, hq, he, q⟩ := h
  cases rx
  obtain ⟨t, rfl⟩ := ry
  obtain ⟨its, r, pl, hz⟩ := I.tuple hq
  obtain ⟨j, h1, h2, h3, h4, h5⟩ := xV he
  obtain ⟨w, ew, rw'⟩ := r.get h2
  have hl := r.length
  have hn := nS
  have fin : EP X pins σ Q w s := ⟨z, H, I, rw', q⟩
  exact subscriptTail_builtinR (x := w) pl.typeIs slot_tuple_getitem.lookup
    (getItem_tuple (j := j) (Q := fun r s' => r = w /\ EP X pins σ Q r s') pl (by omega) (by omega) (by rw [List.size_toArray, <- hl]; exact h1) (by simpa using ew) ⟨rfl, fin⟩) hs
theorem vZ (its : List Value) (n j : Nat) (u : Value) : Obj.mapSeq (·.setIfInBounds j u) { cls := .type "list", data := .seq its.toArray n } = { cls := .type "list", data := .seq (its.set j u).toArray n } := by
  simp [Obj.mapSeq]
theorem Inv.lst {pins : List (Addr × Obj)} {σ : St} {H : Hp} {s : Shared} {p : Addr} {xs : List V} (I : Inv X pins σ H s) (h : H p = some (.lst xs)) :
    ∃ (its : List Value) (n : Nat), bB xs its /\ s.heap.get? p = some { cls := .type "list", data := .seq its.toArray n } /\ xs.length <= sizeLine := by
  obtain ⟨z, its, n, r, e⟩ := I.hok p _ h
  exact ⟨its, n, r, e, z⟩
theorem Inv.lstUpd {pins : List (Addr × Obj)} {σ : St} {H : Hp} {s : Shared} {p : Addr} {xs ys : List V} {its its' : List Value} {n n' : Nat} {f : Obj -> Obj} (I : Inv X pins σ H s) (h : H p = some (.lst xs))
    (ho : s.heap.get? p = some { cls := .type "list", data := .seq its.toArray n }) (hf : f { cls := .type "list", data := .seq its.toArray n } = { cls := .type "list", data := .seq its'.toArray n' }) (r : bB ys its') (hz : ys.length <= sizeLine) (t : Nat) :
    Inv X pins σ (upd H p (.lst ys)) { s with heap := s.heap.update p f, toks := t } := by
  have e : (s.heap.update p f).get? p = some { cls := .type "list", data := .seq its'.toArray n' } := by
    rw [Heap.get?_update_self f ho (by rw [hf] <;> rfl), hf]
  refine I.write (x := p) (e := p) (by rw [h]; trivial) (.inl rfl) (fun b u hb q => (Heap.get?_update_other _ _ (Ne.symm hb)).trans q) ⟨_, e⟩ ?_
  exact ⟨hz, its', n', r, e⟩
def aDK : V -> V -> V -> Hp -> (Hp -> Prop) -> Prop := fun o i v H Q => ∃ p xs k j, o = .ref p /\ i = .int k /\ H p = some (.lst xs) /\ ixN xs.length k = some j /\ Q (upd H p (.lst (xs.set j v)))
theorem lD : aDz X aDK := by
  intro pins s σ H o i v ov iv u Q I ro ri rv h
  obtain ⟨p, xs, k, j, rfl, rfl, hp, hj, q⟩ := h
  cases ro
  obtain ⟨t, rfl⟩ := ri
  obtain ⟨its, n, r, ho, hz⟩ := I.lst hp
  obtain ⟨h1, h2, h3, h4⟩ := xU hj
  have hl := r.length
  have hn := nS
  have I' : Inv X pins σ (upd H p (.lst (xs.set j v))) { s with heap := s.heap.update p (Obj.mapSeq (·.setIfInBounds j u)) } :=
    I.lstUpd hp ho (vZ its n j u) (r.set rv j) (by rw [List.length_set]; exact hz) s.toks
  by_cases h0 : 0 <= k
  · have hk : k.toNat = j := by
      rw [seqIndex_of h0 h4] at h1
      exact Option.some.inj h1
    exact PySem.W.ki_setAt ho h0 (by omega) (by rw [List.size_toArray, <- hl]; exact h4) (by rw [hk]; exact ⟨_, I', q⟩)
  · have hk : (k + (its.toArray.size : Int)).toNat = j := by
      rw [seqIndex_neg (by omega) h3] at h1
      rw [List.size_toArray, <- hl]
      exact Option.some.inj h1
    exact PySem.W.ki_setBack ho (by omega) (by rw [List.size_toArray, <- hl]; exact h3) (by omega) (by rw [hk]; exact ⟨_, I', q⟩)
def lE : V -> Bool
  | .non => true
  | .bl _ => true
  | .int _ => true
  | .str _ => true
  | _ => false
def eqV : V -> V -> Bool
  | .non, .non => true
  | .bl a, .bl b => a == b
  | .bl a, .int b => (if a then 1 else 0) == b
  | .int a, .bl b => a == (if b then 1 else 0)
  | .int a, .int b => a == b
  | .str a, .str b => a == b
  | _, _ => false
theorem aC0 {A : Around} {s : Shared} {y x : V} {u v : Value} (ry : bE y u) (rx : bE x v) (fy : lE y = true) (fx : lE x = true) : SeqAt.EqAt A s u v (eqV y x) := by
  cases y with
  | non =>
    cases ry
    cases x with
    | non => cases rx; exact SeqAt.EqAt.same _
    | bl b => cases rx; exact SeqAt.EqAt.none_bool b
    | int b => obtain ⟨t, rfl⟩ := rx; exact SeqAt.EqAt.none_int b t
    | str b => obtain ⟨t, rfl⟩ := rx; exact SeqAt.EqAt.none_str b t
    | _ => exact absurd (show false = true from fx) Bool.false_ne_true
  | bl a =>
    cases ry
    cases x with
    | non => cases rx; exact SeqAt.EqAt.bool_none a
    | bl b => cases rx; exact SeqAt.EqAt.bool_bool a b
    | int b => obtain ⟨t, rfl⟩ := rx; exact SeqAt.EqAt.bool_int a b t
    | str b => obtain ⟨t, rfl⟩ := rx; exact SeqAt.EqAt.bool_str a b t
    | _ => exact absurd (show false = true from fx) Bool.false_ne_true
  | int a =>
    obtain ⟨t', rfl⟩ := ry
    cases x with
    | non => cases rx; exact SeqAt.EqAt.int_none a t'
    | bl b => cases rx; exact SeqAt.EqAt.int_bool a t' b
    | int b => obtain ⟨t, rfl⟩ := rx; exact SeqAt.EqAt.int_int a t' b t
    | str b => obtain ⟨t, rfl⟩ := rx; exact SeqAt.EqAt.int_str a t' b t
    | _ => exact absurd (show false = true from fx) Bool.false_ne_true
  | str a =>
    obtain ⟨t', rfl⟩ := ry
    cases x with
    | non => cases rx; exact SeqAt.EqAt.str_none a t'
    | bl b => cases rx; exact SeqAt.EqAt.str_bool a t' b
    | int b => obtain ⟨t, rfl⟩ := rx; exact SeqAt.EqAt.str_int a t' b t
    | str b => obtain ⟨t, rfl⟩ := rx; exact SeqAt.EqAt.str_str a t' b t
    | _ => exact absurd (show false = true from fx) Bool.false_ne_true
  | _ => exact absurd (show false = true from fy) Bool.false_ne_true
def eqU (x : V) (u : Value) : Bool := match u with
  | .none => eqV .non x
  | .bool b => eqV (.bl b) x
  | .int i _ => eqV (.int i) x
  | .str z _ => eqV (.str z) x
  | _ => false
theorem aAw {x y : V} {u : Value} (r : bE y u) (f : lE y = true) : eqU x u = eqV y x := by
  cases y with
  | non => cases r; rfl
  | bl b => cases r; rfl
  | int i => obtain ⟨t, rfl⟩ := r; rfl
  | str z => obtain ⟨t, rfl⟩ := r; rfl
  | _ => exact absurd (show false = true from f) Bool.false_ne_true
theorem nD {x : V} : ∀ {xs : List V} {us : List Value}, bB xs us -> xs.all lE = true -> us.any (eqU x) = xs.any fun y => eqV y x
  := by
  intro xs us h
  induction h with
  | nil => intro _; rfl
  | cons r t ih =>
    intro f
    rw [List.all_cons, Bool.and_eq_true] at f
    rw [List.any_cons, List.any_cons, aAw r f.1, ih f.2]
theorem jA {A : Around} {s : Shared} {x : V} {v : Value} (rx : bE x v) (fx : lE x = true) : ∀ {xs : List V} {us : List Value}, bB xs us -> xs.all lE = true -> ∀ u ∈ us, SeqAt.EqAt A s u v (eqU x u)
  | _, _, .nil, _ => fun u hu => by cases hu
  | y :: xs, u :: us, .cons r t, f => fun u' hu => by
    rw [List.all_cons, Bool.and_eq_true] at f
    rcases List.mem_cons.mp hu with rfl | hu
    · rw [aAw r f.1]; exact aC0 r rx f.1 fx
    · exact jA rx fx t f.2 u' hu
def inV (x : V) (xs : List V) : Bool := xs.any fun y => eqV y x
def rIn (K : PySem.W.Frag) (neg : Bool) : R2 := fun x y H Q => ∃ p xs, y = .ref p /\ (SqL K H p xs ∨ SqT K H p xs) /\ lE x = true /\ xs.all lE = true /\ Q (.bl (if neg then !inV x xs else inV x xs)) H
theorem mB : OpR X (compareOp .In) (rIn X.K false) := by
  intro pins s σ H x y v u Q I rx ry h
  obtain ⟨p, xs, rfl, hq, fx, fs, q⟩ := h
  cases ry
  rcases hq with hq | hq
  · obtain ⟨its, r, pl, hz⟩ := I.list hq
    refine SeqAt.in_listAt (eqU x) pl.isList (fun w hw => jA rx fx r fs w (by simpa using hw)) ⟨.bl _, H, I, rfl, ?_⟩
    rw [show its.toArray.any (eqU x) = its.any (eqU x) by simp, nD r fs]
    exact q
  · obtain ⟨its, r, pl, hz⟩ := I.tuple hq
    refine SeqAt.in_tupleAt (eqU x) pl (fun w hw => jA rx fx r fs w (by simpa using hw)) ⟨.bl _, H, I, rfl, ?_⟩
    rw [show its.toArray.any (eqU x) = its.any (eqU x) by simp, nD r fs]
    exact q
theorem rX : OpR X (compareOp .NotIn) (rIn X.K true) := by
  intro pins s σ H x y v u Q I rx ry h
  obtain ⟨p, xs, rfl, hq, fx, fs, q⟩ := h
  cases ry
  rcases hq with hq | hq
  · obtain ⟨its, r, pl, hz⟩ := I.list hq
    refine SeqAt.notIn_listAt (eqU x) pl.isList (fun w hw => jA rx fx r fs w (by simpa using hw)) ⟨.bl _, H, I, rfl, ?_⟩
    rw [show its.toArray.any (eqU x) = its.any (eqU x) by simp, nD r fs]
    exact q
  · obtain ⟨its, r, pl, hz⟩ := I.tuple hq
    refine SeqAt.notIn_tupleAt (eqU x) pl (fun w hw => jA rx fx r fs w (by simpa using hw)) ⟨.bl _, H, I, rfl, ?_⟩
    rw [show its.toArray.any (eqU x) = its.any (eqU x) by simp, nD r fs]
    exact q
theorem bA : eX X (.builtin "len") (fun xs H Q => ∃ p ys, xs = [.ref p] /\ (SqL X.K H p ys ∨ SqT X.K H p ys) /\ Q (.int ys.length) H) := by
  intro pins s σ H xs us Q I r h
  obtain ⟨p, ys, rfl, hq, q⟩ := h
  obtain ⟨u, rfl, rx⟩ := gF r
  cases rx
  have hn := nS
  rcases hq with hq | hq
  · obtain ⟨its, r', pl, hz⟩ := I.list hq
    have hlen := r'.length
    exact Calls.call_len_list pl.isList (by simp only [List.size_toArray] <;> omega) ⟨.int ys.length, H, I.tok _, ⟨s.toks + 1, by rw [List.size_toArray, hlen]⟩, q⟩
  · obtain ⟨its, r', pl, hz⟩ := I.tuple hq
    have hlen := r'.length
    exact len_tuple pl (by simp only [List.size_toArray] <;> omega) ⟨.int ys.length, H, I.tok _, ⟨s.toks + 1, by rw [List.size_toArray, hlen]⟩, q⟩
theorem rY : eX X (.type "list") (fun xs H Q => ∃ p ys, xs = [.ref p] /\ (SqL X.K H p ys ∨ SqT X.K H p ys) /\ ∀ l, H l = none -> Q (.ref l) (upd H l (.lst ys))) := by
  intro pins s σ H xs us Q I r h
  obtain ⟨p, ys, rfl, hq, q⟩ := h
  obtain ⟨u, rfl, rx⟩ := gF r
  cases rx
  have fin : ∀ (its : List Value), bB ys its -> ys.length <= sizeLine -> ∀ (h' : Heap) (c' : Nat), (∀ b o', s.heap.get? b = some o' -> h'.get? b = some o') ->
      h'.get? s.heap.objs.size = some { cls := .type "list", dict := none, data := .seq its.toArray c', slots := #[] } -> EP X pins σ Q (.ref s.heap.objs.size) { s with heap := h' } := fun its r' hz h' c' kp e =>
    ⟨.ref s.heap.objs.size, _, I.laid (t' := s.toks) kp (Nat.le_refl _) (show bO X.prog X.w _ h' _ (.lst ys) from ⟨hz, its, c', r', e⟩), rfl, q _ (I.hok.fresh (Nat.le_refl _))⟩
  rcases hq with hq | hq
  · obtain ⟨its, r', pl, hz⟩ := I.list hq
    have hlen := r'.length
    obtain ⟨o, ho, hc, n, hd⟩ := pl.isList
    exact call_list_seq p (.inl rfl) ho hc hd (fun h' c' kp e => fin its r' hz h' c' kp e) (by simp only [List.size_toArray] <;> omega)
  · obtain ⟨its, r', pl, hz⟩ := I.tuple hq
    have hlen := r'.length
    obtain ⟨o, ho, hc, n, hd⟩ := pl
    exact call_list_seq p (.inr rfl) ho hc hd (fun h' c' kp e => fin its r' hz h' c' kp e) (by simp only [List.size_toArray] <;> omega)
theorem bN : eX X (.type "tuple") (fun xs H Q => ∃ p ys, xs = [.ref p] /\ ((SqL X.K H p ys /\ ∀ l, H l = none -> Q (.ref l) (upd H l (.tup ys))) ∨ (SqT X.K H p ys /\ Q (.ref p) H))) := by
  intro pins s σ H xs us Q I r h
  obtain ⟨p, ys, rfl, h⟩ := h
  obtain ⟨u, rfl, rx⟩ := gF r
  cases rx
  rcases h with ⟨hq, q⟩ | ⟨hq, q⟩
  · obtain ⟨its, r', pl, hz⟩ := I.list hq
    have hlen := r'.length
    refine call_tuple_list pl.isList (fun h' kp => ?_) (by simp only [List.size_toArray] <;> omega)
    have I1 : Inv X pins σ H { s with heap := h' } := I.kept (t' := s.toks) kp
    have I2 : Inv X pins σ (upd H h'.objs.size (.tup ys)) { s with heap := h'.push { cls := .type "tuple", data := .seq its.toArray } } :=
      I1.laid (t' := s.toks) (fun b o e => Heap.get?_push_of_some _ e) (Nat.le_refl _) (show bO X.prog X.w _ _ _ (.tup ys) from ⟨hz, its, 0, r', Heap.get?_push_size _ rfl⟩)
    exact ⟨.ref h'.objs.size, _, I2, rfl, q _ (I1.hok.fresh (Nat.le_refl _))⟩
  · obtain ⟨its, r', pl, hz⟩ := I.tuple hq
    exact call_tuple_same pl ⟨.ref p, H, I, rfl, q⟩
def tyV (K : PySem.W.Frag) (T : String) (x : V) (H : Hp) : Prop := match x with
  | .str _ => T = "str"
  | .int _ => T = "int"
  | .ref p => (T = "list" /\ ∃ xs, SqL K H p xs) ∨ (T = "tuple" /\ ∃ xs, SqT K H p xs) ∨
      (T = "dict" /\ ((∃ kvs, H p = some (.dK kvs)) ∨ ∃ kvs, H p = some (.dT kvs))) ∨ (T = "set" /\ ∃ S n, H p = some (.set S n))
  | _ => False
theorem aC1 {pins : List (Addr × Obj)} {σ : St} {H : Hp} {s : Shared} {T : String} {x : V} {v : Value} (I : Inv X pins σ H s) (r : bE x v) (ty : tyV X.K T x H) :
    s.TypeIs v T /\ ∀ a, v = .ref a -> ∃ ob, s.heap.get? a = some ob /\ ob.dict = none := by
  cases x with
  | str z =>
    obtain ⟨t, rfl⟩ := r
    cases (show T = "str" from ty)
    exact ⟨typeIs_str s z t, fun _ e => nomatch e⟩
  | int i =>
    obtain ⟨t, rfl⟩ := r
    cases (show T = "int" from ty)
    exact ⟨typeIs_int s i t, fun _ e => nomatch e⟩
  | ref p =>
    cases r
    rcases ty with ⟨rfl, xs, hq⟩ | ⟨rfl, xs, hq⟩ | ⟨rfl, hk⟩ | ⟨rfl, S, n, hk⟩
    · obtain ⟨its, _, pl, _⟩ := I.list hq
      refine ⟨pl.isList.typeIs, fun a e => ?_⟩
      cases e
      obtain ⟨o, n, e, c, hd, _⟩ := pl
      exact ⟨o, e, hd⟩
    · obtain ⟨o, e, hc, hd⟩ : ∃ o, s.heap.get? p = some o /\ o.cls = .type "tuple" /\ o.dict = none := by
        rcases hq with hq | ⟨o, _, _, hk, hc, hd, _⟩
        · obtain ⟨_, its, n, _, e⟩ := hq.ok I.hok
          exact ⟨_, e, rfl, rfl⟩
        · exact ⟨o, I.kIn p o hk, hc, hd⟩
      refine ⟨⟨o, e, hc⟩, fun a e2 => ?_⟩
      cases e2
      exact ⟨o, e, hd⟩
    · have z : ∃ o, s.heap.get? p = some o /\ o.ExactDict := by
        rcases hk with ⟨kvs, hk⟩ | ⟨kvs, hk⟩
        · obtain ⟨_, _, _, _, o, _, _, e, ex, _⟩ := I.hok p _ hk
          exact ⟨o, e, ex⟩
        · obtain ⟨_, _, _, _, o, _, _, e, ex, _⟩ := I.hok p _ hk
          exact ⟨o, e, ex⟩
      obtain ⟨o, e, ex⟩ := z
      refine ⟨⟨o, e, ex.1⟩, fun a e2 => ?_⟩
      cases e2
      exact ⟨o, e, ex.2.1⟩
    · obtain ⟨o, _, _, _, e, ex, _⟩ := I.hok p _ hk
      refine ⟨⟨o, e, ex.1⟩, fun a e2 => ?_⟩
      cases e2
      exact ⟨o, e, ex.2.1⟩
  | _ => exact False.elim ty
def tBM (K : PySem.W.Frag) (T : String) (r : V -> List V -> Hp -> VK -> Prop) (to : TE) (t : TA) : TE := fun σ H Q => to σ H fun x H1 => tyV K T x H1 /\ t σ H1 fun xs H2 => r x xs H2 Q
variable {o e : Expr} {es : List Expr} {to : TE} {t : TA} {name : Str} {apos cpos : Pos} {T id : String} {r : V -> List V -> Hp -> VK -> Prop}
theorem lF (pa : PlainAttrs T) (slot : Slot T name id) (hty : typeOf (.builtin id) = pure (.type "method_descriptor")) (hm : MtR X id r) (ho : PE X o to) (ha : PA X (e :: es) t)
    (hbase : attributeBase o name X.env (eval o X.env) = eval o X.env := by rfl)
    (hfew : ((backTo cpos (starEach (e :: es) X.env)).all (fun x => !x.1) && (backToKw cpos (keywordEach [] X.env)).all (fun x => x.1.isSome)
      && decide ((e :: es).length + ([] : List Keyword).length + (if ([] : List Keyword).isEmpty then 0 else 1) < 30)) = true := by rfl)
    (hline : (apos.endLine == cpos.line) = true := by rfl) (hs : starEach (e :: es) X.env = (false, eval e X.env) :: starEach es X.env := by rfl) (hplain : (backTo cpos (starEach es X.env)).any (·.1) = false := by rfl) :
    PE X (.Call (.Attribute o name apos) (e :: es) [] cpos) (tBM X.K T r to t) := by
  intro pins s σ H Q I h
  refine wpAny_Call_method_late hbase hfew hline rfl (thn (ho pins s σ H _ I h) fun v s1 hx9 => ?_)
  obtain ⟨x, H1, I1, r1, ty, q1⟩ := hx9
  obtain ⟨h1, h2⟩ := aC1 I1 r1 ty
  refine ⟨T, id, pa, slot, hty, h1, h2, ?_⟩
  have hA := ha cpos pins s1 σ H1 _ I1 q1
  rw [hs] at hA ⊢
  refine Calls.callWith_builtin (by show (false || (backTo cpos (starEach es X.env)).any (·.1)) = false; rw [hplain] <;> rfl) (Calls.evalArgs_plain ?_)
  refine thn hA fun us s2 hx9 => ?_
  obtain ⟨vs, H2, I2, r2, q2⟩ := hx9
  exact hm pins s2 σ H2 x vs v us Q I2 r1 r2 q2
/- xs.append(e), list.index on a module's tuple .. are MtR facts of 06m -/
end
end L2
namespace L2
open PySem PySem.Spec PyProof.Rows
def MtM (X : Cx) (id : String) (r : V -> List V -> Hp -> VK -> Prop) : Prop :=
  ∀ (pins : List (Addr × Obj)) (s : Shared) (σ : St) (H : Hp) (x : V) (xs : List V) (v : Value) (us : List Value) (Q : VK), Inv X pins σ H s -> bE x v -> bB xs us -> r x xs H Q ->
    wpAny (model X.prog X.w) X.A (call (.builtin id) (v :: us)) (EP X pins σ Q) X.xe s
theorem bB.one {x : V} {us : List Value} (r : bB [x] us) : ∃ u, us = [u] /\ bE x u := gF r
theorem bB.two {x y : V} {us : List Value} (r : bB [x, y] us) : ∃ u v, us = [u, v] /\ bE x u /\ bE y v := mS r
theorem bB.zero : ∀ {us : List Value}, bB [] us -> us = []
  | _, .nil => rfl
theorem bB.eraseIdx : ∀ {xs : List V} {us : List Value} (i : Nat), bB xs us -> bB (xs.eraseIdx i) (us.eraseIdx i)
  | _, _, _, .nil => .nil
  | _, _, 0, .cons _ t => t
  | _, _, i + 1, .cons r t => .cons r (bB.eraseIdx i t)
theorem bB.reverse {xs : List V} {us : List Value} (h : bB xs us) : bB xs.reverse us.reverse := by
  induction h with
  | nil => exact .nil
  | cons r t ih => rw [List.reverse_cons, List.reverse_cons]; exact bB.append ih (.cons r .nil)
theorem qH {α : Type} : ∀ (l : List α) (i : Nat), (l.eraseIdx i).length <= l.length
  | [], _ => Nat.le_refl _
  | _ :: _, 0 => Nat.le_succ _
  | _ :: r, i + 1 => Nat.succ_le_succ (qH r i)
section
variable {X : Cx} {pins : List (Addr × Obj)} {σ : St} {H : Hp} {s : Shared} {l b : Addr} {xs ys zs : List V}
theorem Inv.lset {its its' : List Value} {n : Nat} {f : Array Value -> Array Value} {t' : Nat} (I : Inv X pins σ H s) (hH : H l = some (.lst xs))
    (e : s.heap.get? l = some { cls := .type "list", data := .seq its.toArray n }) (hf : f its.toArray = its'.toArray) (hv : bB ys its') (hz : ys.length <= sizeLine) :
    Inv X pins σ (upd H l (.lst ys)) { s with heap := s.heap.update l (Obj.mapSeq f), toks := t' } := by
  have q := PySem.IsL.update e f
  rw [hf] at q
  refine I.write (x := l) (e := l) (by rw [hH]; exact trivial) (.inl rfl) (fun b' u hb hu => (Heap.get?_update_other s.heap (Obj.mapSeq f) (Ne.symm hb)).trans hu) ⟨_, q⟩ ?_
  exact ⟨hz, its', _, hv, q⟩
theorem Inv.lnew {its : List Value} {t' : Nat} (I : Inv X pins σ H s) (hv : bB ys its) (hz : ys.length <= sizeLine) :
    Inv X pins σ (upd H s.heap.objs.size (.lst ys)) { s with heap := s.heap.push { cls := .type "list", data := .seq its.toArray }, toks := t' } :=
  I.laid (fun _ _ q => Heap.get?_push_of_some _ q) (Nat.le_refl _) ⟨hz, its, 0, hv, Heap.get?_push_size _ rfl⟩
theorem Inv.fresh (I : Inv X pins σ H s) : H s.heap.objs.size = none := I.hok.fresh (Nat.le_refl _)
theorem Inv.lstM (I : Inv X pins σ H s) (hH : H l = some (.lst xs)) : xs.length <= sizeLine /\ ∃ (its : List Value) (n : Nat), bB xs its /\ xs.length = its.length /\ s.heap.get? l = some { cls := .type "list", data := .seq its.toArray n } := by
  obtain ⟨z, its, n, r, e⟩ := I.hok l _ hH
  exact ⟨z, its, n, r, r.length, e⟩
end
section
variable {X : Cx}
def aBT : V -> List V -> Hp -> VK -> Prop := fun x vs H Q => ∃ l xs y, x = .ref l /\ vs = [y] /\ H l = some (.lst xs) /\ xs.length < sizeLine /\ Q .non (upd H l (.lst (xs ++ [y])))
theorem iF : MtM X "list.append" aBT := by
  intro pins s σ H x vs v us Q I rx rv h
  obtain ⟨l, xs, y, rfl, rfl, hH, hz, q⟩ := h
  cases rx
  obtain ⟨u, rfl, ru⟩ := rv.one
  obtain ⟨z, its, n, r, hl, e⟩ := I.lstM hH
  refine call_meets F.slot_list_append ⟨_, e, rfl⟩ F.entry_list_append (F.args_list_append_2 _ _) (PySem.list_append l its.toArray n u (by rw [List.size_toArray]; omega)) ⟨e, ?_⟩
  refine ⟨.non, _, I.lset (its' := its ++ [u]) hH e (by simp) (r.append (.cons ru .nil)) ?_, rfl, q⟩
  rw [List.length_append, List.length_singleton]
  omega
def aC2 : V -> List V -> Hp -> VK -> Prop := fun x vs H Q => ∃ l xs i k y, x = .ref l /\ vs = [.int i] /\ H l = some (.lst xs) /\ -(2 ^ 63) <= i /\ i < 2 ^ 63 /\ seqIndex? i xs.length = some k /\ xs[k]? = some y /\ Q y (upd H l (.lst (xs.eraseIdx k)))
theorem aAx : MtM X "list.pop" aC2 := by
  intro pins s σ H x vs v us Q I rx rv h
  obtain ⟨l, xs, i, k, y, rfl, rfl, hH, h1, h2, hk, hy, q⟩ := h
  cases rx
  obtain ⟨u, rfl, ru⟩ := rv.one
  obtain ⟨t, rfl⟩ := ru
  obtain ⟨z, its, n, r, hl, e⟩ := I.lstM hH
  obtain ⟨w, hw, rw'⟩ := r.get hy
  refine call_meets F.slot_list_pop ⟨_, e, rfl⟩ F.entry_list_pop (F.args_list_pop_2 _ _)
    (MeetsSeq.list_pop_at l its.toArray n i t k w (fitsIndex_both h1 h2) (by rw [List.size_toArray, <- hl]; exact hk) (by rw [<- Array.getElem?_toList]; exact hw) (by rw [List.size_toArray]; omega)) ⟨e, ?_⟩
  refine ⟨y, _, I.lset (its' := its.eraseIdx k) hH e ?_ (r.eraseIdx k) ?_, rw', q⟩
  · show its.toArray.eraseIdxIfInBounds k = (its.eraseIdx k).toArray
    rw [List.eraseIdxIfInBounds_toArray]
  · have := qH xs k
    omega
def aEf : R2 := fun x y H Q => ∃ l b xs zs, x = .ref l /\ y = .ref b /\ H l = some (.lst xs) /\ H b = some (.lst zs) /\ xs.length + zs.length <= sizeLine /\ ∀ p, H p = none -> Q (.ref p) (upd H p (.lst (xs ++ zs)))
theorem aC3 : OpR X (binaryOp .Add) aEf := by
  intro pins s σ H x y v u Q I rx ry h
  obtain ⟨l, b, xs, zs, rfl, rfl, hH, hB, hz, q⟩ := h
  cases rx
  cases ry
  obtain ⟨z, its, n, r, hl, e⟩ := I.lstM hH
  obtain ⟨z2, its2, n2, r2, hl2, e2⟩ := I.lstM hB
  refine PySem.P.add_list e e2 ?_ (by rw [List.size_toArray, List.size_toArray]; omega)
  have ea : its.toArray ++ its2.toArray = (its ++ its2).toArray := by simp
  rw [ea]
  exact ⟨.ref _, _, I.lnew (t' := s.toks) (r.append r2) (by rw [List.length_append]; omega), rfl, q _ I.fresh⟩
end
section
variable {prog : Program} {w : World} {A : Around} {E : Value -> Shared -> Prop} {s : Shared}
end
section
variable {X : Cx}
end
end L2
namespace Att
open PySem PySem.W PySem.Calls PyProof.Rows
theorem nB {P : Params} {h : Heap} : ∀ (ns : List Int) (vs : List Value), WellAll P h vs (ns.map WData.int) -> IntsAre vs ns := by
  intro ns
  induction ns with
  | nil =>
    intro vs w
    rw [List.map_nil] at w
    cases w
    exact .nil
  | cons n ns ih =>
    intro vs w
    rw [List.map_cons] at w
    cases w with
    | cons a b =>
      cases a
      exact .cons _ _ (ih _ b)
theorem zG {l : OpenLaw} {n : Nat} (hn : l.most = some n) {P : Params} {h : Heap} {args : List WData} {vals : List Value}
    (hpre : l.row.toRowW.claim.pre args = true) (hwl : WellAll P h vals args) :
    ∃ a vs ns, vals = [Value.ref a] /\ args = [WData.list (ns.map WData.int)] /\ h.get? a = some { cls := .type "list", data := .seq vs.toArray } /\ IntsAre vs ns /\ ns.length <= n := by
  have hsh : WShape.hasAll [] args [.list .int] = true := (pre_splitW hpre).1
  have hc : l.pre.holds [] { args := args } = true := (pre_splitW hpre).2
  obtain ⟨d, r, rfl, h1, h2⟩ := hasAllW_cons hsh
  obtain rfl := hasAllW_nil h2
  obtain ⟨xs, rfl, h3⟩ := hasW_list h1
  obtain ⟨ns, rfl⟩ := items_int h3
  have hlen : ns.length <= n := by
    unfold OpenLaw.pre at hc
    have h4 : (WTm.not (.lt (.lit (.int (n : Int))) (.len (.arg 0)))).holds [] { args := [.list (ns.map .int)] } = true := by
      have h4 := (holds_andW hc).1
      rw [hn] at h4
      exact h4
    have h5 := condW_of h4 (w_not (w_lt w_lit (w_len_list (w_arg rfl))))
    rw [List.length_map] at h5
    refine Nat.le_of_not_lt fun q => ?_
    have q' : (n : Int) < ((ns.length : Nat) : Int) := by omega
    first
      | (rw [decide_eq_true q'] at h5; exact absurd h5 (by decide))
      | (simp at h5; omega)
  cases hwl with
  | cons w1 w2 =>
    cases w2
    cases w1 with
    | list ho hall => exact ⟨_, _, ns, rfl, rfl, ho, nB ns _ hall, hlen⟩
theorem zH (l : OpenLaw) (args : List WData) : l.row.toRowW.claim.post args (.bool true) args = true :=
  postW_of (r := l.row.toRowW) (X := (true == true))
    (show WShape.has [] (.bool true) .bool = true by first | rfl | decide | simp [WShape.has, WShape.arms, WShape.armsAll])
    (show (WTm.eq .res (.lit (.bool true))).value [] { args := args, res := some (.bool true), after := args } = some (.bool (true == true)) from w_eq_bool (w_res rfl) w_lit) rfl
theorem attach_call {l : OpenLaw} {n : Nat} {q : Program} {loose : List Str} {XP : (Str -> Option Value) -> Heap -> Prop} {YP : World -> Heap -> Prop} {d : DefRec}
    (hn : l.most = some n) (hdf : d.params.defaults = [])
    (call : ∀ (w : World) (s₀ s₁ : Shared) (mg mb : Str -> Option Value) (fa : Addr) (o : Obj) (pm cd doc : Value) (a : Addr) (vs : List Value) (ns : List Int),
      Ground q loose [] XP w s₀ mg mb s₁.heap -> YP w s₁.heap ->
      s₁.heap.get? fa = some o -> o.data = .func (docDef d.name d.params d.body d.scope pm cd doc) -> s₁.heap.CodeRec cd d.name -> mg d.name = some (.ref fa) ->
      s₁.heap.get? a = some { cls := .type "list", data := .seq vs.toArray } -> IntsAre vs ns -> ns.length <= n -> s₁.gens = #[] ->
      codeAny (model l.prog w) callerA (.call (.ref fa) ⟨[.ref a], []⟩) (fun r s' => r = .ok (.ret (.bool true)) /\ OldK s₁.heap s'.heap /\ s'.os = s₁.os /\ AllBare s'.gens) s₁) :
    WalkO q loose XP YP l.row.toRowW d [] (fun f vs => PySem.call f vs) := by
  intro w s₀ s₁ mg mb G Y fa o pm cd doc dV kV ho hd hcd hD hmg hg args vals as hpre hlay hrd hwl hlo
  obtain rfl : dV = .none := Dflts.none hD hdf
  obtain rfl : kV = .none := Dflts.noKw hD
  obtain ⟨a, vs, ns, rfl, rfl, hobj, hints, hlen⟩ := zG hn hpre hwl
  refine enter_call (codeAny_mono (call w s₀ s₁ mg mb fa o pm cd doc a vs ns G Y ho (fd_plain hd) hcd hmg hobj hints hlen hg) fun r s' hq => ?_)
  obtain ⟨rfl, h2, h3, h4⟩ := hq
  exact ⟨.inl ⟨.bool true, .bool true, [], rfl, fun _ => rfl, .bool true, zH l _, fun _ => ⟨List.Pairwise.nil, fun _ hm => (nomatch hm)⟩⟩, h2, h3, h4⟩
section
variable {prog : Program} {w : World} {A : Around} {E : Value -> Shared -> Prop} {s : Shared} {K : Frag}
end
end Att
namespace L2
open PySem PySem.Spec PyProof.Rows
theorem iG : ∀ {vs : List Value} {ns : List Int}, IntsAre vs ns -> bB (ns.map V.int) vs
  := by
  intro vs ns h
  induction h with
  | nil => exact .nil
  | cons n t h ih => exact .cons ⟨t, rfl⟩ ih
end L2
namespace L2
open PySem PySem.Spec PyProof.Rows
end L2
namespace L2
open PySem PySem.Spec PyProof.Rows
def hU (s : Stmt) : Arguments := match s with
  | .FunctionDef _ a _ _ _ _ _ _ _ _ => a
  | _ => { posonlyargs := [], args := [], vararg := none, kwonlyargs := [], kw_defaults := [], kwarg := none, defaults := [] }
def gA (s : Stmt) : List Stmt := match s with
  | .FunctionDef _ _ b _ _ _ _ _ _ _ => b
  | _ => []
def aH (s : Stmt) : Scope := match s with
  | .FunctionDef _ _ _ _ _ _ sc _ _ _ => sc
  | _ => { kind := .function, names := [], isGenerator := false, isCoroutine := false }
abbrev CX0 : CXT := fun _ _ _ _ _ _ => False
abbrev E0 : XK := fun _ _ _ => False
theorem aDL {X : Cx} : vX CX0 X E0 := fun _ _ _ _ _ _ _ h => h.elim
structure Fun (K : PySem.W.Frag) (x qual : Str) (st : Stmt) (f : Addr) (fd : FuncData) : Prop where
  ex : ∃ (oc : Value) (od : Option Addr) (kV doc pm : Value) (an : Option Addr) (cdv ct : Value) (osl : Array (Option Value)),
    fd = PySem.W.fnOf x qual (hU st) (gA st) (aH st) .none kV doc pm an cdv ct /\ K.lookup f = some ⟨oc, od, .func fd, osl⟩ /\ PySem.W.codeIn K cdv qual = true
  kp : PySem.W.keepIn K (.ref f) = true
section
variable {P : Program} {w : World} {K : PySem.W.Frag} {mg : Str -> Option Value} {base : Heap}
theorem Fun.ok {x qual : Str} {st : Stmt} {f : Addr} {fd : FuncData} {N ps : List Str} {k : Nat} {sp : Sp} (F : Fun K x qual st f fd) (S : FnScope N ps (aH st)) (len : ∀ vs H Q E, sp vs H Q E -> vs.length = ps.length)
    (hbody : ∀ (cdv : Value) (A : Around) (outer : List Env) (s : Shared) (H : Hp) (vs : List V) (Q : VK) (E : XK), Room k (A.deeper (envOfC qual (aH st) s.heap.objs.size f cdv)) -> sp vs H Q E ->
      ∃ t, PSs (vY CX0 P w K mg base N qual (aH st) f cdv A outer s H E).nox (gA st) t /\ t { nx := fun _ H' => Q .non H', rt := Q } (lC N vs) H) : FnOk P w K mg base CX0 (k + 1) f fd ps sp := by
  obtain ⟨oc, od, kV, doc, pm, an, cdv, ct, osl, rfl, lk, hcd⟩ := F.ex
  refine aCy lk hcd S len fun A outer s H vs Q E hr hsp => ?_
  obtain ⟨t, h, q⟩ := hbody cdv A outer s H vs Q E hr hsp
  exact ⟨t, h.nox, q⟩
theorem Fun.binds {x qual : Str} {st : Stmt} {f : Addr} {fd : FuncData} {ps : List Str} (F : Fun K x qual st f fd)
    (h : ∀ (kV doc pm : Value) (an : Option Addr) (cdv ct : Value) (us : List Value), us.length = ps.length -> bindArgs (PySem.W.fnOf x qual (hU st) (gA st) (aH st) .none kV doc pm an cdv ct) ⟨us, []⟩ = pure (ps.zip us)) : qC K fd ps [] := by
  obtain ⟨oc, od, kV, doc, pm, an, cdv, ct, osl, rfl, lk, hcd⟩ := F.ex
  exact .all (h kV doc pm an cdv ct)
theorem aAy {x qual : Str} {st : Stmt} {f : Addr} {oc : Value} {od an : Option Addr} {osl : Array (Option Value)} {kV doc pm cdv ct : Value} (l : K.lookup f = some ⟨oc, od, .func (PySem.W.fnOf x qual (hU st) (gA st) (aH st) .none kV doc pm an cdv ct), osl⟩)
    (c : PySem.W.codeIn K cdv qual = true) (k : PySem.W.keepIn K (.ref f) = true) : Fun K x qual st f (PySem.W.fnOf x qual (hU st) (gA st) (aH st) .none kV doc pm an cdv ct) := ⟨⟨oc, od, kV, doc, pm, an, cdv, ct, osl, rfl, l, c⟩, k⟩
end
theorem qI {A : Around} {k : Nat} (hr : Room k A) : A.units + 1 < cLine := Nat.lt_of_le_of_lt (Nat.add_le_add_left (by decide : 1 <= 64) _) hr.units
section
variable {X : Cx}
theorem pv (i : Nat) {x : Str} {pos : Pos} (hN : X.N[i]? = some x := by rfl) (hv : Vis X.env.scope x := by first | exact Or.inl rfl | exact Or.inr (Or.inl rfl) | exact Or.inr (Or.inr rfl)) (hd : (x == ("__debug__" : Str)) = false := by decide)
    (hcd : (x == ("__classdict__" : Str)) = false := by decide) : PE X (.Name x pos) (aDs i) := aCK hN hv hd hcd
end
theorem eD {A B : Prop} (h : B) : if false = true then A else B := by
  rw [if_neg Bool.false_ne_true]
  exact h
theorem iA {A B : Prop} (h : A) : if true = true then A else B := by
  rw [if_pos rfl]
  exact h
theorem cN {c A B : Prop} [Decidable c] (h1 : c -> A) (h2 : ¬ c -> B) : if c then A else B := by
  by_cases h : c
  · rw [if_pos h]
    exact h1 h
  · rw [if_neg h]
    exact h2 h
def aE (H H' : Hp) : Prop := ∀ b o, H b = some o -> H' b = some o
theorem aE.refl (H : Hp) : aE H H := fun _ _ h => h
theorem aE.trans {H H1 H2 : Hp} (a : aE H H1) (b : aE H1 H2) : aE H H2 := fun c o h => b c o (a c o h)
theorem aE.free {H H' : Hp} (e : aE H H') {l : Addr} (h : H' l = Option.none) : H l = Option.none := by
  cases q : H l with
  | none => rfl
  | some o =>
    rw [e l o q] at h
    cases h
theorem aE.seq {K : PySem.W.Frag} {H H' : Hp} {a : Addr} {xs : List V} (e : aE H H') (h : SqL K H a xs) : SqL K H' a xs := by
  rcases h with (h | ⟨o, h⟩) | h
  · exact .inl (.inl (e _ _ h))
  · exact .inl (.inr ⟨o, e _ _ h⟩)
  · exact .inr h
end L2
set_option Elab.async false
set_option linter.all false
set_option maxRecDepth 100000
namespace L2
open PySem PySem.Spec PyProof.Rows
def cU (env : Env) : List (Str × NameKind) -> List (Str × Addr) -> List (Str × Addr)
  | [], acc => acc
  | (n, k) :: r, acc => if k == .free then (match env.cells.lookup n with | some c => cU env r ((n, c) :: acc) | none => cU env r acc) else cU env r acc
theorem tQ {env : Env} : ∀ (names : List (Str × NameKind)) (acc : List (Str × Addr)), (∀ y ∈ names, y.2 = .free -> ∃ c, env.cells.lookup y.1 = some c) ->
    (forIn names acc fun (x : Str × NameKind) (r : List (Str × Addr)) => (match x with
      | (name, kind) => if (kind == NameKind.free) = true then (do let a <- cellOf env name; pure (ForInStep.yield ((name, a) :: r))) else pure (ForInStep.yield r) : Sem (ForInStep (List (Str × Addr))))) = (pure (cU env names acc) : Sem _)
  | [], acc, _ => rfl
  | (n, k) :: r, acc, h => by
    have ih := fun acc => tQ r acc fun y hy => h y (List.mem_cons_of_mem _ hy)
    rw [List.forIn_cons]
    by_cases hk : (k == NameKind.free) = true
    · obtain ⟨c, hc⟩ := h (n, k) List.mem_cons_self (by simpa using hk)
      have e1 : cU env ((n, k) :: r) acc = cU env r ((n, c) :: acc) := by
        show (if k == .free then _ else _) = _
        rw [if_pos hk]; simp only at hc; rw [hc]
      simp only at hc
      rw [e1, <- ih]
      simp only [hk, if_true, cellOf, hc]
      rfl
    · have e1 : cU env ((n, k) :: r) acc = cU env r acc := by
        show (if k == .free then _ else _) = _
        rw [if_neg hk]
      rw [e1, <- ih]
      simp only [hk, if_false]
      rfl
theorem wA {env : Env} {scope : Scope} (h : ∀ y ∈ scope.names, y.2 = .free -> ∃ c, env.cells.lookup y.1 = some c) : closureFor scope env = pure (cU env scope.names []) := by
  unfold closureFor
  have e := tQ scope.names [] h
  show (forIn scope.names [] _ >>= _) = _
  exact (congrArg (fun z => z >>= fun r => pure r) e).trans rfl
theorem iH {env : Env} : ∀ (names : List (Str × NameKind)) (acc : List (Str × Addr)) (n : Str) (c : Addr), (n, c) ∈ cU env names acc -> (n, c) ∈ acc ∨ env.cells.lookup n = some c
  | [], _, _, _, h => .inl h
  | (m, k) :: r, acc, n, c, h => by
    by_cases hk : (k == NameKind.free) = true
    · rw [show cU env ((m, k) :: r) acc = (match env.cells.lookup m with | some c => cU env r ((m, c) :: acc) | none => cU env r acc) from if_pos hk] at h
      cases e : env.cells.lookup m with
      | none => rw [e] at h; exact iH r acc n c h
      | some d =>
        rw [e] at h
        rcases iH r _ n c h with q | q
        · rcases List.mem_cons.mp q with q | q
          · cases q; exact .inr e
          · exact .inl q
        · exact .inr q
    · rw [show cU env ((m, k) :: r) acc = cU env r acc from if_neg hk] at h
      exact iH r acc n c h
theorem jB {env : Env} : ∀ (names : List (Str × NameKind)) (acc : List (Str × Addr)) (n : Str), ((∃ c, (n, c) ∈ acc) ∨ ((n, NameKind.free) ∈ names /\ ∃ c, env.cells.lookup n = some c)) -> ∃ c, (n, c) ∈ cU env names acc
  | [], _, _, h => by
    rcases h with h | ⟨h, _⟩
    · exact h
    · cases h
  | (m, k) :: r, acc, n, h => by
    by_cases hk : (k == NameKind.free) = true
    · rw [show cU env ((m, k) :: r) acc = (match env.cells.lookup m with | some c => cU env r ((m, c) :: acc) | none => cU env r acc) from if_pos hk]
      cases e : env.cells.lookup m with
      | none =>
        refine jB r acc n ?_
        rcases h with h | ⟨h, c, hc⟩
        · exact .inl h
        · rcases List.mem_cons.mp h with h | h
          · cases h; rw [e] at hc; cases hc
          · exact .inr ⟨h, c, hc⟩
      | some d =>
        refine jB r _ n ?_
        rcases h with ⟨c, h⟩ | ⟨h, c, hc⟩
        · exact .inl ⟨c, List.mem_cons_of_mem _ h⟩
        · rcases List.mem_cons.mp h with h | h
          · cases h; exact .inl ⟨d, List.mem_cons_self⟩
          · exact .inr ⟨h, c, hc⟩
    · rw [show cU env ((m, k) :: r) acc = cU env r acc from if_neg hk]
      refine jB r acc n ?_
      rcases h with h | ⟨h, c, hc⟩
      · exact .inl h
      · rcases List.mem_cons.mp h with h | h
        · cases h; exact absurd rfl hk
        · exact .inr ⟨h, c, hc⟩
theorem gG {β : Type} : ∀ {l : List (Str × β)} {a : Str} {b : β}, l.lookup a = some b -> (a, b) ∈ l := PySem.mem_of_lookup_some
theorem jC {β : Type} : ∀ {l : List (Str × β)} {a : Str} {b : β}, (a, b) ∈ l -> ∃ c, l.lookup a = some c
  | (k, v) :: l, a, b, h => by
    rw [List.lookup_cons]
    by_cases e : (a == k) = true
    · rw [e]; exact ⟨v, rfl⟩
    · have e' : (a == k) = false := by simpa using e
      rw [e']
      rcases List.mem_cons.mp h with h | h
      · cases h; simp at e
      · exact jC h
theorem gW {env : Env} (x : Str) : ∀ (names : List (Str × NameKind)),
    (names.map fun (n, k) => if (k == NameKind.free && env.scope.kind == .function && env.kindOf n == some .cell) then (n, NameKind.cell) else (n, k)).lookup x =
      (names.lookup x).map fun k => if (k == NameKind.free && env.scope.kind == .function && env.kindOf x == some .cell) then NameKind.cell else k
  | [] => rfl
  | (n, k) :: r => by
    have ih := gW (env := env) x r
    rw [List.map_cons]
    by_cases e : (x == n) = true
    · have en : x = n := by simpa using e
      subst en
      dsimp only
      by_cases c : (k == NameKind.free && env.scope.kind == .function && env.kindOf x == some .cell) = true
      · rw [if_pos c, List.lookup_cons, List.lookup_cons, e]
        simp only [Option.map_some, c, if_true]
      · rw [if_neg c, List.lookup_cons, List.lookup_cons, e]
        simp only [Option.map_some, c]
        rfl
    · have e' : (x == n) = false := by simpa using e
      dsimp only
      by_cases c : (k == NameKind.free && env.scope.kind == .function && env.kindOf n == some .cell) = true
      · rw [if_pos c, List.lookup_cons, List.lookup_cons, e']; exact ih
      · rw [if_neg c, List.lookup_cons, List.lookup_cons, e']; exact ih
def aY (X : Cx) (scope : Scope) (N : List Str) (C : Addr) (s0 : Shared) (H0 : Hp) (fp : List Addr) : Cx where
  prog := X.prog
  w := X.w
  K := X.K
  mg := X.mg
  base := X.base
  A := X.A
  N := N
  s₀ := s0
  H₀ := H0
  env := compEnvC scope (cU X.env scope.names []) C X.env
  outer := X.stack
  stack := X.stack
  ex := fp
  fn := fun _ => false
  calm := X.calm
  pn := []
  xe := fun _ _ => False
def mC (sc scope : Scope) (own : List Str) (frn : List Str) : Bool :=
  scope.kind == .function && scope.names.all (fun y => y.2 != .cell) && scope.names.all (fun y => y.2 != .local || scope.names.lookup y.1 == some .local) &&
  scope.names.all (fun y => y.2 != .free || sc.names.lookup y.1 == some .cell || sc.names.lookup y.1 == some .free) && decide (own ++ frn).Nodup &&
  own.all (fun x => scope.names.lookup x == some .local) && frn.all (fun x => scope.names.lookup x == some .free)
def blk (own : Nat) (fr : List Nat) (σ : St) : St := List.replicate own none ++ fr.map fun j => (σ[j]?).join
structure CompOk (X : Cx) (scope : Scope) (own : List Str) (fr : List Nat) (frn : List Str) : Prop where
  ck : mC X.env.scope scope own frn = true
  ix : ∀ (k : Nat) (x : Str), frn[k]? = some x -> ∃ j : Nat, fr[k]? = some j /\ X.N[j]? = some x
  len : fr.length = frn.length
section
variable {X : Cx} {scope : Scope} {own frn : List Str} {fr : List Nat}
theorem CompOk.parts (S : CompOk X scope own fr frn) : scope.kind = .function /\ (∀ y ∈ scope.names, y.2 ≠ .cell) /\ (∀ y ∈ scope.names, y.2 = .local -> scope.names.lookup y.1 = some .local) /\
    (∀ y ∈ scope.names, y.2 = .free -> X.env.scope.names.lookup y.1 = some .cell ∨ X.env.scope.names.lookup y.1 = some .free) /\ (own ++ frn).Nodup /\ (∀ x ∈ own, scope.names.lookup x = some .local) /\ ∀ x ∈ frn, scope.names.lookup x = some .free := by
  have h := S.ck
  unfold mC at h
  simp only [Bool.and_eq_true, List.all_eq_true, decide_eq_true_eq, Bool.or_eq_true, bne_iff_ne, ne_eq, beq_iff_eq] at h
  obtain ⟨⟨⟨⟨⟨⟨h1, h2⟩, h3⟩, h4⟩, h5⟩, h6⟩, h7⟩ := h
  refine ⟨h1, h2, fun y hy e => ?_, fun y hy e => ?_, h5, h6, h7⟩
  · rcases h3 y hy with z | z
    · exact absurd e z
    · exact z
  · rcases h4 y hy with (z | z) | z
    · exact absurd e z
    · exact .inl z
    · exact .inr z
theorem wB (S : CompOk X scope own fr frn) (σ : St) : (blk own.length fr σ).length = (own ++ frn).length := by
  unfold blk
  rw [List.length_append, List.length_append, List.length_replicate, List.length_map, S.len]
theorem tR {pins : List (Addr × Obj)} {σ : St} {H : Hp} {s : Shared} {fp : List Addr} {h1 : Heap} {tk : Nat} {C D : Addr} {oD : Obj} {m : Str -> Option Value} (I : Inv X pins σ H s) (S : CompOk X scope own fr frn)
    (hfp : ∀ b ∈ fp, kL X pins H b) (hlt : ∀ b ∈ fp, b < s.heap.objs.size) (hC : s.heap.objs.size <= C) (hn : h1.Ns C m) (hk : ∀ b o, s.heap.get? b = some o -> h1.get? b = some o)
    (hD : s.heap.objs.size <= D) (hDC : D ≠ C) (hoD : h1.get? D = some oD) (hdD : ∀ v, oD.data ≠ .cell v) :
    Inv (aY X scope (own ++ frn) C s H fp) [(D, oD)] (blk own.length fr σ) H { s with heap := h1, toks := tk } := by
  obtain ⟨p1, p2, p3, p4, p5, p6, p7⟩ := S.parts
  have below : ∀ b, b < s.heap.objs.size -> b ≠ C := fun b hb z => Nat.lt_irrefl _ (Nat.lt_of_lt_of_le (z ▸ hb) hC)
  have clsub : ∀ x c, (cU X.env scope.names []).lookup x = some c -> X.env.cells.lookup x = some c := fun x c e => by
    rcases iH _ _ _ _ (gG e) with q | q
    · cases q
    · exact q
  have clt : ∀ x c, X.env.cells.lookup x = some c -> c < s.heap.objs.size := fun x c e => by
    obtain ⟨v, q⟩ := I.cell x c e
    exact q.lt
  have nstk : ∀ b ∈ fp, b ∉ frs X.stack := fun b hb z => by
    obtain ⟨_, f1, f2, _⟩ := hfp b hb
    rcases List.mem_cons.mp (I.stkSub b z) with e | e
    · exact f1 e
    · exact f2 e
  have Dfs : D ∉ frs X.stack := fun z => by
    have q := I.stkSub D z
    rcases List.mem_cons.mp q with e | e
    · exact Nat.lt_irrefl _ (Nat.lt_of_lt_of_le (e ▸ I.lt : D < _) hD)
    · exact I.nofs hD e
  refine ⟨⟨I.ok.mod, p1, I.ok.glob, I.ok.blt, hC, fun x y c e1 e2 => I.ok.inj x y c (clsub x c e1) (clsub y c e2), fun x hx => ?_, fun x c e => absurd e (by show ¬ (false = true); decide), I.ok.hd, I.ok.frames, .inl rfl, fun b hb => ?_, I.bs, Nat.le_trans I.ok.bsz I.sz, fun b o e hb => ?_, nstk, I.stack, I.stkFree⟩,
    rfl, I.bare, Un.kept hk, ⟨m, hn, fun i x v e1 e2 e3 => ?_⟩, fun x c e => ?_, I.hok.fresh hC, fun x c e => I.freeC x c (clsub x c e), fun p hp => ?_, I.hok.kept hk, wB S σ⟩
  · -- has
    have hx' : (relabel scope X.env).names.lookup x = some .cell ∨ (relabel scope X.env).names.lookup x = some .free := hx
    have hl : (relabel scope X.env).names.lookup x = _ := gW (env := X.env) x scope.names
    rw [hl] at hx'
    cases e : scope.names.lookup x with
    | none =>
      rw [e] at hx'
      rcases hx' with z | z <;> cases z
    | some k =>
      have hmem := gG e
      have hkf : k = .free := by
        rw [e] at hx'
        simp only [Option.map_some, Option.some.injEq] at hx'
        by_cases c : (k == NameKind.free && X.env.scope.kind == .function && X.env.kindOf x == some .cell) = true
        · simp only [Bool.and_eq_true, beq_iff_eq] at c
          exact c.1.1
        · rw [if_neg c] at hx'
          rcases hx' with z | z
          · exact absurd z (p2 _ hmem)
          · exact z
      subst hkf
      obtain ⟨c, hc⟩ := I.ok.has x (p4 _ hmem rfl)
      obtain ⟨c', hc'⟩ := jB (env := X.env) scope.names [] x (.inr ⟨hmem, c, hc⟩)
      exact jC hc'
  · -- exf
    refine ⟨below b (hlt b hb), fun x c e => ?_⟩
    exact (hfp b hb).2.2.2.2.1 x c (clsub x c e)
  · -- noex
    rcases (hfp b hb).2.2.2.1 with z | z
    · exact I.ok.noex b o e z
    · exact absurd (Nat.lt_of_lt_of_le (Heap.lt_size (I.ok.bs b o e).1) z) (Nat.lt_irrefl _)
  · -- loc
    show ∃ u, bE v u /\ aDr _ _ _ x u
    have e1' : (own ++ frn)[i]? = some x := e1
    have e2' : (blk own.length fr σ)[i]? = some (some v) := e2
    unfold blk at e2'
    by_cases hi : i < own.length
    · rw [List.getElem?_append_left (by simpa using hi), List.getElem?_replicate] at e2'
      rw [if_pos hi] at e2'
      cases e2'
    · rw [List.getElem?_append_right (by simpa using hi)] at e2'
      rw [List.getElem?_append_right (by omega)] at e1'
      rw [List.length_replicate, List.getElem?_map] at e2'
      obtain ⟨j, hj1, hj2⟩ := S.ix _ _ e1'
      rw [hj1] at e2'
      simp only [Option.map_some, Option.some.injEq] at e2'
      have hσ : σ[j]? = some (some v) := by
        cases q : σ[j]? with
        | none => rw [q] at e2'; cases e2'
        | some w => rw [q] at e2'; exact congrArg some e2'
      have hfree := p7 x (List.mem_of_getElem? e1')
      have hmem := gG hfree
      have kx := p4 _ hmem rfl
      have vis : Vis X.env.scope x := by
        rcases kx with z | z
        · exact .inr (.inl z)
        · exact .inr (.inr z)
      obtain ⟨m0, hn0, hl0⟩ := I.loc
      obtain ⟨u, ru, lk⟩ := hl0 j x v hj2 hσ vis
      refine ⟨u, ru, .inr ⟨?_, ?_⟩⟩
      · show (relabel scope X.env).names.lookup x = some .cell ∨ (relabel scope X.env).names.lookup x = some .free
        have hl : (relabel scope X.env).names.lookup x = _ := gW (env := X.env) x scope.names
        rw [hl, hfree]
        simp only [Option.map_some, Option.some.injEq]
        by_cases c : (NameKind.free == NameKind.free && X.env.scope.kind == .function && X.env.kindOf x == some .cell) = true
        · rw [if_pos c]; exact .inl rfl
        · rw [if_neg c]; exact .inr rfl
      · rcases lk with ⟨kl, _⟩ | ⟨_, c, hc, hcell⟩
        · have kl' : X.env.scope.names.lookup x = some .local := kl
          rcases kx with z | z <;> (have z' : X.env.scope.names.lookup x = _ := z; rw [kl'] at z'; cases z')
        · obtain ⟨c', hc'⟩ := jB (env := X.env) scope.names [] x (.inr ⟨hmem, c, hc⟩)
          obtain ⟨c2, hc2⟩ := jC hc'
          have ec : c2 = c := by
            have := clsub x c2 hc2
            rw [hc] at this
            exact (Option.some.inj this).symm
          subst ec
          obtain ⟨oc, ho, hd⟩ := hcell
          exact ⟨c2, hc2, oc, hk _ _ ho, hd⟩
  · obtain ⟨v, o, ho, hd⟩ := I.cell x c (clsub x c e)
    exact ⟨v, o, hk _ _ ho, hd⟩
  · have hp' : p ∈ ([] : List (Addr × Obj)) ++ [(D, oD)] := hp
    simp only [List.nil_append, List.mem_singleton] at hp'
    subst hp'
    exact ⟨hoD, I.hok.fresh hD, hDC, Dfs, hdD⟩
end
end L2
set_option Elab.async false
set_option linter.all false
set_option maxRecDepth 100000
namespace L2
open PySem PySem.Spec PyProof.Rows
theorem tS {prog : Program} {w : World} {A : Around} {R : Result -> Shared -> Prop} {s : Shared} {elt target iter : Expr} {ifs : List Expr} {scope : Scope} {pos : Pos} {it acc : Value} {env : Env} (I : Nat -> Shared -> Prop)
    (turn : ∀ n s, I n s -> wpAny (model prog w) A (pyNext it) (fun r s₁ => match r with
      | none => R (.ok .next) s₁
      | some v => wpAny (model prog w) A (letOwnedTupleGo target it v) (fun _ s₁' => wpAny (model prog w) A (assign target env v) (fun _ s₂ =>
          wpAny (model prog w) A (forIn ifs true fun c r => if r = true then do let ok <- isTrue c env (eval c env); pure (ForInStep.yield ok) else pure (ForInStep.yield r)) (fun ok s₃ =>
            if ok = true then wpAny (model prog w) A (eval elt env) (fun x s₄ =>
              wpAny (model prog w) A (call (.builtin "list.append") [acc, x]) (fun _ s₅ => ∃ m, m < n /\ I m s₅) (fun _ _ => False) s₄) (fun _ _ => False) s₃
            else ∃ m, m < n /\ I m s₃) (fun _ _ => False) s₂) (fun _ _ => False) s₁') (fun _ _ => False) s₁) (fun _ _ => False) s)
    (n : Nat) (h : I n s) :
    codeAny (model prog w) A (.compLoop (.ListComp elt [⟨target, iter, ifs, 0⟩] scope pos) 0 it acc env) R s := by
  refine codeAny_loop rfl I (fun n s hI => ?_) n h
  show wpAny _ A ((compTurn (.ListComp elt [⟨target, iter, ifs, 0⟩] scope pos) 0 it acc env).onRaise (fun x => do noteFrame x env; theTreesLotGoes x)) _ _ s
  refine wpAny_noted ?_
  rw [compTurn_list]
  refine wpAny_bind (wpAny_standAt (wpAny_bind (wpAny_mono (turn n s hI) (fun r s₁ h₁ => ?_) fun _ _ h' => h'.elim)))
  cases r with
  | none => exact wpAny_pure h₁
  | some v =>
    refine wpAny_bind (wpAny_mono h₁ (fun _ s₁' h₁' => ?_) fun _ _ h' => h'.elim)
    refine wpAny_bind (wpAny_mono h₁' (fun _ s₂ h₂ => wpAny_bind (wpAny_mono h₂ (fun ok s₃ h₃ => ?_) fun _ _ h' => h'.elim)) fun _ _ h' => h'.elim)
    cases ok with
    | false => exact wpAny_pure ⟨rfl, h₃⟩
    | true =>
      exact wpAny_bind (wpAny_bind (wpAny_mono h₃ (fun x s₄ h₄ => wpAny_bind (wpAny_mono h₄ (fun _ s₅ h₅ => wpAny_pure (wpAny_pure ⟨rfl, h₅⟩)) fun _ _ h' => h'.elim)) fun _ _ h' => h'.elim))
def PF (X : Cx) (ifs : List Expr) (t : TT) : Prop :=
  ∀ (pins : List (Addr × Obj)) (s : Shared) (σ : St) (H : Hp) (Q : Bool -> Hp -> Prop), Inv X pins σ H s -> t σ H Q ->
    wpAny (model X.prog X.w) X.A (forIn ifs true fun c r => if r = true then do let ok <- isTrue c X.env (eval c X.env); pure (ForInStep.yield ok) else pure (ForInStep.yield r)) (TP X pins σ Q) X.xe s
def wC : TT := fun _ H Q => Q true H
theorem fV {X : Cx} : PF X [] wC := fun _ _ _ H _ I h => wpAny_tests_nil ⟨H, I, h⟩
theorem aAz {X : Cx} {c : Expr} {t : TT} (h : PT X c t) : PF X [c] t := fun pins s σ H Q I hq => wpAny_tests_one (h pins s σ H Q I hq)
def aCz (own : Nat) (fr : List Nat) (wi : TI) (g : TG) (tt : TT) (te : TE) : TE := fun σ H Q => wi σ H fun J H1 => ∃ W : Nat -> Nat -> List V -> St -> Hp -> Prop, (∃ m, W 0 m [] (blk own fr σ) H1) /\ ∀ i m ys σ' H, W i m ys σ' H ->
  (J.stop i H /\ ∀ p, H p = none -> Q (.ref p) (upd H p (.lst ys))) ∨
  (J.go i H /\ ∃ N : List V -> St -> Hp -> Prop, (∀ ys' σ2 H2, N ys' σ2 H2 -> ∃ m', m' < m /\ W (i + 1) m' ys' σ2 H2) /\
    ∀ x H', J.yld i H x H' -> g x σ' H' fun σ2 H2 => tt σ2 H2 fun b H3 => if b = true then te σ2 H3 fun y H4 => ys.length < sizeLine /\ N (ys ++ [y]) σ2 H4 else N ys σ2 H3)
section
variable {X : Cx} {scope : Scope} {own frn : List Str} {fr : List Nat} {elt tg iter : Expr} {ifs : List Expr} {pos : Pos} {wi : TI} {g : TG} {tt : TT} {te : TE}
theorem Inv.track {pins : List (Addr × Obj)} {σ : St} {H : Hp} {s : Shared} {D : Addr} {ys : List V} {its : Array Value} (I : Inv X pins σ H s) (hD : s.heap.PlainList D its) (hv : bB ys its.toList) (hz : ys.length <= sizeLine) (hn : H D = none) (hL : D ≠ X.env.locals)
    (h1 : X.s₀.heap.objs.size <= D) (h2 : ∀ x c, X.env.cells.lookup x = some c -> c ≠ D) (h3 : ∀ p ∈ X.pn ++ pins, p.1 ≠ D) : Inv X pins σ (upd H D (.lst ys)) s := by
  have ne : ∀ b u, H b = some u -> b ≠ D := fun b u e z => by rw [z, hn] at e; cases e
  refine I.step (g' := s.gens) (d' := s.drawn) (t' := s.toks) (h' := s.heap) (ch := [D]) (fun b hb => ?_) (fun b o _ _ _ e _ => e) (fun b o _ _ _ e _ => ⟨o.slots, e⟩) (fun b o hc _ n => ?_) (fun b o _ e => ⟨o, e⟩)
    (fun b xs e => by rw [aI (ne b _ e)]; exact e) (fun b o u e => by rw [aI (ne b _ e)]; exact e) (fun b ps e => ⟨#[], by rw [aI (ne b _ e), e]; simp⟩) (fun _ h => h) (fun b u e => ?_) I.bare
  · have e : b = D := by simpa using hb
    subst e
    exact ⟨.inr h1, hL, h2, h3⟩
  · rw [aI (by simpa using hc)]; exact n
  · by_cases hb : b = D
    · subst hb
      rw [aB] at e; cases e
      obtain ⟨n, e⟩ := hD
      exact ⟨hz, its.toList, n, hv, by simpa using e⟩
    · rw [aI hb] at e
      exact (I.hok b u e).stay (fun c v _ q => q) (fun c q => by rw [aI (ne c _ q)]; exact q) fun c xs q => by rw [aI (ne c _ q)]; exact q
theorem nT {pins : List (Addr × Obj)} {σ : St} {H2 : Hp} {s2 : Shared} {it : Addr} {fp : List Addr} {tn : Nat -> Heap -> Prop} {J : It} {RR : Value -> Addr -> Result -> Shared -> Prop} {E : Value -> Shared -> Prop} {Q : Hp -> List V -> Prop}
    (S : CompOk X scope own fr frn) (hc : X.calm = true) (I2 : Inv X pins σ H2 s2) (T : Turn X.prog X.w X.K tg J fp it tn) (st2 : tn 0 s2.heap) (f2 : ∀ b ∈ fp, kL X pins H2 b)
    (hg : ∀ C s0 H0 fp, PG (aY X scope (own ++ frn) C s0 H0 fp) tg g) (ht : ∀ C s0 H0 fp, PF (aY X scope (own ++ frn) C s0 H0 fp) ifs tt) (he : ∀ C s0 H0 fp, PE (aY X scope (own ++ frn) C s0 H0 fp) elt te)
    (w : ∃ W : Nat -> Nat -> List V -> St -> Hp -> Prop, (∃ m, W 0 m [] (blk own.length fr σ) H2) /\ ∀ i m ys σ' H, W i m ys σ' H ->
      (J.stop i H /\ Q H ys) ∨
      (J.go i H /\ ∃ N : List V -> St -> Hp -> Prop, (∀ ys' σ2 H2, N ys' σ2 H2 -> ∃ m', m' < m /\ W (i + 1) m' ys' σ2 H2) /\
        ∀ x H', J.yld i H x H' -> g x σ' H' fun σ2 H2 => tt σ2 H2 fun b H3 => if b = true then te σ2 H3 fun y H4 => ys.length < sizeLine /\ N (ys ++ [y]) σ2 H4 else N ys σ2 H3))
    (hRR : ∀ (C D : Addr) (s' : Shared) (H' : Hp) (ys : List V) (its : Array Value) (m : Str -> Option Value), s2.heap.objs.size <= C -> s2.heap.objs.size <= D -> D ≠ C -> s'.heap.Ns C m -> H' C = none -> H' D = none -> s'.heap.PlainList D its -> bB ys its.toList -> ys.length <= sizeLine ->
      Inv X pins σ H' s' -> Q H' ys -> RR (.ref D) C (.ok .next) s') :
    wpAny (model X.prog X.w) X.A (newList []) (fun acc s₃ => wpAny (model X.prog X.w) X.A (newFunctionEnv scope X.env.globals (cU X.env scope.names []) [] X.env.qual none .none (some X.env)) (fun cenv s₄ =>
      codeAny (model X.prog X.w) X.A (.compStart (.ListComp elt [⟨tg, iter, ifs, 0⟩] scope pos) 0 (.ref it) acc { cenv with scope := relabel scope X.env }) (RR acc cenv.locals) s₄) E s₃) E s2 := by
  obtain ⟨p1, p2, p3, p4, p5, p6, p7⟩ := S.parts
  obtain ⟨W, ⟨m0, w0⟩, turn⟩ := w
  refine wpAny_newObj_type (wpAny_newFunctionEnv p2 (by intro y hy; simp at hy) (fun h₁ hns₁ hsb₁ => ?_) p1)
  dsimp only at hns₁ hsb₁ ⊢
  generalize hH2 : s2.heap.push { cls := .type "list", dict := none, data := .seq ([] : List Value).toArray } = HD at hns₁ hsb₁ ⊢
  have hCs : HD.objs.size = s2.heap.objs.size + 1 := by rw [<- hH2, Heap.size_push]
  have hDC : s2.heap.objs.size ≠ HD.objs.size := by omega
  have hCle : s2.heap.objs.size <= HD.objs.size := by omega
  have below : ∀ b, b < s2.heap.objs.size -> b ≠ HD.objs.size /\ b ≠ s2.heap.objs.size := fun b hb => ⟨by omega, by omega⟩
  have old : ∀ b o, s2.heap.get? b = some o -> h₁.get? b = some o := fun b o e => hsb₁.extBut b o (below b (Heap.lt_size e)).1 (Heap.get?_push_of_some _ (hH2 ▸ Heap.get?_push_of_some _ e))
  have hacc : h₁.get? s2.heap.objs.size = some { cls := .type "list", data := .seq ([] : List Value).toArray } := hsb₁.extBut _ _ hDC (Heap.get?_push_of_some _ (hH2 ▸ Heap.get?_push_size _ rfl))
  have flt : ∀ b ∈ fp, b < s2.heap.objs.size := fun b hb => by
    obtain ⟨o, e, _⟩ := T.obj _ _ st2 b hb
    exact Heap.lt_size e
  generalize hDg : s2.heap.objs.size = D at *
  generalize hCg : HD.objs.size = C at *
  have st3 : tn 0 h₁ := T.keep _ _ _ st2 fun b _ o e => old b o e
  -- facts of the block
  have clsub : ∀ x c, (cU X.env scope.names []).lookup x = some c -> X.env.cells.lookup x = some c := fun x c e => by
    rcases iH _ _ _ _ (gG e) with q | q
    · cases q
    · exact q
  have cD : ∀ x c, (cU X.env scope.names []).lookup x = some c -> c ≠ D := fun x c e z => by
    obtain ⟨v, q⟩ := I2.cell x c (clsub x c e)
    exact Nat.lt_irrefl _ (Nat.lt_of_lt_of_le q.lt (by rw [hDg, z]; exact Nat.le_refl _))
  have loop : ∀ s₃ : Shared, s₃ = { s2 with heap := h₁, toks := s2.toks + ([] : List (Str × Value)).length } ->
      codeAny (model X.prog X.w) X.A (.compLoop (.ListComp elt [⟨tg, iter, ifs, 0⟩] scope pos) 0 (.ref it) (.ref D) (compEnvC scope (cU X.env scope.names []) C X.env)) (RR (.ref D) C) s₃ := by
    rintro s₃ rfl
    have I3 : Inv (aY X scope (own ++ frn) C s2 H2 fp) [(D, _)] (blk own.length fr σ) H2 { s2 with heap := h₁, toks := s2.toks + ([] : List (Str × Value)).length } :=
      tR (m := fun _ => none) I2 S f2 (by rw [hDg]; exact flt) (by rw [hDg]; exact hCle) (hns₁ : h₁.Ns C _) old (by rw [hDg]; exact Nat.le_refl _) hDC hacc (fun v z => by cases z)
    have stat : ∀ {H' : Hp} {pl : List (Addr × Obj)}, (∀ p ∈ pl, p.1 = D) -> (∀ b ∈ fp, H' b = none) -> ∀ b ∈ fp, kL (aY X scope (own ++ frn) C s2 H2 fp) pl H' b := fun {H' pl} hpl hn b hb => by
      refine ⟨hn b hb, (below b (flt b hb)).1, fun z => ?_, .inl hb, fun x c e => (f2 b hb).2.2.2.2.1 x c (clsub x c e), fun p hp => ?_⟩
      · have z' : b ∈ frs X.stack := z
        rcases List.mem_cons.mp (I2.stkSub b z') with e | e
        · exact (f2 b hb).2.1 e
        · exact (f2 b hb).2.2.1 e
      · have hp' : p ∈ pl := by simpa [aY] using hp
        rw [hpl p hp']
        exact Ne.symm (below b (flt b hb)).2
    refine tS (env := compEnvC scope (cU X.env scope.names []) C X.env) (fun n s' => ∃ i σ' H' ys its o, Inv (aY X scope (own ++ frn) C s2 H2 fp) [(D, o)] σ' H' s' /\ s'.heap.PlainList D its /\ bB ys its.toList /\ ys.length <= sizeLine /\ tn i s'.heap /\ (∀ b ∈ fp, H' b = none) /\ W i n ys σ' H') ?_ m0
      ⟨0, _, H2, [], #[], _, I3, ⟨_, hacc⟩, .nil, Nat.zero_le _, st3, fun b hb => (f2 b hb).1, w0⟩
    rintro n s5 ⟨i, σ5, H5, ys, its, o, I5, pl5, v5, z5, st5, fr5, w5⟩
    have one : ∀ {o : Obj}, ∀ p ∈ [(D, o)], p.1 = D := fun p hp => by
      have e := List.mem_singleton.mp hp
      rw [e]
    rcases turn i n ys σ5 H5 w5 with ⟨stop, qn⟩ | ⟨go, N, hN, step⟩
    · refine wpAny_mono (T.done (aY X scope (own ++ frn) C s2 H2 fp) rfl rfl rfl hc i _ s5 σ5 H5 (fun _ _ => False) I5 (stat one fr5) st5 stop) (fun r s6 hx9 => ?_) fun _ _ z => z
      obtain ⟨hr, I6⟩ := hx9
      subst hr
      obtain ⟨m6, hn6, _⟩ := I6.loc
      have p6 := I6.pin (D, o) (by simp [aY])
      have p5' := I5.pin (D, o) (by simp [aY])
      have pl6 : s6.heap.PlainList D its := by
        obtain ⟨k, e⟩ := pl5
        have e1 : o = _ := Option.some.inj (p5'.1.symm.trans e)
        exact ⟨k, by rw [p6.1]; exact congrArg some e1⟩
      have IX : Inv X pins σ H5 s6 := I2.call' (ch := fp) I6.os I6.base I6.hok I6.bare fun b hb => ⟨(f2 b hb).2.2.2.1, (f2 b hb).2.1, (f2 b hb).2.2.2.2.1, (f2 b hb).2.2.2.2.2⟩
      exact hRR C D s6 H5 ys its m6 hCle (Nat.le_refl _) hDC hn6 I6.free p6.2.1 pl6 v5 z5 IX qn
    · refine wpAny_mono (T.item (aY X scope (own ++ frn) C s2 H2 fp) rfl rfl rfl hc i _ s5 σ5 H5 (fun _ _ => False) I5 (stat one fr5) st5 go) (fun r s6 hx9 => ?_) fun _ _ z => z
      obtain ⟨u, hr, h6⟩ := hx9
      subst hr
      refine wpAny_mono h6 (fun _ s7 hx9 => ?_) fun _ _ z => z
      obtain ⟨x, H7, I7, r7, y7, st7, fr7⟩ := hx9
      have I7' := I7.pinned (stat one fr7) (T.obj _ _ st7)
      refine wpAny_mono (hg C s2 H2 fp _ s7 σ5 H7 x u _ I7' r7 (step x H7 y7)) (fun _ s8 hx9 => ?_) fun _ _ z => z
      obtain ⟨σ8, H8, I8, q8⟩ := hx9
      refine wpAny_mono (ht C s2 H2 fp _ s8 σ8 H8 _ I8 q8) (fun b s9 hx9 => ?_) fun _ _ z => z
      obtain ⟨H9, I9, q9⟩ := hx9
      -- what stands of the iterator and of the gathered list behind the tests, behind the item
      have keepT : ∀ {H' : Hp} {s' : Shared} {σ' : St}, Inv (aY X scope (own ++ frn) C s2 H2 fp) ([(D, o)] ++ kM fp s7.heap) σ' H' s' -> tn (i + 1) s'.heap /\ (∀ b ∈ fp, H' b = none) /\ s'.heap.PlainList D its /\ H' D = none := fun {H' s' σ'} I' => by
        refine ⟨T.keep _ _ _ st7 fun b hb o e => (I'.pin (b, o) (List.mem_append_right _ (List.mem_append_right _ (dP hb e)))).1, fun b hb => ?_, ?_, ?_⟩
        · obtain ⟨o, e, d⟩ := T.obj _ _ st7 b hb
          exact (I'.pin (b, o) (List.mem_append_right _ (List.mem_append_right _ (dP hb e)))).2.1
        · have p' := I'.pin (D, o) (by simp [aY])
          have p5' := I5.pin (D, o) (by simp [aY])
          obtain ⟨k, e⟩ := pl5
          have e1 : o = _ := Option.some.inj (p5'.1.symm.trans e)
          exact ⟨k, by rw [p'.1]; exact congrArg some e1⟩
        · exact (I'.pin (D, o) (by simp [aY])).2.1
      cases b with
      | false =>
        rw [if_neg Bool.false_ne_true] at q9
        rw [if_neg Bool.false_ne_true]
        obtain ⟨m', hm, w'⟩ := hN ys σ8 H9 q9
        obtain ⟨t9, fr9, pl9, _⟩ := keepT I9
        exact ⟨m', hm, i + 1, σ8, H9, ys, its, o, I9.unpinned, pl9, v5, z5, t9, fr9, w'⟩
      | true =>
        rw [if_pos rfl] at q9
        rw [if_pos rfl]
        refine wpAny_mono (he C s2 H2 fp _ s9 σ8 H9 _ I9 q9) (fun y s10 hx9 => ?_) fun _ _ z => z
        obtain ⟨yv, H10, I10, r10, lt10, q10⟩ := hx9
        obtain ⟨t10, fr10, pl10, hD10⟩ := keepT I10
        have hl := v5.length
        refine wpAny_list_append_plain pl10 (fun h11 pl11 sb11 => ?_) (by rw [<- Array.length_toList, <- hl]; exact Nat.le_of_lt lt10)
        obtain ⟨m', hm, w'⟩ := hN _ σ8 H10 q10
        have I10' : Inv (aY X scope (own ++ frn) C s2 H2 fp) [] σ8 H10 s10 := I10.pins_of fun p hp => by cases hp
        have I11 : Inv (aY X scope (own ++ frn) C s2 H2 fp) [] σ8 H10 { s10 with heap := h11 } :=
          I10'.turned (t' := s10.toks) (it := D) (fun b o hb e => (sb11.2 b hb).trans e) hD10 hDC (.inr (by show s2.heap.objs.size <= D; rw [hDg]; exact Nat.le_refl _)) cD (fun p hp => by simp [aY] at hp)
        obtain ⟨k11, e11⟩ := id pl11
        have DfsX : D ∉ frs X.stack := fun z => by
          rcases List.mem_cons.mp (I2.stkSub D z) with e | e
          · exact Nat.lt_irrefl _ (Nat.lt_of_lt_of_le I2.lt (by rw [hDg, e]; exact Nat.le_refl _))
          · exact I2.nofs (by rw [hDg]; exact Nat.le_refl _) e
        refine ⟨m', hm, i + 1, σ8, H10, ys ++ [yv], its.push y, { cls := .type "list", data := .seq (its.push y) k11 }, I11.pins_of fun p hp => ?_, pl11, ?_, by rw [List.length_append]; show ys.length + 1 <= _; omega, T.keep _ _ _ t10 fun b hb o e => (sb11.2 b (below b (flt b hb)).2).trans e, fr10, w'⟩
        · have e := List.mem_singleton.mp hp
          subst e
          exact ⟨e11, hD10, hDC, DfsX, fun v z => by cases z⟩
        · rw [Array.toList_push]
          exact v5.append (.cons r10 .nil)
  exact codeAny_compStart_list (loop _ rfl) (T.self X.A 0 _ _ _ st3 (loop _ rfl))
theorem CompOk.clo {pins : List (Addr × Obj)} {σ : St} {H : Hp} {s : Shared} (S : CompOk X scope own fr frn) (I : Inv X pins σ H s) : closureFor scope X.env = pure (cU X.env scope.names []) := by
  obtain ⟨p1, p2, p3, p4, p5, p6, p7⟩ := S.parts
  exact wA fun y hy e => I.ok.has y.1 (p4 y hy e)
theorem dJ (S : CompOk X scope own fr frn) (hc : X.calm = true) (hi : PI X tg iter wi) (hg : ∀ C s0 H0 fp, PG (aY X scope (own ++ frn) C s0 H0 fp) tg g) (ht : ∀ C s0 H0 fp, PF (aY X scope (own ++ frn) C s0 H0 fp) ifs tt)
    (he : ∀ C s0 H0 fp, PE (aY X scope (own ++ frn) C s0 H0 fp) elt te) (hs : ∀ x, foldedSetIterable iter X.env x = pure x := by intro _; rfl) :
    PE X (.ListComp elt [⟨tg, iter, ifs, 0⟩] scope pos) (aCz own.length fr wi g tt te) := by
  intro pins s σ H Q I h
  obtain ⟨p1, p2, p3, p4, p5, p6, p7⟩ := S.parts
  rw [eval_ListComp]
  refine wpAny_comprehension_free (use := none) rfl hs (S.clo I) p1 p3 (thn (hi pins s σ H _ I h) fun v s1 h1 => thn h1 fun itv s2 h2 => ?_)
  obtain ⟨it, fp, tn, J, H2, e, I2, T, st2, f2, hw⟩ := h2
  subst e
  refine nT (RR := fun acc C => compPost (model X.prog X.w) X.A X.xe none (EP X pins σ Q) acc C) (Q := fun H ys => ∀ p, H p = none -> Q (.ref p) (upd H p (.lst ys))) S hc I2 T st2 f2 hg ht he hw ?_
  intro C D s' H' ys its m hC hD hDC hns hHC hHD pl v z IX q
  have cne : ∀ a, s2.heap.objs.size <= a -> ∀ x c, X.env.cells.lookup x = some c -> c ≠ a := fun a ha x c e z => by
    obtain ⟨v, w⟩ := I2.cell x c e
    exact Nat.lt_irrefl _ (Nat.lt_of_lt_of_le w.lt (by rw [z]; exact ha))
  have pne : ∀ a, s2.heap.objs.size <= a -> ∀ p ∈ X.pn ++ pins, p.1 ≠ a := fun a ha p hp z => Nat.lt_irrefl _ (Nat.lt_of_lt_of_le (Heap.lt_size (I2.pin p hp).1) (by rw [z]; exact ha))
  have lne : ∀ a, s2.heap.objs.size <= a -> a ≠ X.env.locals := fun a ha z => Nat.lt_irrefl _ (Nat.lt_of_lt_of_le I2.lt (by rw [<- z]; exact ha))
  refine ⟨m, hns, fun h' hs' => ⟨.ref D, upd H' D (.lst ys), ?_, rfl, q D hHD⟩⟩
  have IT : Inv X pins σ (upd H' D (.lst ys)) s' := IX.track pl v z hHD (lne D hD) (Nat.le_trans I2.sz hD) (cne D hD) (pne D hD)
  exact IT.turned (t' := s'.toks) (it := C) (fun b o hb e => (hs'.2 b hb).trans e) (by rw [aI (Ne.symm hDC)]; exact hHC) (lne C hC) (.inr (Nat.le_trans I2.sz hC)) (cne C hC) (pne C hC)
theorem wD {i : Nat} {y : Str} {py spos : Pos} (S : CompOk X scope own fr frn) (hc : X.calm = true) (hN : X.N.Nodup) (hyi : X.N[i]? = some y) (hx : X.env.scope.names.lookup y = some .local)
    (hsw : swapsWith (.ListComp elt [⟨tg, iter, ifs, 0⟩] scope pos) (some (.Name y py)) spos.line X.env = pure true)
    (hi : PI X tg iter wi) (hg : ∀ C s0 H0 fp, PG (aY X scope (own ++ frn) C s0 H0 fp) tg g) (ht : ∀ C s0 H0 fp, PF (aY X scope (own ++ frn) C s0 H0 fp) ifs tt)
    (he : ∀ C s0 H0 fp, PE (aY X scope (own ++ frn) C s0 H0 fp) elt te) (hs : ∀ x, foldedSetIterable iter X.env x = pure x := by intro _; rfl) :
    PS X (.Assign [.Name y py] (.ListComp elt [⟨tg, iter, ifs, 0⟩] scope pos) spos) (aCP (aCz own.length fr wi g tt te) (xP i)) := by
  intro pins s σ H D I h
  obtain ⟨p1, p2, p3, p4, p5, p6, p7⟩ := S.parts
  rw [exec_Assign_Name_used _ _ _ _ hsw]
  refine wpAny_bind (wpAny_standAt (wpAny_bind ?_))
  show wpAny _ X.A (do let _ <- comprehension (.ListComp elt [⟨tg, iter, ifs, 0⟩] scope pos) scope X.env _ (newList []) false (eval iter X.env) (some (assign (.Name y py) X.env))) _ _ s
  refine wpAny_bind (wpAny_mono (wpAny_comprehension_free (use := some (assign (.Name y py) X.env)) (Q := fun _ s' => SP X pins D .next s') rfl hs (S.clo I) p1 p3 (thn (hi pins s σ H _ I h) fun v s1 h1 => thn h1 fun itv s2 h2 => ?_))
    (fun _ s' hq => wpAny_pure (wpAny_pure hq)) fun _ _ e => e)
  obtain ⟨it, fp, tn, J, H2, e, I2, T, st2, f2, hw⟩ := h2
  subst e
  refine nT (RR := fun acc C => compPost (model X.prog X.w) X.A X.xe (some (assign (.Name y py) X.env)) (fun _ s' => SP X pins D .next s') acc C) (Q := fun H ys => ∀ p, H p = none -> D.nx (σ.set i (some (.ref p))) (upd H p (.lst ys))) S hc I2 T st2 f2 hg ht he hw ?_
  intro C L s' H' ys its m hC hL hLC hns hHC hHL pl v z IX q
  have cne : ∀ a, s2.heap.objs.size <= a -> ∀ x c, X.env.cells.lookup x = some c -> c ≠ a := fun a ha x c e z => by
    obtain ⟨v, w⟩ := I2.cell x c e
    exact Nat.lt_irrefl _ (Nat.lt_of_lt_of_le w.lt (by rw [z]; exact ha))
  have pne : ∀ a, s2.heap.objs.size <= a -> ∀ p ∈ X.pn ++ pins, p.1 ≠ a := fun a ha p hp z => Nat.lt_irrefl _ (Nat.lt_of_lt_of_le (Heap.lt_size (I2.pin p hp).1) (by rw [z]; exact ha))
  have lne : ∀ a, s2.heap.objs.size <= a -> a ≠ X.env.locals := fun a ha z => Nat.lt_irrefl _ (Nat.lt_of_lt_of_le I2.lt (by rw [<- z]; exact ha))
  have IT : Inv X pins σ (upd H' L (.lst ys)) s' := IX.track pl v z hHL (lne L hL) (Nat.le_trans I2.sz hL) (cne L hL) (pne L hL)
  show wpAny _ _ (assign (.Name y py) X.env (.ref L)) _ _ s'
  refine wpAny_assign_Name (pZ IT hN hyi (.inl hx) (v := .ref L) rfl (fun s'' I'' hch => ?_) (.inr hx))
  obtain ⟨a, sb, ha⟩ := hch
  have hCa : C ≠ a := by
    rcases ha with e | e
    · rw [e]; exact lne C hC
    · exact Ne.symm (cne C hC y a e)
  refine ⟨m, hns.sameBut sb hCa, fun h' hs' => ⟨σ.set i (some (.ref L)), upd H' L (.lst ys), ?_, q L hHL⟩⟩
  exact I''.turned (t' := s''.toks) (it := C) (fun b o hb e => (hs'.2 b hb).trans e) (by rw [aI (Ne.symm hLC)]; exact hHC) (lne C hC) (.inr (Nat.le_trans I2.sz hC)) (cne C hC) (pne C hC)
end
end L2
set_option Elab.async false
set_option linter.all false
set_option maxRecDepth 100000
namespace L2
open PySem PySem.Spec PyProof.Rows
inductive Kd where
  | int | bl | non | str | tup | lst | dct
  deriving DecidableEq
def KdV (K : PySem.W.Frag) (H : Hp) : V -> Kd -> Prop
  | .int _, k => k = .int
  | .bl _, k => k = .bl
  | .non, k => k = .non
  | .str _, k => k = .str
  | .ref p, k => (k = .lst /\ ∃ xs, SqL K H p xs) ∨ (k = .tup /\ ∃ xs, SqT K H p xs) ∨ (k = .dct /\ ∃ kvs, H p = some (.dK kvs))
  | _, _ => False
section
variable {X : Cx}
theorem rZ {pins : List (Addr × Obj)} {σ : St} {H : Hp} {s : Shared} {p : Addr} {kvs : List (Key × V)} (I : Inv X pins σ H s) (h : H p = some (.dK kvs)) : ∃ o, s.heap.get? p = some o /\ o.cls = .type "dict" := by
  obtain ⟨_, _, vs, _, o, es, ep, e, ex, _⟩ := I.hok p _ h
  exact ⟨o, e, ex.1⟩
theorem sA : eX X (.builtin "isinstance") (fun xs H Q => ∃ x k, xs = [x, .ty "int"] /\ KdV X.K H x k /\ Q (.bl (decide (k = .int ∨ k = .bl))) H) := by
  intro pins s σ H xs us Q I r h
  obtain ⟨x, k, rfl, hk, q⟩ := h
  obtain ⟨u, t, rfl, rx, rt⟩ := mS r
  cases rt
  cases x with
  | int i => cases hk; obtain ⟨t, rfl⟩ := rx; exact IsiPair.int_int ⟨.bl true, H, I, rfl, q⟩
  | bl b => cases hk; cases rx; exact IsiPair.bool_int ⟨.bl true, H, I, rfl, q⟩
  | non => cases hk; cases rx; exact IsiPair.NoneType_int ⟨.bl false, H, I.tok _, rfl, q⟩
  | str y => cases hk; obtain ⟨t, rfl⟩ := rx; exact IsiPair.str_int ⟨.bl false, H, I.tok _, rfl, q⟩
  | ref p =>
    cases rx
    rcases hk with ⟨rfl, xs, hx⟩ | ⟨rfl, xs, hx⟩ | ⟨rfl, kvs, hx⟩
    · obtain ⟨its, r', pl, hz⟩ := I.list hx; exact IsiPair.isList_int pl.isList (fun _ _ e => e) ⟨.bl false, H, I.tok _, rfl, q⟩
    · obtain ⟨its, r', pl, hz⟩ := I.tuple hx; exact IsiPair.isTuple_int pl (fun _ _ e => e) ⟨.bl false, H, I.tok _, rfl, q⟩
    · obtain ⟨o, e, c⟩ := rZ I hx; exact IsiPair.dict_int e c ⟨.bl false, H, I.tok _, rfl, q⟩
  | _ => exact hk.elim
theorem pJ : eX X (.builtin "isinstance") (fun xs H Q => ∃ x k, xs = [x, .ty "bool"] /\ KdV X.K H x k /\ Q (.bl (decide (k = .bl))) H) := by
  intro pins s σ H xs us Q I r h
  obtain ⟨x, k, rfl, hk, q⟩ := h
  obtain ⟨u, t, rfl, rx, rt⟩ := mS r
  cases rt
  cases x with
  | int i => cases hk; obtain ⟨t, rfl⟩ := rx; exact IsiPair.int_bool ⟨.bl false, H, I.tok _, rfl, q⟩
  | bl b => cases hk; cases rx; exact IsiPair.bool_bool ⟨.bl true, H, I, rfl, q⟩
  | non => cases hk; cases rx; exact IsiPair.NoneType_bool ⟨.bl false, H, I.tok _, rfl, q⟩
  | str y => cases hk; obtain ⟨t, rfl⟩ := rx; exact IsiPair.str_bool ⟨.bl false, H, I.tok _, rfl, q⟩
  | ref p =>
    cases rx
    rcases hk with ⟨rfl, xs, hx⟩ | ⟨rfl, xs, hx⟩ | ⟨rfl, kvs, hx⟩
    · obtain ⟨its, r', pl, hz⟩ := I.list hx; exact IsiPair.isList_bool pl.isList (fun _ _ e => e) ⟨.bl false, H, I.tok _, rfl, q⟩
    · obtain ⟨its, r', pl, hz⟩ := I.tuple hx; exact IsiPair.isTuple_bool pl (fun _ _ e => e) ⟨.bl false, H, I.tok _, rfl, q⟩
    · obtain ⟨o, e, c⟩ := rZ I hx; exact IsiPair.dict_bool e c ⟨.bl false, H, I.tok _, rfl, q⟩
  | _ => exact hk.elim
theorem cO : eX X (.builtin "isinstance") (fun xs H Q => ∃ x k, xs = [x, .ty "tuple"] /\ KdV X.K H x k /\ Q (.bl (decide (k = .tup))) H) := by
  intro pins s σ H xs us Q I r h
  obtain ⟨x, k, rfl, hk, q⟩ := h
  obtain ⟨u, t, rfl, rx, rt⟩ := mS r
  cases rt
  cases x with
  | int i => cases hk; obtain ⟨t, rfl⟩ := rx; exact IsiPair.int_tuple ⟨.bl false, H, I.tok _, rfl, q⟩
  | bl b => cases hk; cases rx; exact IsiPair.bool_tuple ⟨.bl false, H, I.tok _, rfl, q⟩
  | non => cases hk; cases rx; exact IsiPair.NoneType_tuple ⟨.bl false, H, I.tok _, rfl, q⟩
  | str y => cases hk; obtain ⟨t, rfl⟩ := rx; exact IsiPair.str_tuple ⟨.bl false, H, I.tok _, rfl, q⟩
  | ref p =>
    cases rx
    rcases hk with ⟨rfl, xs, hx⟩ | ⟨rfl, xs, hx⟩ | ⟨rfl, kvs, hx⟩
    · obtain ⟨its, r', pl, hz⟩ := I.list hx; exact IsiPair.isList_tuple pl.isList (fun _ _ e => e) ⟨.bl false, H, I.tok _, rfl, q⟩
    · obtain ⟨its, r', pl, hz⟩ := I.tuple hx; exact IsiPair.isTuple_tuple pl (fun _ _ e => e) ⟨.bl true, H, I, rfl, q⟩
    · obtain ⟨o, e, c⟩ := rZ I hx; exact IsiPair.dict_tuple e c ⟨.bl false, H, I.tok _, rfl, q⟩
  | _ => exact hk.elim
theorem pK : eX X (.builtin "isinstance") (fun xs H Q => ∃ x k, xs = [x, .ty "list"] /\ KdV X.K H x k /\ Q (.bl (decide (k = .lst))) H) := by
  intro pins s σ H xs us Q I r h
  obtain ⟨x, k, rfl, hk, q⟩ := h
  obtain ⟨u, t, rfl, rx, rt⟩ := mS r
  cases rt
  cases x with
  | int i => cases hk; obtain ⟨t, rfl⟩ := rx; exact IsiPair.int_list ⟨.bl false, H, I.tok _, rfl, q⟩
  | bl b => cases hk; cases rx; exact IsiPair.bool_list ⟨.bl false, H, I.tok _, rfl, q⟩
  | non => cases hk; cases rx; exact IsiPair.NoneType_list ⟨.bl false, H, I.tok _, rfl, q⟩
  | str y => cases hk; obtain ⟨t, rfl⟩ := rx; exact IsiPair.str_list ⟨.bl false, H, I.tok _, rfl, q⟩
  | ref p =>
    cases rx
    rcases hk with ⟨rfl, xs, hx⟩ | ⟨rfl, xs, hx⟩ | ⟨rfl, kvs, hx⟩
    · obtain ⟨its, r', pl, hz⟩ := I.list hx; exact IsiPair.isList_list pl.isList (fun _ _ e => e) ⟨.bl true, H, I, rfl, q⟩
    · obtain ⟨its, r', pl, hz⟩ := I.tuple hx; exact IsiPair.isTuple_list pl (fun _ _ e => e) ⟨.bl false, H, I.tok _, rfl, q⟩
    · obtain ⟨o, e, c⟩ := rZ I hx; exact IsiPair.dict_list e c ⟨.bl false, H, I.tok _, rfl, q⟩
  | _ => exact hk.elim
theorem zI (bs : List Bool) (tr : Nat -> Bool) (h : ∀ i b, bs[i]? = some b -> tr i = b) : (List.range bs.length).all tr = bs.all id := by
  rw [Bool.eq_iff_iff, List.all_eq_true, List.all_eq_true]
  constructor
  · intro q b hb
    obtain ⟨i, hi⟩ := List.getElem?_of_mem hb
    have := q i (List.mem_range.mpr (List.getElem?_eq_some_iff.mp hi).1)
    rw [h i b hi] at this
    exact this
  · intro q i hi
    have hi' := List.mem_range.mp hi
    have e : bs[i]? = some bs[i] := List.getElem?_eq_getElem hi'
    rw [h i _ e]
    exact q _ (List.getElem_mem hi')
theorem iI (hc : X.calm = true) : eX X (.builtin "all") (fun xs H Q => ∃ (p : Addr) (bs : List Bool), xs = [.ref p] /\ SqL X.K H p (bs.map V.bl) /\ Q (.bl (bs.all id)) H) := by
  intro pins s σ H xs us Q I r h
  obtain ⟨p, bs, rfl, hx, q⟩ := h
  obtain ⟨u, rfl, rx⟩ := gF r
  cases rx
  obtain ⟨its, rv, pl, hz⟩ := I.list hx
  have hl := rv.length
  rw [List.length_map] at hl
  have hlt : p < s.heap.objs.size := by obtain ⟨o, n, e, _⟩ := pl; exact Heap.lt_size e
  refine call_all_walk (wpAny_pyIter_list pl.isList ?_)
  refine ⟨s.heap.objs.size, _, _, _, _, _, fun i => (bs[i]?).getD false, rfl, Walks.list (A := X.A.in1) (I.ok.hd hc) s.heap.objs.size p (Nat.ne_of_lt hlt) its.toArray, ⟨⟨_, Heap.get?_push_size _ rfl, rfl, rfl⟩, pl.isList.push _⟩, ?_, fun h' tk hk => ?_⟩
  · intro i v s' Q' E' hP hQ'
    have hP' : its[i]? = some v := by simpa using hP
    have hi : i < bs.length := by rw [hl]; exact (List.getElem?_eq_some_iff.mp hP').1
    obtain ⟨w, hw, rw'⟩ := rv.get (i := i) (x := .bl bs[i]) (by rw [List.getElem?_map, List.getElem?_eq_getElem hi]; rfl)
    rw [hw] at hP'
    cases hP'
    cases rw'
    have e : (bs[i]?).getD false = bs[i] := by rw [List.getElem?_eq_getElem hi]; rfl
    rw [<- e]
    exact wpAny_truthy_bool hQ'
  · have e : (List.range its.toArray.size).all (fun i => (bs[i]?).getD false) = bs.all id := by
      rw [List.size_toArray, <- hl]
      exact zI bs _ fun i b hb => by rw [hb]; rfl
    rw [e]
    refine ⟨.bl _, H, I.kept (h' := h') fun b o e => hk b o ?_ (Heap.get?_push_of_some _ e), rfl, q⟩
    intro z
    have z' : b = s.heap.objs.size := by simpa using z
    exact Nat.lt_irrefl _ (z' ▸ Heap.lt_size e)
def aJ (ns : List Int) : Int := ns.foldr (· + ·) 0
theorem jD (ns : List Int) (val : Nat -> Int) (h : ∀ (i : Nat) (v : Int), ns[i]? = some v -> val i = v) : ∀ j, j <= ns.length -> preSum val j = aJ (ns.take j)
  | 0, _ => rfl
  | j + 1, hj => by
    have ih := jD ns val h j (by omega)
    have e : ns[j]? = some ns[j] := List.getElem?_eq_getElem (by omega)
    show preSum val j + val j = _
    rw [ih, h j _ e, List.take_succ, e]
    unfold aJ
    rw [List.foldr_append]
    simp only [Option.toList_some, List.foldr_cons, List.foldr_nil, Int.add_zero]
    generalize ns[j] = v
    induction (List.take j ns) with
    | nil => simp
    | cons a l ih2 => simp only [List.foldr_cons]; omega
theorem aAA (hc : X.calm = true) : eX X (.builtin "sum") (fun xs H Q => ∃ (p : Addr) (ns : List Int), xs = [.ref p] /\ SqL X.K H p (ns.map V.int) /\ (∀ n ∈ ns, 0 <= n /\ n < 1000000) /\ ns.length <= 1000000 /\ Q (.int (aJ ns)) H) := by
  intro pins s σ H xs us Q I r h
  obtain ⟨p, ns, rfl, hx, hb, hlen, q⟩ := h
  obtain ⟨u, rfl, rx⟩ := gF r
  cases rx
  obtain ⟨its, rv, pl, hz⟩ := I.list hx
  have hl := rv.length
  rw [List.length_map] at hl
  have hlt : p < s.heap.objs.size := by obtain ⟨o, n, e, _⟩ := pl; exact Heap.lt_size e
  have hval : ∀ (i : Nat) (v : Int), ns[i]? = some v -> (ns[i]?).getD 0 = v := fun i v e => by rw [e]; rfl
  have bnd : ∀ (ms : List Int), (∀ n ∈ ms, 0 <= n /\ n < 1000000) -> 0 <= aJ ms /\ aJ ms <= ms.length * 1000000 := fun ms => by
    induction ms with
    | nil => intro _; exact ⟨Int.le_refl _, Int.le_refl _⟩
    | cons a l ih =>
      intro hh
      have h1 := hh a List.mem_cons_self
      have h2 := ih fun n hn => hh n (List.mem_cons_of_mem _ hn)
      have e : aJ (a :: l) = a + aJ l := rfl
      rw [e, List.length_cons]
      rw [Int.natCast_add]
      omega
  refine call_sum_walk (wpAny_pyIter_list pl.isList ?_)
  refine ⟨s.heap.objs.size, _, _, _, _, _, fun i => (ns[i]?).getD 0, rfl, Walks.list (A := X.A.in1) (I.ok.hd hc) s.heap.objs.size p (Nat.ne_of_lt hlt) its.toArray, ⟨⟨_, Heap.get?_push_size _ rfl, rfl, rfl⟩, pl.isList.push _⟩, ?_, ?_, ?_, fun h' tk t' hk => ?_⟩
  · intro b hb'
    rw [Heap.size_push]
    rcases List.mem_cons.mp hb' with e | e
    · rw [e]; exact Nat.lt_succ_self _
    · have e' : b = p := by simpa using e
      rw [e']; exact Nat.lt_succ_of_lt hlt
  · intro i v hP
    have hP' : its[i]? = some v := by simpa using hP
    have hi : i < ns.length := by rw [hl]; exact (List.getElem?_eq_some_iff.mp hP').1
    obtain ⟨w, hw, rw'⟩ := rv.get (i := i) (x := .int ns[i]) (by rw [List.getElem?_map, List.getElem?_eq_getElem hi]; rfl)
    rw [hw] at hP'
    cases hP'
    obtain ⟨t, rfl⟩ := rw'
    exact ⟨t, by show Value.int ns[i] t = Value.int ((ns[i]?).getD 0) t; rw [List.getElem?_eq_getElem hi]; rfl⟩
  · intro j hj
    have hj' : j < ns.length := by rw [hl]; simpa using hj
    have e : ns[j]? = some ns[j] := List.getElem?_eq_getElem hj'
    have h1 := hb _ (List.getElem_mem hj')
    have h2 := bnd (ns.take (j + 1)) fun n hn => hb n (List.mem_of_mem_take hn)
    rw [jD ns _ hval (j + 1) (by omega)]
    have h3 : (ns.take (j + 1)).length <= 1000000 := by rw [List.length_take]; omega
    unfold InLong
    have e5 : (fun i : Nat => (ns[i]?).getD 0) j = ns[j] := by show (ns[j]?).getD 0 = _; rw [e]; rfl
    rw [e5]
    have h4 : ((ns.take (j + 1)).length : Int) * 1000000 <= 1000000 * 1000000 := by omega
    omega
  · have e : preSum (fun i => (ns[i]?).getD 0) its.toArray.size = aJ ns := by
      rw [List.size_toArray, <- hl, jD ns _ hval ns.length (Nat.le_refl _), List.take_length]
    rw [e]
    refine ⟨.int _, H, I.kept (h' := h') fun b o e => hk b o ?_ (Heap.get?_push_of_some _ e), ⟨_, rfl⟩, q⟩
    intro z
    have z' : b = s.heap.objs.size := by simpa using z
    exact Nat.lt_irrefl _ (z' ▸ Heap.lt_size e)
end
end L2
set_option Elab.async false
set_option linter.all false
set_option maxRecDepth 100000
namespace L2
open PySem PySem.Spec PyProof.Rows
mutual
def Den (K : PySem.W.Frag) (H : Hp) : PyData -> V -> Prop
  | .none, v => v = .non
  | .bool b, v => v = .bl b
  | .int i, v => v = .int i
  | .str x, v => v = .str x
  | .list ds, v => ∃ a xs, v = .ref a /\ SqL K H a xs /\ aV K H ds xs
  | .tuple ds, v => ∃ a xs, v = .ref a /\ SqT K H a xs /\ aV K H ds xs
  | .dict kvs, v => kvs = [] /\ ∃ a, v = .ref a /\ H a = some (.dK [])
def aV (K : PySem.W.Frag) (H : Hp) : List PyData -> List V -> Prop
  | [], xs => xs = []
  | d :: ds, xs => ∃ x r, xs = x :: r /\ Den K H d x /\ aV K H ds r
end
theorem aE.rd {H H' : Hp} {a : Addr} {u : HO} (e : aE H H') (h : Rd H a u) : Rd H' a u := by
  rcases h with h | ⟨o, h⟩
  · exact .inl (e a u h)
  · exact .inr ⟨o, e a _ h⟩
theorem aE.seqL {K : PySem.W.Frag} {H H' : Hp} {a : Addr} {xs : List V} (e : aE H H') (h : SqL K H a xs) : SqL K H' a xs := by
  rcases h with h | h
  · exact .inl (e.rd h)
  · exact .inr h
theorem aE.seqT {K : PySem.W.Frag} {H H' : Hp} {a : Addr} {xs : List V} (e : aE H H') (h : SqT K H a xs) : SqT K H' a xs := by
  rcases h with h | h
  · exact .inl (e.rd h)
  · exact .inr h
theorem aE.new {H : Hp} {p : Addr} {o : HO} (h : H p = none) : aE H (upd H p o) := fun b u e => by rw [aI (fQ e h)]; exact e
mutual
theorem aE.den {K : PySem.W.Frag} {H H' : Hp} (e : aE H H') : ∀ (d : PyData) (v : V), Den K H d v -> Den K H' d v
  | .none, v, h => by unfold Den at h ⊢; exact h
  | .bool b, v, h => by unfold Den at h ⊢; exact h
  | .int i, v, h => by unfold Den at h ⊢; exact h
  | .str x, v, h => by unfold Den at h ⊢; exact h
  | .list ds, v, h => by unfold Den at h ⊢; obtain ⟨a, xs, h1, h2, h3⟩ := h; exact ⟨a, xs, h1, e.seqL h2, aE.denAll e ds xs h3⟩
  | .tuple ds, v, h => by unfold Den at h ⊢; obtain ⟨a, xs, h1, h2, h3⟩ := h; exact ⟨a, xs, h1, e.seqT h2, aE.denAll e ds xs h3⟩
  | .dict kvs, v, h => by unfold Den at h ⊢; obtain ⟨h1, a, h2, h3⟩ := h; exact ⟨h1, a, h2, e a _ h3⟩
theorem aE.denAll {K : PySem.W.Frag} {H H' : Hp} (e : aE H H') : ∀ (ds : List PyData) (xs : List V), aV K H ds xs -> aV K H' ds xs
  | [], xs, h => by unfold aV at h ⊢; exact h
  | d :: ds, xs, h => by unfold aV at h ⊢; obtain ⟨x, r, h1, h2, h3⟩ := h; exact ⟨x, r, h1, aE.den e d x h2, aE.denAll e ds r h3⟩
end
section
variable {K : PySem.W.Frag} {H : Hp}
theorem eE {i : Int} {v : V} : Den K H (.int i) v ↔ v = .int i := by unfold Den; exact Iff.rfl
theorem tT {b : Bool} {v : V} : Den K H (.bool b) v ↔ v = .bl b := by unfold Den; exact Iff.rfl
theorem tU {v : V} : Den K H .none v ↔ v = .non := by unfold Den; exact Iff.rfl
theorem xW {x : Str} {v : V} : Den K H (.str x) v ↔ v = .str x := by unfold Den; exact Iff.rfl
theorem lG {ds : List PyData} {v : V} : Den K H (.list ds) v ↔ ∃ a xs, v = .ref a /\ SqL K H a xs /\ aV K H ds xs := by
  constructor
  · intro h; unfold Den at h; exact h
  · intro h; unfold Den; exact h
theorem cJ {ds : List PyData} {v : V} : Den K H (.tuple ds) v ↔ ∃ a xs, v = .ref a /\ SqT K H a xs /\ aV K H ds xs := by
  constructor
  · intro h; unfold Den at h; exact h
  · intro h; unfold Den; exact h
theorem aAB {kvs : List (PyData × PyData)} {v : V} : Den K H (.dict kvs) v ↔ kvs = [] /\ ∃ a, v = .ref a /\ H a = some (.dK []) := by
  constructor
  · intro h; unfold Den at h; exact h
  · intro h; unfold Den; exact h
theorem bD {xs : List V} : aV K H [] xs ↔ xs = [] := by unfold aV; exact Iff.rfl
theorem aX {d : PyData} {ds : List PyData} {xs : List V} : aV K H (d :: ds) xs ↔ ∃ x r, xs = x :: r /\ Den K H d x /\ aV K H ds r := by
  constructor
  · intro h; unfold aV at h; exact h
  · intro h; unfold aV; exact h
theorem aR : ∀ {ds : List PyData} {xs : List V}, aV K H ds xs -> xs.length = ds.length
  | [], xs, h => by rw [bD.mp h]; rfl
  | d :: ds, xs, h => by
    obtain ⟨x, r, rfl, _, h3⟩ := aX.mp h
    rw [List.length_cons, List.length_cons, aR h3]
theorem nU : ∀ {ds : List PyData} {xs : List V} {i : Nat} {d : PyData}, aV K H ds xs -> ds[i]? = some d -> ∃ x, xs[i]? = some x /\ Den K H d x
  | [], _, _, _, _, e => by simp at e
  | d :: ds, xs, 0, d', h, e => by
    obtain ⟨x, r, rfl, h2, _⟩ := aX.mp h
    simp at e; subst e
    exact ⟨x, rfl, h2⟩
  | d :: ds, xs, i + 1, d', h, e => by
    obtain ⟨x, r, rfl, _, h3⟩ := aX.mp h
    obtain ⟨y, h4, h5⟩ := nU (i := i) (d := d') h3 (by simpa using e)
    exact ⟨y, by simpa using h4, h5⟩
theorem cX {ds : List PyData} {xs : List V} {i : Nat} {x : V} (h : aV K H ds xs) (e : xs[i]? = some x) : ∃ d, ds[i]? = some d /\ Den K H d x := by
  have hl := aR h
  have hi : i < ds.length := by rw [<- hl]; exact (List.getElem?_eq_some_iff.mp e).1
  obtain ⟨y, h1, h2⟩ := nU h (List.getElem?_eq_getElem hi)
  rw [e] at h1; cases h1
  exact ⟨_, List.getElem?_eq_getElem hi, h2⟩
theorem gB : ∀ {ds es : List PyData} {xs ys : List V}, aV K H ds xs -> aV K H es ys -> aV K H (ds ++ es) (xs ++ ys)
  | [], es, xs, ys, h, h' => by rw [bD.mp h]; exact h'
  | d :: ds, es, xs, ys, h, h' => by
    obtain ⟨x, r, rfl, h2, h3⟩ := aX.mp h
    exact aX.mpr ⟨x, r ++ ys, rfl, h2, gB h3 h'⟩
theorem eR : ∀ {ns : List Int} {xs : List V}, aV K H (ns.map PyData.int) xs ↔ xs = ns.map V.int
  | [], xs => bD
  | n :: ns, xs => by
    rw [List.map_cons, aX]
    constructor
    · rintro ⟨x, r, rfl, h2, h3⟩
      rw [eE.mp h2, eR.mp h3]
      rfl
    · intro e
      exact ⟨_, _, e, eE.mpr rfl, eR.mpr rfl⟩
theorem aZ {ns : List Int} {v : V} : Den K H (.tuple (ns.map .int)) v ↔ ∃ a, v = .ref a /\ SqT K H a (ns.map V.int) := by
  rw [cJ]
  constructor
  · rintro ⟨a, xs, rfl, h1, h2⟩
    rw [eR.mp h2] at h1
    exact ⟨a, rfl, h1⟩
  · rintro ⟨a, rfl, h⟩
    exact ⟨a, _, rfl, h, eR.mpr rfl⟩
theorem fX {ns : List Int} {v : V} : Den K H (.list (ns.map .int)) v ↔ ∃ a, v = .ref a /\ SqL K H a (ns.map V.int) := by
  rw [lG]
  constructor
  · rintro ⟨a, xs, rfl, h1, h2⟩
    rw [eR.mp h2] at h1
    exact ⟨a, rfl, h1⟩
  · rintro ⟨a, rfl, h⟩
    exact ⟨a, _, rfl, h, eR.mpr rfl⟩
def iV : PyData -> Kd
  | .none => .non | .bool _ => .bl | .int _ => .int | .str _ => .str | .list _ => .lst | .tuple _ => .tup | .dict _ => .dct
theorem Den.kd {d : PyData} {v : V} (h : Den K H d v) : KdV K H v (iV d) := by
  cases d with
  | none => rw [tU.mp h]; rfl
  | bool b => rw [tT.mp h]; rfl
  | int i => rw [eE.mp h]; rfl
  | str x => rw [xW.mp h]; rfl
  | list ds => obtain ⟨a, xs, rfl, h1, _⟩ := lG.mp h; exact .inl ⟨rfl, xs, h1⟩
  | tuple ds => obtain ⟨a, xs, rfl, h1, _⟩ := cJ.mp h; exact .inr (.inl ⟨rfl, xs, h1⟩)
  | dict kvs => obtain ⟨_, a, rfl, h1⟩ := aAB.mp h; exact .inr (.inr ⟨rfl, [], h1⟩)
end
section
variable {X : Cx} {pins : List (Addr × Obj)} {σ : St} {H : Hp} {s : Shared}
mutual
def eJ : PyData -> Bool
  | .dict _ => false
  | .list ds => iO ds
  | .tuple ds => iO ds
  | _ => true
def iO : List PyData -> Bool
  | [] => true
  | d :: ds => eJ d && iO ds
end
mutual
theorem Den.reads (I : Inv X pins σ H s) : ∀ (d : PyData) (v : V) (u : Value), eJ d = true -> Den X.K H d v -> bE v u -> ∃ as, Reads s.heap u d as
  | .none, v, u, _, h, r => by rw [tU.mp h] at r; cases r; exact ⟨_, .none⟩
  | .bool b, v, u, _, h, r => by rw [tT.mp h] at r; cases r; exact ⟨_, .bool b⟩
  | .int i, v, u, _, h, r => by rw [eE.mp h] at r; obtain ⟨t, rfl⟩ := r; exact ⟨_, .int i t⟩
  | .str x, v, u, _, h, r => by rw [xW.mp h] at r; obtain ⟨t, rfl⟩ := r; exact ⟨_, .str x t⟩
  | .list ds, v, u, hn, h, r => by
    obtain ⟨a, xs, rfl, h1, h2⟩ := lG.mp h
    cases r
    obtain ⟨its, rv, ⟨o, n, e, c, _, d⟩, _⟩ := I.list h1
    obtain ⟨as, ra⟩ := aV.reads I ds xs its (by unfold eJ at hn; exact hn) h2 rv
    exact ⟨_, .list e c d (by simpa using ra)⟩
  | .tuple ds, v, u, hn, h, r => by
    obtain ⟨a, xs, rfl, h1, h2⟩ := cJ.mp h
    cases r
    obtain ⟨its, rv, ⟨o, e, c, n, d⟩, _⟩ := I.tuple h1
    obtain ⟨as, ra⟩ := aV.reads I ds xs its (by unfold eJ at hn; exact hn) h2 rv
    exact ⟨_, .tuple e c d (by simpa using ra)⟩
  | .dict kvs, v, u, hn, _, _ => by unfold eJ at hn; cases hn
theorem aV.reads (I : Inv X pins σ H s) : ∀ (ds : List PyData) (xs : List V) (us : List Value), iO ds = true -> aV X.K H ds xs -> bB xs us -> ∃ as, ReadsAll s.heap us ds as
  | [], xs, us, _, h, r => by rw [bD.mp h] at r; cases r; exact ⟨_, .nil⟩
  | d :: ds, xs, us, hn, h, r => by
    obtain ⟨x, rr, rfl, h2, h3⟩ := aX.mp h
    unfold iO at hn
    rw [Bool.and_eq_true] at hn
    cases r with
    | cons r1 r2 =>
      obtain ⟨as, ra⟩ := Den.reads I d x _ hn.1 h2 r1
      obtain ⟨bs, rb⟩ := aV.reads I ds rr _ hn.2 h3 r2
      exact ⟨_, .cons ra rb⟩
end
theorem wE (hu : X.A.units + 64 < cLine) : OpR X (compareOp .Eq) (fun x y H Q => ∃ d e, Den X.K H d x /\ Den X.K H e y /\ eJ d = true /\ eJ e = true /\ SeqAt.shaped d = true /\ SeqAt.shaped e = true /\ Q (.bl (PyData.eqv d e)) H) := by
  intro pins s σ H x y v u Q I rx ry h
  obtain ⟨d, e, hd, he, n1, n2, s1, s2, q⟩ := h
  obtain ⟨as, ra⟩ := Den.reads I d x v n1 hd rx
  obtain ⟨bs, rb⟩ := Den.reads I e y u n2 he ry
  exact eq_dataH ra rb s1 s2 hu ⟨.bl _, H, I, rfl, q⟩
theorem aAC (hu : X.A.units + 64 < cLine) : OpR X (compareOp .NotEq) (fun x y H Q => ∃ d e, Den X.K H d x /\ Den X.K H e y /\ eJ d = true /\ eJ e = true /\ SeqAt.shaped d = true /\ SeqAt.shaped e = true /\ Q (.bl (!PyData.eqv d e)) H) := by
  intro pins s σ H x y v u Q I rx ry h
  obtain ⟨d, e, hd, he, n1, n2, s1, s2, q⟩ := h
  obtain ⟨as, ra⟩ := Den.reads I d x v n1 hd rx
  obtain ⟨bs, rb⟩ := Den.reads I e y u n2 he ry
  exact ne_dataH ra rb s1 s2 hu ⟨.bl _, H, I, rfl, q⟩
theorem zJ : MtR X "tuple.count" (fun x vs H Q => ∃ (a : Addr) (ns : List Int) (n : Int), x = .ref a /\ vs = [.int n] /\ SqT X.K H a (ns.map V.int) /\ Q (.int (ns.count n : Nat)) H) := by
  intro pins s σ H x v vs us Q I rx r h
  obtain ⟨a, ns, n, rfl, rfl, ha, q⟩ := h
  obtain ⟨u, rfl, t, rfl⟩ := gF r
  cases rx
  obtain ⟨its, rv, ⟨⟨cls, dd, data, sl⟩, ho, hc, k, hd⟩, hzz⟩ := I.tuple ha
  simp only at hc hd
  subst hc hd
  have hi : IntsAre its ns := gU rv
  refine call_meets PySem.F.slot_tuple_count ⟨_, ho, rfl⟩ PySem.F.entry_tuple_count (PySem.F.args_tuple_count_2 _ _) (SeqAt.tuple_countAt a its.toArray k dd sl (.int n t) (isInt n)) ⟨ho, fun y hy => (eq_isInt n t hi y (by simpa using hy)).at _ _, ?_⟩
  have e : (its.toArray.toList.countP (isInt n)) = ns.count n := by
    simp only [List.toList_toArray]
    clear q r ha rv ho hzz
    induction hi with
    | nil => rfl
    | cons m t' _ ih =>
      rw [List.countP_cons, List.count_cons, ih]
      rfl
  rw [e]
  exact ⟨.int _, H, I.tok _, ⟨_, rfl⟩, q⟩
end
end L2
set_option Elab.async false
set_option linter.all false
set_option maxRecDepth 100000
namespace L2
open PySem PySem.Spec PyProof.Rows
section
variable {prog : Program} {w : World} {A : Around} {E : Value -> Shared -> Prop} {s : Shared}
theorem nV {x : Value} {Q : List Value -> Shared -> Prop}
    (h : ∀ R : Result -> Shared -> Prop, (∀ (s' : Shared) (acc : Array Value) (c : Nat), s'.heap.get? s.heap.objs.size = some { cls := .type "list", data := .seq acc c } -> Q acc.toList s' -> R (.ok (.ret (.ref s.heap.objs.size))) s') ->
      wpAny (model prog w) A.in1 (Builtin.List.listExtendWith (.ref s.heap.objs.size) x (.ref s.heap.objs.size))
        (fun fin s' => match fin with | .done f => R (.ok f) s' | .again c' => c'.quiet = true /\ codeAny (model prog w) A c' R s') (fun e s' => R (.error e) s') { s with heap := s.heap.push { cls := .type "list", data := .seq ([] : List Value).toArray } }) :
    wpAny (model prog w) A (collect x) Q E s := by
  unfold collect
  refine wpAny_bind (wpAny_runValue (codeAny_builtin PySem.F.entry_proto_collect ?_))
  rw [Around.under_plainId PySem.F.plain_proto_collect _]
  show wpAny _ A.in1 (newList [] >>= fun l => again (.builtin "list.__iadd__" ⟨[l, x], []⟩)) _ _ s
  refine wpAny_bind (wpAny_newObj_type ?_)
  refine wpAny_pure ⟨plainId_quiet PySem.F.plain_list_iadd _, codeAny_builtin PySem.F.entry_list_iadd ?_⟩
  rw [Around.under_plainId PySem.F.plain_list_iadd _]
  show wpAny _ A.in1 (Builtin.List.listExtendWith (.ref s.heap.objs.size) x (.ref s.heap.objs.size)) _ _ _
  have fin' : ∀ (s' : Shared) (acc : Array Value) (c : Nat), s'.heap.get? s.heap.objs.size = some { cls := .type "list", data := .seq acc c } -> Q acc.toList s' -> wpAny (model prog w) A (match Value.ref s.heap.objs.size with
      | Value.ref a => do
        match (<- load a).data with
          | Data.seq xs _ => pure xs.toList
          | _ => unsupported "internal:collect"
      | _ => unsupported "internal:collect") Q E s' := by
    intro s' acc c e q
    show wpAny _ A (load s.heap.objs.size >>= _) _ _ _
    exact wpAny_bind (wpAny_load e (wpAny_pure q))
  refine wpAny_mono (h (fun r s' => r = .ok (.ret (.ref s.heap.objs.size)) /\ ∃ acc c, s'.heap.get? s.heap.objs.size = some { cls := .type "list", data := .seq acc c } /\ Q acc.toList s') (fun s' acc c e q => ⟨rfl, acc, c, e, q⟩)) (fun fin s' h => ?_) (fun e s' h => ?_)
  · cases fin with
    | done f =>
      obtain ⟨e, acc, c, e2, q⟩ := h
      cases e
      exact fin' s' acc c e2 q
    | again c' => exact ⟨h.1, codeAny_mono h.2 fun r s'' hr => by obtain ⟨rfl, acc, c, e2, q⟩ := hr; exact fin' s'' acc c e2 q⟩
  · exact absurd h.1 (by simp)
theorem pL {r : Addr} {a b : Int} {t u v : Tok} {n : Nat} {Q : List Value -> Shared -> Prop} (hh : A.handled = none) (hr : IsRange s.heap r a b 1 t u v) (hsmall : Builtin.Range.small a b 1 = true)
    (hn : Builtin.Range.rangeSize a b 1 = n) (hlen : n <= 2 ^ 24)
    (h : ∀ h' tk vs, (∀ b o, s.heap.get? b = some o -> h'.get? b = some o) -> IntsAre vs ((List.range n).map fun (i : Nat) => a + (i : Int)) -> Q vs { s with heap := h', toks := tk }) : wpAny (model prog w) A (collect (.ref r)) Q E s := by
  refine nV fun R hR => ?_
  have hr' : IsRange (s.heap.push { cls := .type "list", data := .seq ([] : List Value).toArray }) r a b 1 t u v := Heap.get?_push_of_some _ hr
  refine wpAny_extend_range (s := { s with heap := s.heap.push { cls := .type "list", data := .seq ([] : List Value).toArray } }) hh hr' hsmall hn hlen s.heap.objs.size (.ref s.heap.objs.size) 0 (Heap.get?_push_size _ rfl) fun h' tk acc' c' kp e it => ?_
  refine hR { s with heap := h', toks := tk } acc' c' e (h h' tk acc'.toList (fun b o q => kp b o (Nat.ne_of_lt (Heap.lt_size q)) (Heap.get?_push_of_some _ q)) ?_)
  obtain ⟨hs, hi⟩ := it
  -- the items one by one
  have key : ∀ (k : Nat) (l : List Value) (m : Nat), l.length = k -> (∀ (j : Nat) (v : Value), l[j]? = some v -> ∃ t, v = Value.int (a + ((m + j : Nat) : Int)) t) -> IntsAre l ((List.range' m k).map fun (i : Nat) => a + (i : Int)) := by
    intro k
    induction k with
    | zero => intro l m hl _; rw [List.length_eq_zero_iff.mp hl]; exact .nil
    | succ k ih =>
      intro l m hl hv
      cases l with
      | nil => simp at hl
      | cons v l =>
        obtain ⟨t, e⟩ := hv 0 v rfl
        rw [List.range'_succ, List.map_cons, e]
        exact .cons _ t (ih l (m + 1) (by simpa using hl) fun j v' hj => by
          obtain ⟨t', e'⟩ := hv (j + 1) v' (by simpa using hj)
          exact ⟨t', by rw [e', show m + (j + 1) = m + 1 + j by omega]⟩)
  have := key n acc'.toList 0 (by rw [Array.length_toList, hs]) fun j v hj => by
    obtain ⟨t, e⟩ := hi j v (by simpa using hj)
    exact ⟨t, by rw [e]; first | (congr 1; done) | (congr 1; omega)⟩
  rwa [<- List.range_eq_range'] at this
theorem qJ {x : Value} {ns : List Int} {Q : Value -> Shared -> Prop} (h64 : ns.length < 64)
    (hc : ∀ Q' : List Value -> Shared -> Prop, (∀ h' tk vs, (∀ b o, s.heap.get? b = some o -> h'.get? b = some o) -> IntsAre vs ns -> Q' vs { s with heap := h', toks := tk }) -> wpAny (model prog w) A.in1 (collect x) Q' E s)
    (h : ∀ (h1 h' : Heap) tk out ns', (∀ b o, s.heap.get? b = some o -> h1.get? b = some o) -> (∀ b o, h1.get? b = some o -> h'.get? b = some o) -> h'.PlainList h1.objs.size out -> IntsAre out.toList ns' -> ns'.Perm ns -> ns'.Pairwise (· <= ·) -> Q (.ref h1.objs.size) { s with heap := h', toks := tk }) :
    wpAny (model prog w) A (call (.builtin "sorted") [x]) Q E s := by
  refine Calls.call_function_entry kind_sorted plain_sorted entry_sorted (args_sorted1 _) ?_
  unfold Builtin.«sorted»
  refine wpAny_bind (m := checkCount "sorted" 1 1 _) (wpAny_pure ?_)
  refine wpAny_bind (hc _ fun h1 tk vs kp hi => ?_)
  have hlen := hi.length
  refine wpAny_bind (wpAny_newList ?_ (by rw [sizeLine_eq]; omega))
  have hoL : (h1.push (seqObj "list" vs.toArray 0)).get? h1.objs.size = some (seqObj "list" vs.toArray 0) := Heap.get?_push_size _ rfl
  refine wpAny_bind (wpAny_holding (wpAny_call_entry slot_list_sort ⟨_, hoL, rfl⟩ entry_list_sort (list_sort_tree hoL hi (by omega) fun out ns' a1 a2 a3 => ⟨_, rfl, ?_⟩) (args_list_sort _)))
  refine wpAny_pure ⟨_, rfl, ?_⟩
  obtain ⟨e, he⟩ := sortedHeap_at (out := out) hoL
  refine h h1 _ tk out ns' kp (fun b o q => ?_) ⟨e, he⟩ a1 a2 a3
  rw [sortedHeap_old (Nat.ne_of_lt (Heap.lt_size q)) (by rw [size_push']; exact Nat.lt_succ_of_lt (Heap.lt_size q))]
  exact Heap.get?_push_of_some _ q
theorem pM {x : Value} {ns : List Int} {b : Bool} {Q : Value -> Shared -> Prop} (h64 : ns.length < 64)
    (hc : ∀ Q' : List Value -> Shared -> Prop, (∀ h' tk vs, (∀ b o, s.heap.get? b = some o -> h'.get? b = some o) -> IntsAre vs ns -> Q' vs { s with heap := h', toks := tk }) -> wpAny (model prog w) A.in1 (collect x) Q' E s)
    (h : ∀ (h1 h' : Heap) tk out ns', (∀ b o, s.heap.get? b = some o -> h1.get? b = some o) -> (∀ b o, h1.get? b = some o -> h'.get? b = some o) -> h'.PlainList h1.objs.size out -> IntsAre out.toList ns' -> ns'.Perm ns -> Ordered b ns' -> Q (.ref h1.objs.size) { s with heap := h', toks := tk }) :
    wpAny (model prog w) A (call (.builtin "sorted") [x] [(Str.ofString "reverse", .bool b)]) Q E s := by
  refine call_function_entry_kw kind_sorted plain_sorted entry_sorted (args_sorted_rev _ _) ?_
  unfold Builtin.«sorted»
  refine wpAny_bind (m := checkCount "sorted" 1 1 _) (wpAny_pure ?_)
  refine wpAny_bind (hc _ fun h1 tk vs kp hi => ?_)
  have hlen := hi.length
  refine wpAny_bind (wpAny_newList ?_ (by rw [sizeLine_eq]; omega))
  have hoL : (h1.push (seqObj "list" vs.toArray 0)).get? h1.objs.size = some (seqObj "list" vs.toArray 0) := Heap.get?_push_size _ rfl
  refine wpAny_bind (wpAny_holding (wpAny_call_entry_kw slot_list_sort ⟨_, hoL, rfl⟩ entry_list_sort (list_sort_tree_rev hoL hi (by omega) fun out ns' a1 a2 a3 => ⟨_, rfl, ?_⟩) (args_list_sort_rev _ _)))
  refine wpAny_pure ⟨_, rfl, ?_⟩
  obtain ⟨e, he⟩ := sortedHeap_at (out := out) hoL
  refine h h1 _ tk out ns' kp (fun b o q => ?_) ⟨e, he⟩ a1 a2 a3
  rw [sortedHeap_old (Nat.ne_of_lt (Heap.lt_size q)) (by rw [size_push']; exact Nat.lt_succ_of_lt (Heap.lt_size q))]
  exact Heap.get?_push_of_some _ q
end
theorem iW (r : Addr) (a b : Int) (t u v : Tok) (n : Nat) (hsmall : Builtin.Range.small a b 1 = true) (hn : Builtin.Range.rangeSize a b 1 = n) (hlen : n <= 2 ^ 24) :
    Meets (Builtin.«tuple.__new__» ⟨[.type "tuple", .ref r], []⟩)
      (fun A R s => A.handled = none /\ IsRange s.heap r a b 1 t u v /\ ∀ (h' : Heap) tk (vs : List Value), (∀ b o', s.heap.get? b = some o' -> h'.get? b = some o') -> IntsAre vs ((List.range n).map fun (i : Nat) => a + (i : Int)) ->
        R (.ok (.ret (.ref h'.objs.size))) { s with heap := h'.push { cls := .type "tuple", data := .seq vs.toArray }, toks := tk }) :=
  .of_wp fun prog w A R s h => by
    obtain ⟨hp, g, d, tk, os⟩ := s; obtain ⟨hh, ht, h⟩ := h
    have hsub := sub_tuple_self
    have hinit := init_tuple_lookup
    have hmh := madeHere_tuple
    have hT : Shared.TypeIs ⟨hp, g, d, tk, os⟩ (.ref r) "range" := ⟨_, ht, rfl⟩
    wp_walk using wpAny_loadPart' ht, wpAny_typeOf hT, pL (A := A.in1) (s := ⟨hp, g, d, tk, os⟩) hh ht hsmall hn hlen
    intro h' tk' vs hk hi
    show wpAny _ _ (Builtin.Tuple.tupleExact vs.toArray >>= fun v => ret v) _ _ _
    unfold Builtin.Tuple.tupleExact
    have hl := hi.length
    rw [List.length_map, List.length_range] at hl
    refine wpAny_bind (wpAny_newObj_type ?_ (by show vs.toArray.size <= sizeLine; rw [List.size_toArray, sizeLine_eq]; omega))
    refine wpAny_pure ⟨_, rfl, ?_⟩
    exact h h' tk' vs hk hi
section
variable {X : Cx}
theorem tV : eX X (.type "range") (fun xs H Q => ∃ j, xs = [.int j] /\ ∀ p, H p = none -> Q (.ref p) (upd H p (.rng 0 j))) := by
  intro pins s σ H xs us Q I r h
  obtain ⟨j, rfl, q⟩ := h
  obtain ⟨u, rfl, t, rfl⟩ := gF r
  refine call_range_1 ⟨.ref s.heap.objs.size, _, I.laid (fun b o e => Heap.get?_push_of_some _ e) (Nat.le_refl _) ?_, rfl, q _ (I.hok.fresh (Nat.le_refl _))⟩
  exact ⟨_, _, _, Heap.get?_push_size _ rfl⟩
def bF (n : Nat) : List Int := (List.range n).map fun (i : Nat) => (i : Int)
theorem nW (hc : X.calm = true) : eX X (.type "tuple") (fun xs H Q => ∃ (a : Addr) (n : Nat), xs = [.ref a] /\ H a = some (.rng 0 n) /\ n <= 1000 /\ ∀ p H', aE H H' -> SqT X.K H' p ((bF n).map V.int) -> Q (.ref p) H') := by
  intro pins s σ H xs us Q I r h
  obtain ⟨a, n, rfl, ha, hn, q⟩ := h
  obtain ⟨u, rfl, rx⟩ := gF r
  cases rx
  obtain ⟨t, u, v, e⟩ := I.hok a _ ha
  have hsz : Builtin.Range.rangeSize 0 (n : Int) 1 = (n : Int) := by rw [rangeSize_one]; split <;> omega
  have hsm : Builtin.Range.small 0 (n : Int) 1 = true := small_one (by omega) (by omega) (by omega) (by omega)
  have hn24 : n <= 2 ^ 24 := Nat.le_trans hn (by decide)
  refine callType_new PySem.F.called_tuple (by decide) (PySem.F.typeCall_tuple_1 _) (PySem.F.newCall_tuple_1 _) (fun obj => PySem.F.args_object_init_2 obj _) PySem.F.entry_tuple_new
    (iW a 0 n t u v n hsm hsz hn24) ⟨I.ok.hd hc, e, fun h' tk vs kp hi => ⟨⟨_, Heap.get?_push_size _ rfl, rfl⟩, ?_⟩⟩
  have I1 : Inv X pins σ H { s with heap := h', toks := tk } := I.kept kp
  have e0 : ((List.range n).map fun (i : Nat) => (0 : Int) + (i : Int)) = bF n := by unfold bF; exact List.map_congr_left fun i _ => Int.zero_add _
  rw [e0] at hi
  have hv := iG hi
  have hl : (bF n).length = n := by unfold bF; simp
  have hf := I1.hok.fresh (Nat.le_refl _)
  have I2 : Inv X pins σ (upd H h'.objs.size (.tup ((bF n).map V.int))) { s with heap := h'.push { cls := .type "tuple", data := .seq vs.toArray }, toks := tk } :=
    I1.laid (t' := tk) (fun b o e => Heap.get?_push_of_some _ e) (Nat.le_refl _) (show bO X.prog X.w _ _ _ (.tup _) from ⟨by rw [List.length_map, hl, sizeLine_eq]; omega, vs, 0, hv, Heap.get?_push_size _ rfl⟩)
  exact ⟨.ref h'.objs.size, _, I2, rfl, q _ _ (aE.new hf) (SqT.of aB)⟩
theorem tW : eX X (.builtin "sorted") (fun xs H Q => ∃ (a : Addr) (ns : List Int), xs = [.ref a] /\ (SqL X.K H a (ns.map V.int) ∨ SqT X.K H a (ns.map V.int)) /\ ns.length < 64 /\
    ∀ (p : Addr) (ms : List Int), H p = none -> ms.Perm ns -> ms.Pairwise (· <= ·) -> Q (.ref p) (upd H p (.lst (ms.map V.int)))) := by
  intro pins s σ H xs us Q I r h
  obtain ⟨a, ns, rfl, ha, h64, q⟩ := h
  obtain ⟨u, rfl, rx⟩ := gF r
  cases rx
  refine qJ h64 (fun Q' hQ' => ?_) fun h1 h' tk out ns' k1 k2 pl hi hp ho => ?_
  · rcases ha with ha | ha
    · obtain ⟨its, rv, ⟨o, n, e, c, _, d⟩, hz⟩ := I.list ha
      have hl := rv.length
      exact wpAny_collect_seq a (.inl rfl) e c d (fun h' kp => hQ' h' s.toks _ kp (by simpa using gU rv)) (by rw [List.size_toArray, <- hl]; exact hz)
    · obtain ⟨its, rv, ⟨o, e, c, n, d⟩, hz⟩ := I.tuple ha
      have hl := rv.length
      exact wpAny_collect_seq a (.inr rfl) e c d (fun h' kp => hQ' h' s.toks _ kp (by simpa using gU rv)) (by rw [List.size_toArray, <- hl]; exact hz)
  · have I1 : Inv X pins σ H { s with heap := h1, toks := tk } := I.kept k1
    have hf := I1.hok.fresh (Nat.le_refl _)
    have hl := hp.length_eq
    obtain ⟨n, e⟩ := pl
    have I2 : Inv X pins σ (upd H h1.objs.size (.lst (ns'.map V.int))) { s with heap := h', toks := tk } :=
      I1.laid (t' := tk) k2 (Nat.le_refl _) (show bO X.prog X.w _ _ _ (.lst _) from ⟨by rw [List.length_map, hl, sizeLine_eq]; omega, out.toList, n, iG hi, by simpa using e⟩)
    exact ⟨.ref h1.objs.size, _, I2, rfl, q _ ns' hf hp ho⟩
theorem pN {x : Expr} {p pos kpos : Pos} {tx : TE} {cj cpos} (hg : Gl X "sorted") (hm : X.mg "sorted" = none) (hx : PE X x tx)
    (he : starEach [x] X.env = [(false, eval x X.env)] := by rfl) :
    PE X (.Call (.Name "sorted" p) [x] [⟨some "reverse", .Constant (.bool true) cj cpos, kpos⟩] pos) (fun σ H Q => tx σ H fun v H1 => ∃ (a : Addr) (ns : List Int), v = .ref a /\ (SqL X.K H1 a (ns.map V.int) ∨ SqT X.K H1 a (ns.map V.int)) /\ ns.length < 64 /\
      ∀ (p : Addr) (ms : List Int), H1 p = none -> ms.Perm ns -> ms.Pairwise (· ≥ ·) -> Q (.ref p) (upd H1 p (.lst (ms.map V.int)))) := by
  intro pins s σ H Q I h
  refine wpAny_Call_Name_kw (iM (u := .builtin "sorted") I hg hm (by decide +kernel) ?_)
  have hpa : PA X [x] (tO tx aAu) := aA hx aC he
  refine callWith_kw (thn (hpa pos pins s σ H (fun vs H1 => match vs with
      | [v] => ∃ (a : Addr) (ns : List Int), v = .ref a /\ (SqL X.K H1 a (ns.map V.int) ∨ SqT X.K H1 a (ns.map V.int)) /\ ns.length < 64 /\ ∀ (p : Addr) (ms : List Int), H1 p = none -> ms.Perm ns -> ms.Pairwise (· ≥ ·) -> Q (.ref p) (upd H1 p (.lst (ms.map V.int)))
      | _ => False) I h) fun us s1 ⟨vs, H1, I1, r1, q1⟩ => ?_) (by rw [he]; rfl) (by rw [he]; rfl)
  have hk : PK X [⟨some "reverse", .Constant (.bool true) cj cpos, kpos⟩] (tO (tC (.bl true)) aAu) := aBR cF aCZ
  refine thn (hk pos pins s1 σ H1 (fun zs H2 => zs = [.bl true] /\ H2 = H1) I1 ⟨rfl, rfl⟩) fun ws s2 hx9 => ?_
  obtain ⟨zs, H2, I2, rz, ez, eH⟩ := hx9
  subst ez eH
  obtain ⟨w1, rfl, rw1⟩ := gF rz
  cases rw1
  match vs, r1, q1 with
  | [v], r1, q1 =>
    obtain ⟨a, ns, rfl, ha, h64, q⟩ := q1
    obtain ⟨u, rfl, rx⟩ := gF r1
    cases rx
    show wpAny (model X.prog X.w) X.A (call (.builtin "sorted") [.ref a] [(Str.ofString "reverse", .bool true)]) _ _ _
    refine pM h64 (fun Q' hQ' => ?_) fun h1 h' tk out ns' k1 k2 pl hi hp ho => ?_
    · rcases ha with ha | ha
      · obtain ⟨its, rv, ⟨o, n, e, c, _, d⟩, hz⟩ := I2.list ha
        have hl := rv.length
        exact wpAny_collect_seq a (.inl rfl) e c d (fun h' kp => hQ' h' s2.toks _ kp (by simpa using gU rv)) (by rw [List.size_toArray, <- hl]; exact hz)
      · obtain ⟨its, rv, ⟨o, e, c, n, d⟩, hz⟩ := I2.tuple ha
        have hl := rv.length
        exact wpAny_collect_seq a (.inr rfl) e c d (fun h' kp => hQ' h' s2.toks _ kp (by simpa using gU rv)) (by rw [List.size_toArray, <- hl]; exact hz)
    · have J1 : Inv X pins σ H2 { s2 with heap := h1, toks := tk } := I2.kept k1
      have hf := J1.hok.fresh (Nat.le_refl _)
      have hl := hp.length_eq
      obtain ⟨n, e⟩ := pl
      have J2 : Inv X pins σ (upd H2 h1.objs.size (.lst (ns'.map V.int))) { s2 with heap := h', toks := tk } :=
        J1.laid (t' := tk) k2 (Nat.le_refl _) (show bO X.prog X.w _ _ _ (.lst _) from ⟨by rw [List.length_map, hl, sizeLine_eq]; omega, out.toList, n, iG hi, by simpa using e⟩)
      exact ⟨.ref h1.objs.size, _, J2, rfl, q _ ns' hf hp ho⟩
  | [], _, q1 => exact q1.elim
  | _ :: _ :: _, _, q1 => exact q1.elim
end
end L2
set_option Elab.async false
set_option linter.all false
set_option maxRecDepth 100000
namespace L2
open PySem PySem.Spec PyProof.Rows
def tab (L : Bool) (ns : List Nat) : SetTable := { mask := 7, place := ns.toArray, dummies := #[], finger := 0, led := L, moves := 0, plain := true }
def bQ (l : List (Nat × Tok)) : Array (Int × Value) := (l.map fun p => ((p.1 : Int), Value.int (p.1 : Int) p.2)).toArray
theorem fs0 : ∀ (L : Bool) (k : Fin 8), (tab L []).freeSlot ((k.val : Nat) : Int) = some (k.val, false) := by decide
theorem fs1 : ∀ (L : Bool) (k j : Fin 8), k ≠ j -> (tab L [k.val]).freeSlot ((j.val : Nat) : Int) = some (j.val, false) := by decide +kernel
theorem pt0 : ∀ (L : Bool) (k : Fin 8), (tab L []).put k.val = (tab L [k.val], 0) := by decide
theorem pt1 : ∀ (L : Bool) (k j : Fin 8), k < j -> (tab L [k.val]).put j.val = (tab L [k.val, j.val], 1) := by decide +kernel
theorem pt2 : ∀ (L : Bool) (k j : Fin 8), j < k -> (tab L [k.val]).put j.val = (tab L [j.val, k.val], 0) := by decide +kernel
theorem aCA : ∀ k : Fin 8, hashInt ((k.val : Nat) : Int) = ((k.val : Nat) : Int) := by decide +kernel
theorem ft1 : ∀ (L : Bool) (k : Fin 8), (tab L [k.val]).fits 1 = true := by decide
theorem ft2 : ∀ (L : Bool) (k j : Fin 8), (tab L [k.val, j.val]).fits 2 = true := by decide +kernel
theorem tf1 : ∀ (L : Bool) (k : Fin 8), (tab L [k.val]).tooFull = false := by decide
theorem tf2 : ∀ (L : Bool) (k j : Fin 8), (tab L [k.val, j.val]).tooFull = false := by decide +kernel
theorem aEg (L : Bool) (k : Nat) (t : Tok) (hk : k < 8) : layNew (tab L []) (bQ []) (k : Int) (.int k t) = (bQ [(k, t)], tab L [k], false, false) := by
  have e := fs0 L ⟨k, hk⟩
  have e2 := pt0 L ⟨k, hk⟩
  have e3 := ft1 L ⟨k, hk⟩
  simp only at e e2 e3
  unfold layNew
  rw [e]
  dsimp only
  rw [e2]
  dsimp only
  have e4 : SetTable.insertAt (bQ []) 0 ((k : Int), Value.int k t) = bQ [(k, t)] := rfl
  rw [e4]
  show (bQ [(k, t)], (tab L [k]).orStandIn 1, false, !(tab L [k]).fits 1) = _
  unfold SetTable.orStandIn
  rw [e3]
  rfl
theorem aEh (L : Bool) (k j : Nat) (t u : Tok) (hk : k < 8) (hj : j < 8) (h : k < j) : layNew (tab L [k]) (bQ [(k, t)]) (j : Int) (.int j u) = (bQ [(k, t), (j, u)], tab L [k, j], false, false) := by
  have e := fs1 L ⟨k, hk⟩ ⟨j, hj⟩ (by intro z; have := Fin.mk.inj z; omega)
  have e2 := pt1 L ⟨k, hk⟩ ⟨j, hj⟩ h
  have e3 := ft2 L ⟨k, hk⟩ ⟨j, hj⟩
  simp only at e e2 e3
  unfold layNew
  rw [e]
  dsimp only
  rw [e2]
  dsimp only
  have e4 : SetTable.insertAt (bQ [(k, t)]) 1 ((j : Int), Value.int j u) = bQ [(k, t), (j, u)] := rfl
  rw [e4]
  show (bQ [(k, t), (j, u)], (tab L [k, j]).orStandIn 2, false, !(tab L [k, j]).fits 2) = _
  unfold SetTable.orStandIn
  rw [e3]
  rfl
theorem aEi (L : Bool) (k j : Nat) (t u : Tok) (hk : k < 8) (hj : j < 8) (h : j < k) : layNew (tab L [k]) (bQ [(k, t)]) (j : Int) (.int j u) = (bQ [(j, u), (k, t)], tab L [j, k], false, false) := by
  have e := fs1 L ⟨k, hk⟩ ⟨j, hj⟩ (by intro z; have := Fin.mk.inj z; omega)
  have e2 := pt2 L ⟨k, hk⟩ ⟨j, hj⟩ h
  have e3 := ft2 L ⟨j, hj⟩ ⟨k, hk⟩
  simp only at e e2 e3
  unfold layNew
  rw [e]
  dsimp only
  rw [e2]
  dsimp only
  have e4 : SetTable.insertAt (bQ [(k, t)]) 0 ((j : Int), Value.int j u) = bQ [(j, u), (k, t)] := rfl
  rw [e4]
  show (bQ [(j, u), (k, t)], (tab L [j, k]).orStandIn 2, false, !(tab L [j, k]).fits 2) = _
  unfold SetTable.orStandIn
  rw [e3]
  rfl
def SX (L : Bool) (h : Heap) (a : Addr) (l : List (Nat × Tok)) : Prop := ∃ o ep, h.get? a = some o /\ o.ExactSet /\ o.data = .set (bQ l) ep (tab L (l.map (·.1)))
section
variable {prog : Program} {w : World} {A : Around} {E : Value -> Shared -> Prop} {s : Shared} {L : Bool} {a : Addr}
theorem wF (prog : Program) (w : World) (l : List (Nat × Tok)) (h8 : ∀ p ∈ l, p.1 < 8) : ElemsOf (intKind prog w) (bQ l).toList := by
  intro e he
  unfold bQ at he
  rw [List.toList_toArray] at he
  obtain ⟨p, hp, rfl⟩ := List.mem_map.mp he
  refine ⟨⟨(p.1 : Int), ?_, ?_⟩, rfl⟩
  · exact intKind_is _ _ _ _
  · exact (aCA ⟨p.1, h8 p hp⟩).symm
theorem aAD {l l' : List (Nat × Tok)} {k : Nat} {t : Tok} {Q : Bool -> Shared -> Prop} (hS : SX L s.heap a l) (h8 : ∀ p ∈ l, p.1 < 8) (hk : k < 8) (hf : (tab L (l.map (·.1))).fits l.length = true) (hlen : l.length <= 1)
    (hnew : (∀ p ∈ l, p.1 ≠ k) -> layNew (tab L (l.map (·.1))) (bQ l) (k : Int) (.int k t) = (bQ l', tab L (l'.map (·.1)), false, false) /\ (tab L (l'.map (·.1))).tooFull = false /\ l'.length <= 2)
    (hQ : ∀ h' b, Heap.SameBut a s.heap h' -> ((∃ p ∈ l, p.1 = k) -> SX L h' a l) -> ((∀ p ∈ l, p.1 ≠ k) -> SX L h' a l') -> Q b { s with heap := h', toks := s.toks + 1 }) :
    wpAny (model prog w) A (setAdd a (.int (k : Int) t)) Q E s := by
  obtain ⟨o, ep, ho, hex, hd⟩ := hS
  unfold setAdd
  refine wpAny_holding (wpAny_bind ((intKind prog w).pyHash (k := (k : Int)) (intKind_is _ _ _ _) ?_))
  have hh : (intKind prog w).hash (k : Int) = (k : Int) := aCA ⟨k, hk⟩
  have hel := wF prog w l h8
  have hsz : (bQ l).size = l.length := by unfold bQ; rw [List.size_toArray, List.length_map]
  have hfit : (tab L (l.map (·.1))).fits (bQ l).size = true := by rw [hsz]; exact hf
  have hscan : byScan (.int (k : Int) t) (bQ l) = true := byScan_of (knd := intKind prog w) rfl (by rw [hsz]; unfold scanBound; omega) hel
  unfold setAddHashed setAddHashedIn
  refine wpAny_holding (wpAny_bind (wpAny_setState_of (s := { s with toks := s.toks + 1 }) ho hd hfit ?_))
  dsimp only
  rw [hscan]
  simp only [↓reduceIte]
  unfold setAddByScan
  refine wpAny_bind ?_
  refine wpAny_bind (wpAny_rule ?_)
  refine wpAny_bind (wpAny_setScan_of (knd := intKind prog w) (k := (k : Int)) (intKind_is _ _ _ _) ho hd hfit hel ?_)
  cases hr : List.findIdx? (fun e => (intKind prog w).is (k : Int) e.2) (bQ l).toList with
  | some j =>
    dsimp only
    obtain ⟨hj, hpj, _⟩ := List.findIdx?_eq_some_iff_getElem.mp hr
    have hthere : ∃ p ∈ l, p.1 = k := by
      have el : (bQ l).toList = l.map fun p => ((p.1 : Int), Value.int (p.1 : Int) p.2) := by unfold bQ; rw [List.toList_toArray]
      have hm : (bQ l).toList[j] ∈ l.map fun p => ((p.1 : Int), Value.int (p.1 : Int) p.2) := by rw [<- el]; exact List.getElem_mem hj
      obtain ⟨p, hp, e⟩ := List.mem_map.mp hm
      refine ⟨p, hp, ?_⟩
      rw [<- e] at hpj
      obtain ⟨t', e2⟩ := Value.isInt_shape (show Value.isInt (k : Int) (Value.int (p.1 : Int) p.2) = true from hpj)
      have e3 : (p.1 : Int) = (k : Int) := by injection e2
      exact Int.ofNat.inj e3
    refine wpAny_pure (wpAny_pure ?_)
    exact hQ s.heap false (Heap.SameBut.refl a s.heap) (fun _ => ⟨o, ep, ho, hex, hd⟩) fun hn => by
      obtain ⟨p, hp, e⟩ := hthere
      exact absurd e (hn p hp)
  | none =>
    dsimp only
    have hno : ∀ p ∈ l, p.1 ≠ k := fun p hp e => by
      have := List.findIdx?_eq_none_iff.mp hr ((p.1 : Int), Value.int (p.1 : Int) p.2) (by unfold bQ; rw [List.toList_toArray]; exact List.mem_map.mpr ⟨p, hp, rfl⟩)
      rw [e] at this
      have h2 : (intKind prog w).is (k : Int) (Value.int (k : Int) p.2) = true := intKind_is _ _ _ _
      simp only at this
      rw [h2] at this
      cases this
    obtain ⟨e1, e2, e3⟩ := hnew hno
    rw [hh, e1]
    dsimp only
    refine wpAny_bind (wpAny_pure ?_)
    rw [if_pos (show (tab L (l'.map (·.1))).plain = true from rfl), hashByValue_scannable 8 (x := .int (k : Int) t) rfl]
    refine wpAny_bind (wpAny_pure ?_)
    rw [if_pos (show plainKind (.int (k : Int) t) = true from rfl)]
    have hsz' : (bQ l').size = l'.length := by unfold bQ; rw [List.size_toArray, List.length_map]
    refine wpAny_bind (wpAny_storeSet_of (s := { s with toks := s.toks + 1 }) ho hd ?_ (by rw [hsz', sizeLine_eq]; omega))
    rw [e2]
    simp only [Bool.not_false, Bool.and_false, Bool.false_eq_true, if_false]
    refine wpAny_pure (wpAny_pure ?_)
    refine hQ (s.heap.update a (Obj.putSet (bQ l') (tab L (l'.map (·.1))))) true (Heap.SameBut.update _ _ _) (fun ⟨p, hp, e⟩ => absurd e (hno p hp)) fun _ => ⟨{ o with data := .set (bQ l') (ep + 1) (tab L (l'.map (·.1))) }, ep + 1, ?_, hex, rfl⟩
    have := Heap.get?_update_self (Obj.putSet (bQ l') (tab L (l'.map (·.1)))) ho (by rw [putSet_of _ _ hd]; rfl)
    rw [putSet_of _ _ hd] at this
    exact this
end
end L2
set_option Elab.async false
set_option linter.all false
set_option maxRecDepth 100000
namespace L2
open PySem PySem.Spec PyProof.Rows
section
variable {prog : Program} {w : World} {A : Around} {E : Value -> Shared -> Prop} {s : Shared}
abbrev Led (w : World) : Bool := !(w.params.followText "set-order")
theorem jE (a : Value) {Q₁ : Value -> Shared -> Prop}
    (h : Q₁ (.ref s.heap.objs.size) { s with heap := s.heap.push { cls := .type "set", dict := none, data := .set #[] 0 (.fresh 0 0 (Led w)) } }) :
    codeAny (model prog w) A (.call (.builtin "set.__new__") ⟨[.type "set", a], []⟩) (wants Q₁ E) s := by
  refine codeAny_of_tree ?_
  show wpAny _ A.in1 (do checkBuiltinCall "set.__new__" ⟨[.type "set", a], []⟩; again (.builtin "set.__new__" ⟨[.type "set", a], []⟩)) _ _ s
  refine wpAny_bind (wpAny_of_eq (PySem.F.newCall_set_1 a) (wpAny_pure ⟨plainId_quiet PySem.F.plain_set_new _, codeAny_builtin PySem.F.entry_set_new ?_⟩))
  rw [Around.under_plainId PySem.F.plain_set_new _]
  unfold Builtin.«set.__new__» Builtin.Frozenset.newClass
  have hsub := sub_set_self
  obtain ⟨hp, g, d, tk, os⟩ := s
  dsimp only
  wp_walk
  refine wpAny_askSetting (wpAny_pure ?_)
  dsimp only
  simp only [newObj]
  refine wpAny_bind (wpAny_alloc (wpAny_pure ?_))
  exact wpAny_pure h
theorem nX {I S : Addr} {fp wr : List Addr} {n i : Nat} {P : Nat -> Value -> Prop} {St : Nat -> Heap -> Prop} {R : Result -> Shared -> Prop} (W : Walks prog w A.in1 I fp wr n P St) (hi : i < n) (st : St i s.heap)
    (h : ∀ v h' tk, P i v -> St (i + 1) h' -> (∀ b o, b ∉ wr -> s.heap.get? b = some o -> h'.get? b = some o) ->
      wpAny (model prog w) A.in1 (setAdd S v) (fun _ s2 => codeAny (model prog w) A (.builtin "set.update.loop" ⟨[.ref S, .ref I], []⟩) R s2) (fun e s' => R (.error e) s') { s with heap := h', toks := tk }) :
    codeAny (model prog w) A (.builtin "set.update.loop" ⟨[.ref S, .ref I], []⟩) R s := by
  refine codeAny_builtin PyProof.Rows.F.entry_set_update_loop ?_
  rw [Around.under_plainId PyProof.Rows.F.plain_set_update_loop _]
  show wpAny _ A.in1 (pyNext (.ref I) >>= _) _ _ s
  refine wpAny_bind (W.item i s _ _ hi st fun v h' tk hP hst' hk => ?_)
  show wpAny _ A.in1 (holding [v] (setAdd S v) >>= _) _ _ _
  refine wpAny_bind (wpAny_holding (wpAny_mono (h v h' tk hP hst' hk) (fun _ s2 q => ?_) fun _ _ e => e))
  exact wpAny_pure ⟨plainId_quiet PyProof.Rows.F.plain_set_update_loop _, q⟩
theorem tX {I S : Addr} {fp wr : List Addr} {n : Nat} {P : Nat -> Value -> Prop} {St : Nat -> Heap -> Prop} {R : Result -> Shared -> Prop} (W : Walks prog w A.in1 I fp wr n P St) (st : St n s.heap)
    (h : ∀ h' tk, (∀ b o, b ∉ wr -> s.heap.get? b = some o -> h'.get? b = some o) -> R (.ok (.ret .none)) { s with heap := h', toks := tk }) :
    codeAny (model prog w) A (.builtin "set.update.loop" ⟨[.ref S, .ref I], []⟩) R s := by
  refine codeAny_builtin PyProof.Rows.F.entry_set_update_loop ?_
  rw [Around.under_plainId PyProof.Rows.F.plain_set_update_loop _]
  show wpAny _ A.in1 (pyNext (.ref I) >>= _) _ _ s
  refine wpAny_bind (W.done s _ _ st fun h' tk hk => ?_)
  show wpAny _ A.in1 (ret Value.none) _ _ _
  exact wpAny_pure (h h' tk hk)
def two (a b : Nat) (t u : Tok) : List (Nat × Tok) := if a = b then [(a, t)] else if a < b then [(a, t), (b, u)] else [(b, u), (a, t)]
theorem SX.keep {L : Bool} {h h' : Heap} {a : Addr} {l : List (Nat × Tok)} (x : SX L h a l) (k : ∀ o, h.get? a = some o -> h'.get? a = some o) : SX L h' a l := by
  obtain ⟨o, ep, e, r⟩ := x
  exact ⟨o, ep, k o e, r⟩
set_option maxHeartbeats 3200000 in
theorem sB {l : Addr} {a b : Nat} {t u : Tok} {Q : Value -> Shared -> Prop} (hh : A.handled = none) (hl : s.heap.IsList l #[.int (a : Int) t, .int (b : Int) u]) (ha : a < 8) (hb : b < 8)
    (h : ∀ (h' : Heap) (tk : Nat), SX (Led w) h' s.heap.objs.size (two a b t u) -> (∀ b o, b < s.heap.objs.size -> s.heap.get? b = some o -> h'.get? b = some o) -> Q (.ref s.heap.objs.size) { s with heap := h', toks := tk }) :
    wpAny (model prog w) A (call (.type "set") [.ref l]) Q E s := by
  obtain ⟨c, tl, hmro⟩ := PySem.F.called_set.mro
  have hmade := PySem.F.called_set.made
  have hsub := PySem.F.called_set.sub
  refine wpAny_call (codeAny_of_tree ?_)
  show wpAny _ _ (callAny (.type "set") _) _ _ _
  refine wpAny_pure ⟨Code.quiet_builtin _ (by decide +kernel), codeAny_builtin PySem.F.entry_type_call ?_⟩
  rw [Around.under_plain (weight_type_call_type "set" [.ref l] []) rfl]
  have h1 := PySem.F.called_set.notType
  have h2 := PySem.F.called_set.canCreate
  have hct := PySem.F.typeCall_set_1 (.ref l)
  repeat (any_goals (first | assumption | wp_step))
  refine codeAny_mono (jE (.ref l) (E := E) (Q₁ := fun obj s₁ => obj = .ref s.heap.objs.size /\ s₁ = { s with heap := s.heap.push { cls := .type "set", dict := none, data := .set #[] 0 (.fresh 0 0 (Led w)) } }) ⟨rfl, rfl⟩) fun r s₁ hr => ?_
  cases r with
  | error e => exact hr
  | ok fl =>
    cases fl with
    | ret obj =>
      obtain ⟨rfl, rfl⟩ := hr
      generalize hled : Led w = led at h ⊢
      have hS : (s.heap.push { cls := .type "set", dict := none, data := .set #[] 0 (.fresh 0 0 led) }).get? s.heap.objs.size = some { cls := .type "set", dict := none, data := .set #[] 0 (.fresh 0 0 led) } := Heap.get?_push_size _ rfl
      have hT : Shared.TypeIs { s with heap := s.heap.push { cls := .type "set", dict := none, data := .set #[] 0 (.fresh 0 0 led) } } (.ref s.heap.objs.size) "set" := ⟨_, hS, rfl⟩
      have hli := PySem.F.called_set.init.lookup
      have hbi := PySem.F.called_set.init.bind (.ref s.heap.objs.size)
      repeat (any_goals (first | assumption | wp_step))
      refine codeAny_mono (codeAny_call_builtin (R := wants (fun r s₂ => r = .none /\ ∃ h' tk, s₂ = { s with heap := h', toks := tk } /\ SX led h' s.heap.objs.size (two a b t u) /\
          (∀ b o, b < s.heap.objs.size -> s.heap.get? b = some o -> h'.get? b = some o)) E) PySem.F.called_set.init.plain PySem.F.entry_set_init (check_set_init_1 hT ?_)) fun r₂ s₂ hr₂ => ?_
      · obtain ⟨ol, hol, hcl, nl, hdl⟩ := hl
        obtain ⟨ocls, odict, odata, oslots⟩ := ol
        simp only at hcl hdl
        subst hcl; subst hdl
        have hol' : (s.heap.push { cls := .type "set", dict := none, data := .set #[] 0 (.fresh 0 0 led) }).get? l = some { cls := .type "list", dict := odict, data := .seq #[.int (a : Int) t, .int (b : Int) u] nl, slots := oslots } := Heap.get?_push_of_some _ hol
        have hsls := PySem.F.sub_list_set
        have hslf := PySem.F.sub_list_frozenset
        have hne : (Value.type "list" == Value.type "dict") = false := by decide
        have hl1 : (s.heap.push { cls := .type "set", dict := none, data := .set #[] 0 (.fresh 0 0 led) }).IsList l #[.int (a : Int) t, .int (b : Int) u] := ⟨_, hol', rfl, nl, rfl⟩
        unfold Builtin.«set.__init__» noKeywords Builtin.Frozenset.updateFrom
        generalize hPI : pyIter = PI
        wp_walk
        subst hPI
        refine wpAny_pyIter_list hl1 ?_
        refine wpAny_bind (wpAny_runValue ?_)
        have hlS : l < s.heap.objs.size := Heap.lt_size hol
        have hh3 : A.in1.in1.in1.handled = none := by simp [hh]
        generalize hH1 : s.heap.push { cls := .type "set", dict := none, data := .set #[] 0 (.fresh 0 0 led) } = H1 at *
        have szH1 : H1.objs.size = s.heap.objs.size + 1 := by rw [<- hH1, Heap.size_push]
        have hneI : l ≠ H1.objs.size := by rw [szH1]; exact Nat.ne_of_lt (Nat.lt_succ_of_lt hlS)
        have W := Walks.list (prog := prog) (w := w) hh3 H1.objs.size l hneI #[.int (a : Int) t, .int (b : Int) u]
        generalize hS0 : s.heap.objs.size = S at *
        have SI : S ≠ H1.objs.size := by omega
        have SXk : ∀ {h h' : Heap} {ll : List (Nat × Tok)}, SX led h S ll -> (∀ b o, b ∉ [H1.objs.size] -> h.get? b = some o -> h'.get? b = some o) -> SX led h' S ll := fun x k => x.keep fun o e => k S o (by simpa using SI) e
        have x0 : SX led (H1.push { cls := .type "list_iterator", data := .fields #[.ref l, .int 0 0] }) S [] := ⟨_, 0, Heap.get?_push_of_some _ hS, ⟨rfl, rfl, rfl⟩, rfl⟩
        have lS : l ≠ S := Nat.ne_of_lt hlS
        refine nX W (i := 0) (by show 0 < 2; decide) ⟨⟨_, Heap.get?_push_size _ rfl, rfl, rfl⟩, hl1.push _⟩ fun v h2 tk2 hv2 st2 k2 => ?_
        have hv2' : v = .int (a : Int) t := (Option.some.inj (show some (Value.int (a : Int) t) = some v from hv2)).symm
        subst hv2'
        refine aAD (l := []) (l' := [(a, t)]) (SXk x0 k2) (fun p hp => by cases hp) ha rfl (by decide) (fun _ => ⟨aEg led a t ha, tf1 led ⟨a, ha⟩, by show 1 <= 2; decide⟩) fun h3 _ sb3 _ x3 => ?_
        have x3' := x3 fun p hp => by cases hp
        have st3 : h3.IsListIter H1.objs.size l 1 /\ h3.IsList l #[.int (a : Int) t, .int (b : Int) u] := W.frame _ _ _ st2 fun c hc o e => (sb3.2 c (by
          rcases List.mem_cons.mp hc with z | z
          · rw [z]; exact Ne.symm SI
          · have z' : c = l := by simpa using z
            rw [z']; exact lS)).trans e
        refine nX W (i := 1) (by show 1 < 2; decide) st3 fun v h4 tk4 hv4 st4 k4 => ?_
        have hv4' : v = .int (b : Int) u := (Option.some.inj (show some (Value.int (b : Int) u) = some v from hv4)).symm
        subst hv4'
        refine aAD (l := [(a, t)]) (l' := if a < b then [(a, t), (b, u)] else [(b, u), (a, t)]) (SXk x3' k4) (fun p hp => by rw [List.mem_singleton.mp hp]; exact ha) hb (ft1 led ⟨a, ha⟩) (by show 1 <= 1; decide) (fun hn => ?_) fun h5 _ sb5 xo xn => ?_
        · have hab : a ≠ b := hn (a, t) List.mem_cons_self
          by_cases hlt : a < b
          · rw [if_pos hlt]; exact ⟨aEh led a b t u ha hb hlt, tf2 led ⟨a, ha⟩ ⟨b, hb⟩, by simp⟩
          · rw [if_neg hlt]; exact ⟨aEi led a b t u ha hb (by omega), tf2 led ⟨b, hb⟩ ⟨a, ha⟩, by simp⟩
        · have x5 : SX led h5 S (two a b t u) := by
            unfold two
            by_cases hab : a = b
            · rw [if_pos hab]; exact xo ⟨(a, t), List.mem_cons_self, hab⟩
            · rw [if_neg hab]; exact xn fun p hp => by rw [List.mem_singleton.mp hp]; exact hab
          have st5 : h5.IsListIter H1.objs.size l 2 /\ h5.IsList l #[.int (a : Int) t, .int (b : Int) u] := W.frame _ _ _ st4 fun c hc o e => (sb5.2 c (by
            rcases List.mem_cons.mp hc with z | z
            · rw [z]; exact Ne.symm SI
            · have z' : c = l := by simpa using z
              rw [z']; exact lS)).trans e
          refine tX W st5 fun h6 tk6 k6 => ?_
          show wpAny _ _ _ _ _ _
          refine wpAny_pure ?_
          show wpAny _ _ (ret Value.none) _ _ _
          refine wpAny_pure ⟨rfl, h6, tk6, rfl, SXk x5 k6, fun c o hc e => ?_⟩
          have c1 : c ≠ S := Nat.ne_of_lt hc
          have c2 : c ∉ [H1.objs.size] := by
            intro z
            have z' : c = H1.objs.size := by simpa using z
            omega
          exact k6 c o c2 ((sb5.2 c c1).trans (k4 c o c2 ((sb3.2 c c1).trans (k2 c o c2 (Heap.get?_push_of_some _ (hH1 ▸ Heap.get?_push_of_some _ e))))))
      · cases r₂ with
        | error e => exact hr₂
        | ok fl₂ =>
          cases fl₂ with
          | ret r =>
            obtain ⟨rfl, h', tk, rfl, hS', hk'⟩ := hr₂
            repeat (any_goals (first | assumption | wp_step))
            exact h _ _ hS' hk'
          | _ => exact hr₂.elim
    | _ => exact hr.elim
end
end L2
set_option Elab.async false
set_option linter.all false
set_option maxRecDepth 100000
namespace L2
open PySem PySem.Spec PyProof.Rows
theorem bI : Slot "set_iterator" "__next__" "set_iterator.__next__" :=
  .of (owner := "set_iterator") (n := "__next__") (by rw [typeLookup_type, builtinLookup_eq_fast]; kernel_rfl) (by decide +kernel) (by decide +kernel) (by decide +kernel)
    (by first | exact .inl (by decide +kernel) | exact .inr (by decide +kernel)) (by rw [isSubtype_type]; kernel_rfl)
theorem eS : entryFor table "set_iterator.__next__" = some Builtin.«set_iterator.__next__» := entryFor_of_tree (by kernel_rfl)
theorem eK (a : Value) : argsOk "set_iterator.__next__" ⟨[a], []⟩ := by
  unfold argsOk; kernel_rfl
theorem eZ : Slot "set_iterator" "__iter__" "set_iterator.__iter__" :=
  .of (owner := "set_iterator") (n := "__iter__") (by rw [typeLookup_type, builtinLookup_eq_fast]; kernel_rfl) (by decide +kernel) (by decide +kernel) (by decide +kernel)
    (by first | exact .inl (by decide +kernel) | exact .inr (by decide +kernel)) (by rw [isSubtype_type]; kernel_rfl)
theorem iJ : entryFor table "set_iterator.__iter__" = some Builtin.«dict_keyiterator.__iter__» :=
  entryFor_alias (id' := "dict_keyiterator.__iter__") (by kernel_rfl) rfl (by decide +kernel) (by kernel_rfl)
theorem iB (a : Value) : argsOk "set_iterator.__iter__" ⟨[a], []⟩ := by
  unfold argsOk; kernel_rfl
theorem nY : entryFor table "set.__iter__" = some Builtin.«frozenset.__iter__» :=
  entryFor_alias (id' := "frozenset.__iter__") (by kernel_rfl) rfl (by decide +kernel) (by kernel_rfl)
def Okl (l : List (Nat × Tok)) : Prop := (∃ p, l = [p] /\ p.1 < 8) ∨ ∃ p q, l = [p, q] /\ p.1 < q.1 /\ q.1 < 8
def mT (ns : List Nat) (i : Nat) : Nat := if i = 0 then 0 else (ns[i - 1]?).getD 0 + 1
theorem bl1 : ∀ (k : Fin 8) (i : Fin 2), SetTable.below #[k.val] (mT [k.val] i.val) = i.val := by decide +kernel
theorem bl2 : ∀ (k j : Fin 8) (i : Fin 3), k < j -> SetTable.below #[k.val, j.val] (mT [k.val, j.val] i.val) = i.val := by decide +kernel
theorem aAE {l : List (Nat × Tok)} (h : Okl l) (i : Nat) (hi : i <= l.length) : SetTable.below (l.map (·.1)).toArray (mT (l.map (·.1)) i) = i := by
  rcases h with ⟨p, rfl, h8⟩ | ⟨p, q, rfl, h1, h8⟩
  · exact bl1 ⟨p.1, h8⟩ ⟨i, by simp at hi; omega⟩
  · exact bl2 ⟨p.1, by omega⟩ ⟨q.1, h8⟩ ⟨i, by simp at hi; omega⟩ h1
theorem Okl.fits {L : Bool} {l : List (Nat × Tok)} (h : Okl l) : (tab L (l.map (·.1))).fits (bQ l).size = true := by
  rcases h with ⟨p, rfl, h8⟩ | ⟨p, q, rfl, h1, h8⟩
  · exact ft1 L ⟨p.1, h8⟩
  · exact ft2 L ⟨p.1, by omega⟩ ⟨q.1, h8⟩
theorem aC4 {a b : Nat} {t u : Tok} (ha : a < 8) (hb : b < 8) : Okl (two a b t u) := by
  unfold two
  by_cases h : a = b
  · rw [if_pos h]; exact .inl ⟨_, rfl, ha⟩
  · rw [if_neg h]
    by_cases h2 : a < b
    · rw [if_pos h2]; exact .inr ⟨_, _, rfl, h2, hb⟩
    · rw [if_neg h2]; exact .inr ⟨_, _, rfl, by show b < a; omega, ha⟩
def kA (w : World) (S : Addr) (ep : Nat) (l : List (Nat × Tok)) : Array (Int × Value) := if w.params.followText "set-order" then pickOrder (w.params.setOrder S ep) (bQ l) else bQ l
def gK (w : World) (l : List (Nat × Tok)) (i : Nat) : Nat := if w.params.followText "set-order" then 0 else mT (l.map (·.1)) i
section
variable {prog : Program} {w : World} {A : Around} {E : Value -> Shared -> Prop} {s : Shared} {S : Addr} {o : Obj} {ep : Nat} {l : List (Nat × Tok)}
theorem mD {Q : Bool -> Shared -> Prop} (h : Q (w.params.followText "set-order") s) : wpAny (model prog w) A setsByText Q E s := wpAny_bind (wpAny_askSetting (wpAny_pure h))
theorem nZ {i : Nat} {Q : Option (Value × Nat) -> Shared -> Prop} (hl : Okl l) (ho : s.heap.get? S = some o) (hd : o.data = .set (bQ l) ep (tab (Led w) (l.map (·.1)))) (hi : i <= l.length)
    (h : Q (((kA w S ep l)[i]?).map fun e => (e.2, gK w l (i + 1))) s) : wpAny (model prog w) A (setNext S (gK w l i) i ep) Q E s := by
  unfold setNext
  refine wpAny_bind (wpAny_setState_of ho hd hl.fits ?_)
  dsimp only
  refine wpAny_bind (mD ?_)
  cases hb : w.params.followText "set-order" with
  | true =>
    have e1 : kA w S ep l = pickOrder (w.params.setOrder S ep) (bQ l) := by unfold kA; rw [hb]; rfl
    have e2 : ∀ i, gK w l i = 0 := fun i => by unfold gK; rw [hb]; rfl
    rw [e1, e2] at h
    rw [e2]
    simp only [if_true, bne_self_eq_false, Bool.false_eq_true, if_false]
    refine wpAny_bind ?_
    unfold setWalk
    refine wpAny_bind (wpAny_setState_of ho hd hl.fits ?_)
    dsimp only
    refine wpAny_bind (mD ?_)
    rw [hb]
    simp only [if_true]
    refine wpAny_bind (wpAny_askSetting (wpAny_pure (wpAny_pure h)))
  | false =>
    have e1 : kA w S ep l = bQ l := by unfold kA; rw [hb]; rfl
    have e2 : ∀ i, gK w l i = mT (l.map (·.1)) i := fun i => by unfold gK; rw [hb]; rfl
    have eL : Led w = true := by unfold Led; rw [hb]; rfl
    rw [e1, e2] at h
    rw [e2, eL]
    simp only [Bool.false_eq_true, if_false]
    have hp : (tab true (l.map (·.1))).place = (l.map (·.1)).toArray := rfl
    have hbl := aAE hl i hi
    refine wpAny_ite_split (fun hab => absurd (show false = true from hab) Bool.false_ne_true) (fun _ => ?_)
    refine wpAny_bind (m := pure ()) (wpAny_pure (wpAny_pure ?_))
    rw [hp, hbl]
    have e3 : (bQ l)[i]? = (l[i]?).map fun p => ((p.1 : Int), Value.int (p.1 : Int) p.2) := by unfold bQ; simp
    have e4 : (l.map (·.1)).toArray[i]? = (l[i]?).map (·.1) := by simp
    rw [e3] at h
    rw [e3, e4]
    cases hli : l[i]? with
    | none => rw [hli] at h; exact h
    | some p =>
      rw [hli] at h
      have e5 : mT (l.map (·.1)) (i + 1) = p.1 + 1 := by
        unfold mT
        rw [if_neg (by omega), Nat.add_sub_cancel, List.getElem?_map, hli]
        rfl
      rw [e5] at h
      exact h
def nE (w : World) (h : Heap) (I S : Addr) (l : List (Nat × Tok)) (ep i : Nat) : Prop :=
  h.get? I = some { cls := .type "set_iterator", data := .fields #[rawInt (gK w l i : Nat), rawInt (i : Nat), .ref S, rawInt (l.length : Nat), rawInt (ep : Nat)] }
theorem aAF (hh : A.handled = none) (I S : Addr) (hne : S ≠ I) (o : Obj) (ep : Nat) (l : List (Nat × Tok)) (hl : Okl l) (hd : o.data = .set (bQ l) ep (tab (Led w) (l.map (·.1)))) (hsz : (kA w S ep l).size = l.length) :
    Walks prog w A I [I, S] [I] l.length (fun i v => ∃ k, (kA w S ep l)[i]? = some (k, v)) (fun i h => nE w h I S l ep i /\ h.get? S = some o) where
  sub := fun b hb => by simp at hb; simp [hb]
  frame := fun _ _ _ st hk => ⟨hk I (by simp) _ st.1, hk S (by simp) _ st.2⟩
  item := fun i s Q E hi st hQ => by
    obtain ⟨hit, hS⟩ := st
    have hT : s.TypeIs (.ref I) "set_iterator" := ⟨_, hit, rfl⟩
    unfold pyNext
    refine wpAny_bind (wpAny_attempt (wpAny_callSpecial?_slot (name := Str.ofString "__next__") hT bI
      (wpAny_call_entry bI hT eS ?_ (eK _))))
    unfold Builtin.«set_iterator.__next__» slotArgs
    simp only [List.isEmpty_nil, Bool.not_true, Bool.false_eq_true, ↓reduceIte, List.length_nil, bne_self_eq_false]
    refine wpAny_bind (wpAny_pure ?_)
    dsimp only
    refine wpAny_bind (wpAny_fieldsOf hit rfl ?_)
    show wpAny _ _ (setEntries S >>= _) _ _ s
    have hsz' : (bQ l).size = l.length := by unfold bQ; rw [List.size_toArray, List.length_map]
    refine wpAny_bind (wpAny_bind (wpAny_setState_of hS hd hl.fits (wpAny_pure ?_)))
    dsimp only
    refine wpAny_ite_split (fun hab => absurd hab (by rw [hsz']; simp)) (fun _ => ?_)
    show wpAny _ _ (setNext S (gK w l i : Int).toNat (i : Int).toNat (ep : Int).toNat >>= _) _ _ s
    rw [Int.toNat_natCast, Int.toNat_natCast, Int.toNat_natCast]
    refine wpAny_bind (nZ hl hS hd (by omega) ?_)
    obtain ⟨⟨k, v⟩, hkv⟩ : ∃ e, (kA w S ep l)[i]? = some e := ⟨_, Array.getElem?_eq_getElem (by rw [hsz]; exact hi)⟩
    rw [hkv]
    show wpAny _ _ (setField (Value.ref I) 0 (rawInt ↑(gK w l (i + 1))) >>= _) _ _ s
    refine wpAny_bind (wpAny_setField_rec hit (by show 0 < 5; decide) fun h1 g1 sb1 => ?_)
    refine wpAny_bind (wpAny_setField_rec g1 (by show 1 < 5; decide) fun h2 g2 sb2 => ?_)
    refine wpAny_pure ⟨v, rfl, wpAny_pure ?_⟩
    refine hQ v h2 s.toks ⟨k, hkv⟩ ⟨?_, (sb2.2 S hne).trans ((sb1.2 S hne).trans hS)⟩ fun b ob hb e => ?_
    · unfold nE
      rw [g2]
      congr 1
    · have hb' : b ≠ I := by simpa using hb
      exact (sb2.2 b hb').trans ((sb1.2 b hb').trans e)
  done := fun s Q E st hQ => by
    obtain ⟨hit, hS⟩ := st
    have hT : s.TypeIs (.ref I) "set_iterator" := ⟨_, hit, rfl⟩
    unfold pyNext
    refine wpAny_bind (wpAny_attempt (wpAny_callSpecial?_slot (name := Str.ofString "__next__") hT bI
      (wpAny_call_entry bI hT eS ?_ (eK _))))
    unfold Builtin.«set_iterator.__next__» slotArgs
    simp only [List.isEmpty_nil, Bool.not_true, Bool.false_eq_true, ↓reduceIte, List.length_nil, bne_self_eq_false]
    refine wpAny_bind (wpAny_pure ?_)
    dsimp only
    refine wpAny_bind (wpAny_fieldsOf hit rfl ?_)
    show wpAny _ _ (setEntries S >>= _) _ _ s
    have hsz' : (bQ l).size = l.length := by unfold bQ; rw [List.size_toArray, List.length_map]
    refine wpAny_bind (wpAny_bind (wpAny_setState_of hS hd hl.fits (wpAny_pure ?_)))
    dsimp only
    refine wpAny_ite_split (fun hab => absurd hab (by rw [hsz']; simp)) (fun _ => ?_)
    show wpAny _ _ (setNext S (gK w l l.length : Int).toNat (l.length : Int).toNat (ep : Int).toNat >>= _) _ _ s
    rw [Int.toNat_natCast, Int.toNat_natCast, Int.toNat_natCast]
    refine wpAny_bind (nZ hl hS hd (Nat.le_refl _) ?_)
    have hkv : (kA w S ep l)[l.length]? = none := by rw [Array.getElem?_eq_none]; omega
    rw [hkv]
    show wpAny _ _ (setField (Value.ref I) 2 Value.none >>= _) _ _ s
    refine wpAny_bind (wpAny_setField_rec hit (by show 2 < 5; decide) fun h1 g1 sb1 => ?_)
    show wpAny _ _ (newExc (.type "StopIteration") [] >>= _) _ _ _
    refine wpAny_bind ?_
    simp only [newExc, newTuple]
    refine wpAny_bind (wpAny_newObj_type ?_ (by size_fits))
    refine wpAny_bind (m := firstArgMember _ _) (wpAny_of_eq (a := Value.none) (by first | rfl | (simp only [firstArgMember]; rfl)) ?_)
    refine wpAny_newObj_type ?_ (by size_fits)
    simp only [raiseNew]
    refine wpAny_bind (wpAny_handled ?_)
    first | rw [show A.in1.handled = none from hh] | rw [hh]
    refine wpAny_bind (wpAny_pure (wpAny_throw ?_))
    refine wpAny_bind (wpAny_isInstance (T := "StopIteration") (b := true) ⟨_, Heap.get?_push_size _ rfl, rfl⟩ isSubtype_stop ?_)
    refine wpAny_pure (hQ _ s.toks fun b ob hb e => ?_)
    have hb' : b ≠ I := by simpa using hb
    exact Heap.get?_push_of_some _ (Heap.get?_push_of_some _ ((sb1.2 b hb').trans e))
  self := fun i s Q E st h => by
    obtain ⟨hit, hS⟩ := st
    have hT : s.TypeIs (.ref I) "set_iterator" := ⟨_, hit, rfl⟩
    refine wpAny_pyIter_slot hT eZ (wpAny_call_entry eZ hT iJ ?_ (iB _))
    show wpAny _ _ (ret (.ref I)) _ _ s
    exact wpAny_pure ⟨_, rfl, "set_iterator", _, hT, bI.lookup, h⟩
end
end L2
set_option Elab.async false
set_option linter.all false
set_option maxRecDepth 100000
namespace L2
open PySem PySem.Spec PyProof.Rows
section
variable {prog : Program} {w : World} {A : Around} {E : Value -> Shared -> Prop} {s : Shared} {S : Addr} {o : Obj} {ep : Nat} {l : List (Nat × Tok)}
theorem wG {Q : Value -> Shared -> Prop} (hl : Okl l) (ho : s.heap.get? S = some o) (hex : o.ExactSet) (hd : o.data = .set (bQ l) ep (tab (Led w) (l.map (·.1))))
    (h : Q (.ref s.heap.objs.size) { s with heap := s.heap.push { cls := .type "set_iterator", data := .fields #[rawInt (gK w l 0 : Nat), rawInt ((0 : Nat) : Int), .ref S, rawInt (l.length : Nat), rawInt (ep : Nat)] } }) : wpAny (model prog w) A (pyIter (.ref S)) Q E s := by
  have hT : s.TypeIs (.ref S) "set" := ⟨o, ho, hex.1⟩
  refine wpAny_pyIter_slot hT PySem.F.slot_set_iter (wpAny_call_entry PySem.F.slot_set_iter hT nY ?_ (PySem.F.args_set_iter_1 _))
  unfold Builtin.«frozenset.__iter__» Builtin.Frozenset.slot0 slotArgs
  simp only [List.isEmpty_nil, Bool.not_true, Bool.false_eq_true, ↓reduceIte, bind_assoc, List.length_nil, bne_self_eq_false]
  refine wpAny_bind (wpAny_pure ?_)
  dsimp only
  refine wpAny_bind (m := Builtin.Frozenset.addrOf (.ref S)) (wpAny_pure ?_)
  unfold Builtin.Frozenset.sizeOf setEntries
  refine wpAny_bind (wpAny_bind (wpAny_bind (wpAny_setState_of ho hd hl.fits (wpAny_pure (wpAny_pure ?_)))))
  dsimp only
  unfold setDrawn
  refine wpAny_bind (wpAny_bind (wpAny_setState_of ho hd hl.fits (wpAny_bind (mD (wpAny_pure ?_)))))
  have hb : ∀ b : Bool, (!b && false) = false := by decide
  refine wpAny_ite_split (fun hab => absurd (show (!(w.params.followText "set-order") && false) = true from hab) (by rw [hb]; decide)) (fun _ => ?_)
  refine wpAny_bind (wpAny_pure ?_)
  unfold setEpoch
  refine wpAny_bind (wpAny_bind (wpAny_setState_of ho hd hl.fits (wpAny_pure ?_)))
  dsimp only
  have hsz' : (bQ l).size = l.length := by unfold bQ; rw [List.size_toArray, List.length_map]
  have e0 : gK w l 0 = 0 := by unfold gK mT; split <;> rfl
  refine wpAny_bind (wpAny_newObj_type (wpAny_pure ⟨_, rfl, "set_iterator", _, ⟨_, Heap.get?_push_size _ rfl, rfl⟩, bI.lookup, ?_⟩))
  rw [e0] at h
  rw [hsz']
  exact h
theorem aAG {Q : Bool -> Shared -> Prop} (hl : Okl l) (ho : s.heap.get? S = some o) (hex : o.ExactSet) (hd : o.data = .set (bQ l) ep (tab (Led w) (l.map (·.1))))
    (h : ∀ b, Q b s) : wpAny (model prog w) A (Builtin.List.listLengthHint (.ref S)) Q E s := by
  have hT : s.TypeIs (.ref S) "set" := ⟨o, ho, hex.1⟩
  have hsz' : (bQ l).size = l.length := by unfold bQ; rw [List.size_toArray, List.length_map]
  have hlen : l.length <= 2 := by rcases hl with ⟨p, rfl, _⟩ | ⟨p, q, rfl, _⟩ <;> simp
  unfold Builtin.List.listLengthHint
  refine wpAny_bind (wpAny_specialOf hT PySem.F.slot_set_len.lookup ?_)
  generalize hid : ("set.__len__" : String) = id0
  wp_delta
  rw [show splitId id0 = some ("set", "__len__") from by subst hid; decide +kernel]
  subst hid
  refine wpAny_bind (wpAny_isInstance (T := "set") (b := true) hT (by rw [isSubtype_type]; kernel_rfl) ?_)
  refine wpAny_ite_split (fun hab => absurd hab (by decide)) (fun _ => ?_)
  refine wpAny_ite_split (fun _ => ?_) (fun hab => absurd (by decide +kernel) hab)
  refine wpAny_bind (wpAny_typeOf hT ?_)
  exact wpAny_pure (h false)
theorem tY {Q : List Value -> Shared -> Prop} (hh : A.handled = none) (hl : Okl l) (ho : s.heap.get? S = some o) (hex : o.ExactSet) (hd : o.data = .set (bQ l) ep (tab (Led w) (l.map (·.1)))) (hsz : (kA w S ep l).size = l.length)
    (h : ∀ h' tk vs, (∀ b o, s.heap.get? b = some o -> h'.get? b = some o) -> vs = (kA w S ep l).toList.map (·.2) -> Q vs { s with heap := h', toks := tk }) : wpAny (model prog w) A (collect (.ref S)) Q E s := by
  refine nV fun R hR => ?_
  generalize hD : s.heap.objs.size = D at *
  have hSD : @LT.lt Nat instLTNat S D := by rw [<- hD]; exact Heap.lt_size ho
  generalize hH0 : s.heap.push { cls := .type "list", data := .seq ([] : List Value).toArray } = H0
  have szH0 : H0.objs.size = D + 1 := by rw [<- hH0, Heap.size_push, hD]
  have ho' : H0.get? S = some o := by rw [<- hH0]; exact Heap.get?_push_of_some _ ho
  have hDl : H0.get? D = some { cls := .type "list", data := .seq #[] 0 } := by rw [<- hH0, <- hD]; exact Heap.get?_push_size _ rfl
  have old0 : ∀ b ob, s.heap.get? b = some ob -> H0.get? b = some ob := fun b ob e => by rw [<- hH0]; exact Heap.get?_push_of_some _ e
  unfold Builtin.List.listExtendWith
  refine wpAny_bind (wpAny_typeOf (T := "set") ⟨o, ho', hex.1⟩ ?_)
  have h1 : Builtin.List.listSameRef (.ref D) (.ref S) = false := by simp [Builtin.List.listSameRef]; exact Nat.ne_of_gt hSD
  have h2 : (Value.type "set" == Value.type "list") = false := by decide
  have h3 : (Value.type "set" == Value.type "tuple") = false := by decide
  simp only [h1, h2, h3, Bool.or_false, Bool.false_eq_true, if_false]
  refine wpAny_bind (wG (s := { s with heap := H0 }) hl ho' hex hd ?_)
  generalize hI : H0.objs.size = I at *
  have W := (aAF (prog := prog) (w := w) (A := A.in1) hh I S (Nat.ne_of_lt (by omega)) o ep l hl hd hsz).toS
  have key : ∀ (hp : Heap) (c tk : Nat), nE w hp I S l ep 0 -> hp.get? S = some o -> (∀ b ob, b ≠ D -> H0.get? b = some ob -> hp.get? b = some ob) -> hp.get? D = some { cls := .type "list", data := .seq #[] c } ->
      codeAny (model prog w) A (.builtin "list.extend.loop" ⟨[.ref D, .ref I, .ref D], []⟩) R { s with heap := hp, toks := tk } := by
    intro hp c tk hit hS hk hDl'
    refine codeAny_extend_loopS W (by rw [sizeLine_eq]; rcases hl with ⟨p, rfl, _⟩ | ⟨p, q, rfl, _⟩ <;> simp) D (by
      simp only [List.mem_cons, List.mem_singleton, List.not_mem_nil, or_false, not_or]
      exact ⟨Nat.ne_of_lt (by omega), Nat.ne_of_gt hSD⟩) (.ref D) l.length 0 _ #[] c rfl (Nat.zero_le _) ⟨hit, hS⟩ hDl' (ItemsOf.nil _) fun s' acc' c' hm hS' hacc => ?_
    rw [Moved.eq_with hm]
    refine hR { s with heap := s'.heap, toks := s'.toks } acc' c' hS' (h s'.heap s'.toks acc'.toList (fun b ob e => hm.heap b ob (fun hmem => ?_) (hk b ob ?_ (old0 b ob e))) ?_)
    · have hb : @LT.lt Nat instLTNat b D := by rw [<- hD]; exact Heap.lt_size e
      rcases List.mem_cons.mp hmem with z | z
      · exact absurd z (Nat.ne_of_lt hb)
      · have z' : b = I := by simpa using z
        exact absurd z' (Nat.ne_of_lt (by omega))
    · have hb : @LT.lt Nat instLTNat b D := by rw [<- hD]; exact Heap.lt_size e
      exact Nat.ne_of_lt hb
    · obtain ⟨hs, hi⟩ := hacc
      apply List.ext_getElem?
      intro j
      rw [List.getElem?_map, Array.getElem?_toList, Array.getElem?_toList]
      cases e : acc'[j]? with
      | none =>
        have hj : l.length <= j := by
          rw [<- hs]
          exact Array.getElem?_eq_none_iff.mp e
        rw [Array.getElem?_eq_none (by omega)]
        rfl
      | some v =>
        obtain ⟨k, hk⟩ := hi j v e
        rw [hk]
        rfl
  have hit0 : nE w (H0.push { cls := .type "set_iterator", data := .fields #[rawInt (gK w l 0 : Nat), rawInt ((0 : Nat) : Int), .ref S, rawInt (l.length : Nat), rawInt (ep : Nat)] }) I S l ep 0 := by
    rw [<- hI]; exact Heap.get?_push_size _ rfl
  have hD1 := Heap.get?_push_of_some { cls := .type "set_iterator", data := .fields #[rawInt (gK w l 0 : Nat), rawInt ((0 : Nat) : Int), .ref S, rawInt (l.length : Nat), rawInt (ep : Nat)] } hDl
  refine wpAny_bind (wpAny_holding (aAG (s := { s with heap := H0.push { cls := .type "set_iterator", data := .fields #[rawInt (gK w l 0 : Nat), rawInt ((0 : Nat) : Int), .ref S, rawInt (l.length : Nat), rawInt (ep : Nat)] } }) hl (Heap.get?_push_of_some _ ho') hex hd fun bb => ?_))
  have DI : D ≠ I := Nat.ne_of_lt (by omega)
  refine wpAny_ite_split (fun _ => ?_) (fun _ => wpAny_pure ⟨plainId_quiet PySem.F.plain_extend_loop _, key _ 0 _ hit0 (Heap.get?_push_of_some _ ho') (fun b ob _ e => Heap.get?_push_of_some _ e) hD1⟩)
  refine wpAny_bind (wpAny_rule ?_)
  refine wpAny_bind ?_
  show wpAny _ _ (updateSeq D (·.push .none) >>= fun _ => updateSeq D (·.pop)) _ _ _
  refine wpAny_bind (wpAny_updateSeq hD1 rfl ?_)
  have hS₂ := Heap.get?_update_self (Obj.mapSeq (·.push Value.none)) hD1 rfl
  refine wpAny_updateSeq (hz := by seq_fits) hS₂ rfl ?_
  have hS₃ := Heap.get?_update_self (Obj.mapSeq (·.pop)) hS₂ rfl
  refine wpAny_pure ⟨plainId_quiet PySem.F.plain_extend_loop _, key _ _ _ ?_ ?_ (fun b ob hb e => ?_) hS₃⟩
  · exact (Heap.get?_update_other _ _ DI).trans ((Heap.get?_update_other _ _ DI).trans hit0)
  · exact (Heap.get?_update_other _ _ (Nat.ne_of_gt hSD)).trans ((Heap.get?_update_other _ _ (Nat.ne_of_gt hSD)).trans (Heap.get?_push_of_some _ ho'))
  · exact (Heap.get?_update_other _ _ (Ne.symm hb)).trans ((Heap.get?_update_other _ _ (Ne.symm hb)).trans (Heap.get?_push_of_some _ e))
end
end L2
set_option Elab.async false
set_option linter.all false
set_option maxRecDepth 100000
namespace L2
open PySem PySem.Spec PyProof.Rows
theorem aDM {α : Type} (next : Nat -> Nat) (e : α) : pickOrder next #[e] = #[e] := by
  unfold pickOrder
  simp [pickOrder.go, Nat.mod_one]
theorem aDN {α : Type} (next : Nat -> Nat) (e f : α) : pickOrder next #[e, f] = #[e, f] ∨ pickOrder next #[e, f] = #[f, e] := by
  unfold pickOrder
  have h : next 0 % 2 = 0 ∨ next 0 % 2 = 1 := by omega
  rcases h with h | h
  · left; simp [pickOrder.go, h, Nat.mod_one]
  · right; simp [pickOrder.go, h, Nat.mod_one]
theorem oA {w : World} {S : Addr} {ep : Nat} {l : List (Nat × Tok)} (hl : Okl l) : kA w S ep l = bQ l ∨ kA w S ep l = bQ l.reverse := by
  unfold kA
  by_cases hb : w.params.followText "set-order" = true
  · rw [if_pos hb]
    rcases hl with ⟨p, rfl, _⟩ | ⟨p, q, rfl, _⟩
    · exact .inl (aDM _ _)
    · exact aDN _ _ _
  · rw [if_neg hb]; exact .inl rfl
theorem zK {w : World} {S : Addr} {ep : Nat} {l : List (Nat × Tok)} (hl : Okl l) : (kA w S ep l).size = l.length := by
  rcases oA (w := w) (S := S) (ep := ep) hl with e | e
  · rw [e]; unfold bQ; rw [List.size_toArray, List.length_map]
  · rw [e]; unfold bQ; rw [List.size_toArray, List.length_map, List.length_reverse]
theorem qK (l : List (Nat × Tok)) : IntsAre ((bQ l).toList.map (·.2)) (l.map fun p => (p.1 : Int)) := by
  unfold bQ
  rw [List.toList_toArray, List.map_map]
  induction l with
  | nil => exact .nil
  | cons p l ih => exact .cons _ p.2 ih
theorem aAH {w : World} {S : Addr} {ep : Nat} {l : List (Nat × Tok)} (hl : Okl l) : ∃ ns, IntsAre ((kA w S ep l).toList.map (·.2)) ns /\ ns.Perm (l.map fun p => (p.1 : Int)) := by
  rcases oA (w := w) (S := S) (ep := ep) hl with e | e
  · rw [e]; exact ⟨_, qK l, List.Perm.refl _⟩
  · rw [e]; exact ⟨_, qK l.reverse, by rw [List.map_reverse]; exact List.reverse_perm _⟩
def kN (a b : Nat) : List Int := if a = b then [(a : Int)] else if a < b then [(a : Int), (b : Int)] else [(b : Int), (a : Int)]
theorem tZ (a b : Nat) (t u : Tok) : (two a b t u).map (fun p => (p.1 : Int)) = kN a b := by
  unfold two kN
  split
  · rfl
  · split <;> rfl
theorem uA (a b : Nat) : (kN a b).Pairwise (· <= ·) := by
  unfold kN
  split
  · exact List.pairwise_singleton _ _
  · split
    · refine List.pairwise_cons.mpr ⟨fun x hx => ?_, List.pairwise_singleton _ _⟩
      rw [List.mem_singleton.mp hx]; omega
    · refine List.pairwise_cons.mpr ⟨fun x hx => ?_, List.pairwise_singleton _ _⟩
      rw [List.mem_singleton.mp hx]; omega
theorem mU (a b : Nat) : (kN a b).length <= 2 := by
  unfold kN
  split
  · simp
  · split <;> simp
def aC5 (w : World) (p : Addr) (a b : Nat) : HO := .ext fun h => ∃ t u, SX (Led w) h p (two a b t u)
section
variable {X : Cx}
theorem zL (hc : X.calm = true) : eX X (.type "set") (fun xs H Q => ∃ (l : Addr) (a b : Nat), xs = [.ref l] /\ SqL X.K H l [.int (a : Int), .int (b : Int)] /\ a < 8 /\ b < 8 /\ ∀ p, H p = none -> Q (.ref p) (upd H p (aC5 X.w p a b))) := by
  intro pins s σ H xs us Q I r h
  obtain ⟨l, a, b, rfl, hL, ha, hb, q⟩ := h
  obtain ⟨u, rfl, rx⟩ := gF r
  cases rx
  obtain ⟨its, rv, pl, hz⟩ := I.list hL
  obtain ⟨u1, u2, rfl, ⟨t1, rfl⟩, ⟨t2, rfl⟩⟩ := mS rv
  refine sB (I.ok.hd hc) pl.isList ha hb fun h' tk x kp => ?_
  have kp' : ∀ b o, s.heap.get? b = some o -> h'.get? b = some o := fun b o e => kp b o (Heap.lt_size e) e
  have hf := I.hok.fresh (Nat.le_refl s.heap.objs.size)
  refine ⟨.ref s.heap.objs.size, _, I.laid (t' := tk) kp' (Nat.le_refl _) ?_, rfl, q _ hf⟩
  refine ⟨⟨t1, t2, x⟩, ?_, fun h1 h2 ⟨t, u, y⟩ k => ⟨t, u, y.keep k⟩⟩
  obtain ⟨o, ep, e, _⟩ := x
  exact ⟨o, e⟩
theorem nC (hc : X.calm = true) : eX X (.builtin "sorted") (fun xs H Q => ∃ (p : Addr) (a b : Nat), xs = [.ref p] /\ H p = some (aC5 X.w p a b) /\ a < 8 /\ b < 8 /\ ∀ q, H q = none -> Q (.ref q) (upd H q (.lst ((kN a b).map V.int)))) := by
  intro pins s σ H xs us Q I r h
  obtain ⟨p, a, b, rfl, hp, ha, hb, q⟩ := h
  obtain ⟨u, rfl, rx⟩ := gF r
  cases rx
  obtain ⟨⟨t, u, o, ep, ho, hex, hd⟩, _, _⟩ := I.hok p _ hp
  have hl : Okl (two a b t u) := aC4 ha hb
  obtain ⟨ns, hi, hperm⟩ := aAH (w := X.w) (S := p) (ep := ep) hl
  have hlen : ns.length <= 2 := by rw [hperm.length_eq, tZ]; exact mU a b
  refine qJ (ns := ns) (by omega) (fun Q' hQ' => ?_) fun h1 h' tk out ns' k1 k2 pl hi' hp' ho' => ?_
  · exact tY (A := X.A.in1) (I.ok.hd hc) hl ho hex hd (zK hl) fun h' tk vs kp e => hQ' h' tk vs kp (by rw [e]; exact hi)
  · have I1 : Inv X pins σ H { s with heap := h1, toks := tk } := I.kept k1
    have hf := I1.hok.fresh (Nat.le_refl _)
    have en : ns' = kN a b := PySem.W.ksm_same (hp'.trans (by rw [<- tZ a b t u]; exact hperm)) ho' (uA a b)
    subst en
    have hl2 := mU a b
    obtain ⟨n, e⟩ := pl
    have I2 : Inv X pins σ (upd H h1.objs.size (.lst ((kN a b).map V.int))) { s with heap := h', toks := tk } :=
      I1.laid (t' := tk) k2 (Nat.le_refl _) (show bO X.prog X.w _ _ _ (.lst _) from ⟨by rw [List.length_map, sizeLine_eq]; omega, out.toList, n, iG hi', by simpa using e⟩)
    exact ⟨.ref h1.objs.size, _, I2, rfl, q _ hf⟩
end
end L2
set_option Elab.async false
set_option linter.all false
set_option maxRecDepth 100000
namespace L2
open PySem PySem.Spec PyProof.Rows
structure Sub (prog : Program) (w : World) (i l : Addr) (n : Nat) (P : Nat -> Value -> Prop) (st : Nat -> Heap -> Prop) : Prop where
  keep : ∀ k h h', st k h -> (∀ b, b = i ∨ b = l -> ∀ o, h.get? b = some o -> h'.get? b = some o) -> st k h'
  obj : ∀ k h, st k h -> (∃ o, h.get? i = some o /\ ∀ v, o.data ≠ .cell v) /\ ∃ o, h.get? l = some o
  item : ∀ (A : Around) k (s : Shared) (Q : Value -> Shared -> Prop) (E : Value -> Shared -> Prop), k < n -> st k s.heap -> (∀ v h', P k v -> st (k + 1) h' -> Heap.SameBut i s.heap h' -> Q v { s with heap := h' }) -> wpAny (model prog w) A (Builtin.SmallTypes.nextOf (.ref i)) Q E s
  done : ∀ (A : Around) (s : Shared) (Q : Value -> Shared -> Prop) (E : Value -> Shared -> Prop), A.handled = none -> st n s.heap -> (∀ h' e, Heap.ExtBut i s.heap h' -> (∃ o, h'.get? e = some o /\ o.cls = .type "StopIteration") -> E (.ref e) { s with heap := h' }) ->
    wpAny (model prog w) A (Builtin.SmallTypes.nextOf (.ref i)) Q E s
theorem aAI (prog : Program) (w : World) (i l : Addr) (items : Array Value) (hne : l ≠ i) : Sub prog w i l items.size (fun k v => items[k]? = some v) (fun k h => h.IsListIter i l k /\ h.IsList l items) where
  keep := fun k h h' st kp => ⟨st.1.at fun o e => kp i (.inl rfl) o e, st.2.at fun o e => kp l (.inr rfl) o e⟩
  obj := fun k h st => by
    obtain ⟨⟨o, e, _, d⟩, ⟨o2, e2, _⟩⟩ := st
    exact ⟨⟨o, e, fun v z => by rw [d] at z; cases z⟩, o2, e2⟩
  item := fun A k s Q E hk st hQ => wpAny_nextOf_list_item st.1 st.2 (Array.getElem?_eq_getElem hk) fun h' a b => hQ _ h' (Array.getElem?_eq_getElem hk) ⟨a, st.2.at fun o e => b.extBut l o hne e⟩ b
  done := fun A s Q E hh st hE => wpAny_nextOf_list_end hh st.1 st.2 (Array.getElem?_eq_none (Nat.le_refl _)) hE
theorem lH {prog : Program} {w : World} {A : Around} {E : Value -> Shared -> Prop} {s : Shared} {it t : Addr} {i : Nat} {items : Array Value} {x : Value} {Q : Value -> Shared -> Prop} (hit : s.heap.IsTupleIter it t i) (ht : s.heap.IsTuple t items) (hx : items[i]? = some x)
    (hQ : ∀ h', h'.IsTupleIter it t (i + 1) -> Heap.SameBut it s.heap h' -> Q x { s with heap := h' }) : wpAny (model prog w) A (Builtin.SmallTypes.nextOf (.ref it)) Q E s := by
  obtain ⟨o, ho, hc, hd⟩ := id hit
  obtain ⟨ol, hol, _, nl, hdl⟩ := ht
  have hT := hit.typeIs
  unfold Builtin.SmallTypes.nextOf
  refine wpAny_bind (wpAny_callSpecial?_slot (name := Str.ofString "__next__") hT PySem.F.slot_tuple_iterator_next (wpAny_call_entry PySem.F.slot_tuple_iterator_next hT PySem.F.entry_tuple_iterator_next ?_ (PySem.F.args_tuple_iterator_next_1 _)))
  refine wpAny_bind (m := field (.ref it) 0) (wpAny_field ho hd (x := .ref t) rfl ?_)
  have hno : ¬ ((Value.ref t == Value.none) = true) := Bool.false_ne_true
  show wpAny _ _ (if (Value.ref t == Value.none) = true then _ else _) _ _ s
  rw [if_neg hno]
  refine wpAny_bind (m := field (.ref it) 1) (wpAny_field ho hd (x := .int i 0) rfl ?_)
  refine wpAny_bind (m := seqItems? (.ref t)) (wpAny_seqItems hol hdl ?_)
  simp only [Int.toNat_natCast, hx]
  refine wpAny_bind (wpAny_setField ho hd (by simp) (wpAny_pure ⟨x, rfl, wpAny_pure (hQ _ ?_ (Heap.SameBut.update ..))⟩))
  refine ⟨_, Heap.get?_update_self _ ho (Obj.isFreed_of_fields (Obj.data_mapFields hd _)), (Obj.cls_mapFields ..).trans hc, ?_⟩
  rw [Obj.data_mapFields hd]
  simp [rawInt]
theorem mE {prog : Program} {w : World} {A : Around} {E : Value -> Shared -> Prop} {s : Shared} {it t : Addr} {i : Nat} {items : Array Value} {Q : Value -> Shared -> Prop} (hh : A.handled = none) (hit : s.heap.IsTupleIter it t i) (ht : s.heap.IsTuple t items) (hx : items[i]? = none)
    (hE : ∀ h' e, Heap.ExtBut it s.heap h' -> (∃ o, h'.get? e = some o /\ o.cls = .type "StopIteration") -> E (.ref e) { s with heap := h' }) : wpAny (model prog w) A (Builtin.SmallTypes.nextOf (.ref it)) Q E s := by
  obtain ⟨o, ho, hc, hd⟩ := id hit
  obtain ⟨ol, hol, _, nl, hdl⟩ := ht
  have hT := hit.typeIs
  unfold Builtin.SmallTypes.nextOf
  refine wpAny_bind (wpAny_callSpecial?_slot (name := Str.ofString "__next__") hT PySem.F.slot_tuple_iterator_next (wpAny_call_entry PySem.F.slot_tuple_iterator_next hT PySem.F.entry_tuple_iterator_next ?_ (PySem.F.args_tuple_iterator_next_1 _)))
  refine wpAny_bind (m := field (.ref it) 0) (wpAny_field ho hd (x := .ref t) rfl ?_)
  have hno : ¬ ((Value.ref t == Value.none) = true) := Bool.false_ne_true
  show wpAny _ _ (if (Value.ref t == Value.none) = true then _ else _) _ _ s
  rw [if_neg hno]
  refine wpAny_bind (m := field (.ref it) 1) (wpAny_field ho hd (x := .int i 0) rfl ?_)
  refine wpAny_bind (m := seqItems? (.ref t)) (wpAny_seqItems hol hdl ?_)
  simp only [Int.toNat_natCast, hx]
  refine wpAny_bind (wpAny_rule (wpAny_bind (wpAny_setField ho hd (by simp) ?_)))
  refine wpAny_bind (m := newExc (.type "StopIteration") []) ?_
  simp only [newExc, newTuple]
  refine wpAny_bind (wpAny_newObj_type ?_ (by size_fits))
  refine wpAny_bind (m := firstArgMember _ _) (wpAny_of_eq (a := Value.none) (by first | rfl | (simp only [firstArgMember]; rfl)) ?_)
  refine wpAny_newObj_type ?_ (by size_fits)
  simp only [raiseNew]
  refine wpAny_bind (wpAny_handled ?_)
  first | rw [show A.in1.handled = none from hh] | rw [hh]
  refine wpAny_bind (wpAny_pure (wpAny_throw ?_))
  exact hE _ _ (((Heap.SameBut.update ..).extBut.push _).push _) ⟨_, Heap.get?_push_size _ rfl, rfl⟩
theorem zM (prog : Program) (w : World) (i l : Addr) (items : Array Value) (hne : l ≠ i) : Sub prog w i l items.size (fun k v => items[k]? = some v) (fun k h => h.IsTupleIter i l k /\ h.IsTuple l items) where
  keep := fun k h h' st kp => ⟨st.1.at fun o e => kp i (.inl rfl) o e, by obtain ⟨o, e, r⟩ := st.2; exact ⟨o, kp l (.inr rfl) o e, r⟩⟩
  obj := fun k h st => by
    obtain ⟨⟨o, e, _, d⟩, ⟨o2, e2, _⟩⟩ := st
    exact ⟨⟨o, e, fun v z => by rw [d] at z; cases z⟩, o2, e2⟩
  item := fun A k s Q E hk st hQ => lH st.1 st.2 (Array.getElem?_eq_getElem hk) fun h' a b => hQ _ h' (Array.getElem?_eq_getElem hk) ⟨a, by obtain ⟨o, e, r⟩ := st.2; exact ⟨o, b.extBut l o hne e, r⟩⟩ b
  done := fun A s Q E hh st hE => mE hh st.1 st.2 (Array.getElem?_eq_none (Nat.le_refl _)) hE
section
variable {prog : Program} {w : World} {A : Around} {E : Value -> Shared -> Prop} {s : Shared} {z TI TO i1 i2 l1 l2 : Addr} {n1 n2 : Nat} {P1 P2 : Nat -> Value -> Prop} {st1 st2 : Nat -> Heap -> Prop}
theorem aBU {k : Nat} {a b : Value} {Q : Value -> Shared -> Prop} (D : ZipApart z TI TO i1 i2 l1 l2) (S1 : Sub prog w i1 l1 n1 P1 st1) (S2 : Sub prog w i2 l2 n2 P2 st2)
    (hz : IsZip s.heap z TI TO .none) (hTI : IsPair s.heap TI (.ref i1) (.ref i2)) (hTO : IsPair s.heap TO a b) (h1 : st1 k s.heap) (h2 : st2 k s.heap) (k1 : k < n1) (k2 : k < n2)
    (hQ : ∀ h' x y, P1 k x -> P2 k y -> IsZip h' z TI TO (rawInt s.heap.objs.size) -> IsPair h' TO x y -> st1 (k + 1) h' -> st2 (k + 1) h' -> IsPair h' s.heap.objs.size x y ->
      (∀ c o, c ≠ z -> c ≠ TO -> c ≠ i1 -> c ≠ i2 -> s.heap.get? c = some o -> h'.get? c = some o) -> Q (.ref s.heap.objs.size) { s with heap := h' }) :
    wpAny (model prog w) A (Builtin.«zip.__next__» ⟨[.ref z], []⟩) (fun fin s' => ∃ v, fin = .done (.ret v) /\ Q v s') E s := by
  refine wpAny_bind (m := field (.ref z) 2) (wpAny_field hz rfl (x := .bool false) rfl ?_)
  refine wpAny_bind (m := field (.ref z) 3) (wpAny_field hz rfl (x := .ref TI) rfl ?_)
  refine wpAny_bind (wpAny_seqItems hTI rfl ?_)
  refine wpAny_bind (m := Builtin.SmallTypes.ownedTupleIsFree (.ref z)) ?_
  unfold Builtin.SmallTypes.ownedTupleIsFree
  refine wpAny_bind (wpAny_field hz rfl (x := .none) rfl (wpAny_pure ?_))
  simp only [if_true]
  refine wpAny_bind (wpAny_rule ?_)
  refine wpAny_bind (wpAny_field hz rfl (x := .ref TO) rfl ?_)
  refine wpAny_bind (wpAny_setField_rec hz (by simp) fun g1 hz1 b1 => ?_)
  have hz1' : IsZip g1 z TI TO .ellipsis := hz1
  refine wpAny_bind ?_
  simp only [List.zipIdx_cons, List.zipIdx_nil, List.forIn_cons, List.forIn_nil]
  -- the first one
  have s1 : st1 k g1 := S1.keep _ _ _ h1 fun c hc o e => b1.extBut c o (by rcases hc with r | r <;> rw [r]; exact D.i1z; exact D.l1z) e
  refine wpAny_bind (wpAny_bind (wpAny_onRaise ?_))
  refine wpAny_bind (m := Builtin.SmallTypes.nextOf (.ref i1)) (S1.item _ k _ _ _ k1 s1 fun x g2 px t1 b2 => wpAny_pure ?_)
  have o2 : IsPair g2 TO a b := b2.extBut _ _ D.TOi1 (b1.extBut _ _ D.TOz hTO)
  refine wpAny_bind (wpAny_seqItems o2 rfl ?_)
  refine wpAny_bind (wpAny_updateSeq_pair o2 fun g3 o3 b3 => ?_)
  have o3' : IsPair g3 TO x b := o3
  refine wpAny_bind (wpAny_letGo (wpAny_pure ?_))
  -- the second one
  have s2 : st2 k g3 := S2.keep _ _ _ h2 fun c hc o e => by
    rcases hc with r | r
    · rw [r] at e ⊢; exact b3.extBut _ _ D.TOi2.symm (b2.extBut _ _ D.i12.symm (b1.extBut _ _ D.i2z e))
    · rw [r] at e ⊢; exact b3.extBut _ _ D.l2TO (b2.extBut _ _ D.l2i1 (b1.extBut _ _ D.l2z e))
  refine wpAny_bind (wpAny_bind (wpAny_onRaise ?_))
  refine wpAny_bind (m := Builtin.SmallTypes.nextOf (.ref i2)) (S2.item _ k _ _ _ k2 s2 fun y g4 py t2 b4 => wpAny_pure ?_)
  have o4 : IsPair g4 TO x b := b4.extBut _ _ D.TOi2 o3'
  refine wpAny_bind (wpAny_seqItems o4 rfl ?_)
  refine wpAny_bind (wpAny_updateSeq_pair o4 fun g5 o5 b5 => ?_)
  have o5' : IsPair g5 TO x y := o5
  refine wpAny_bind (wpAny_letGo (wpAny_pure (wpAny_pure ?_)))
  refine wpAny_bind (wpAny_seqItems o5' rfl ?_)
  refine wpAny_bind (wpAny_newTuple ?_)
  have sz : g5.objs.size = s.heap.objs.size := by rw [b5.1, b4.1, b3.1, b2.1, b1.1]
  have z5 : IsZip g5 z TI TO .ellipsis := b5.extBut _ _ D.TOz.symm (b4.extBut _ _ D.i2z.symm (b3.extBut _ _ D.TOz.symm (b2.extBut _ _ D.i1z.symm hz1')))
  have kp5 : ∀ c o, c ≠ z -> c ≠ TO -> c ≠ i1 -> c ≠ i2 -> s.heap.get? c = some o -> g5.get? c = some o := fun c o c1 c2 c3 c4 e =>
    b5.extBut _ _ c2 (b4.extBut _ _ c4 (b3.extBut _ _ c2 (b2.extBut _ _ c3 (b1.extBut _ _ c1 e))))
  have t1' : st1 (k + 1) g5 := S1.keep _ _ _ t1 fun c hc o e => by
    rcases hc with r | r
    · rw [r] at e ⊢; exact b5.extBut _ _ D.TOi1.symm (b4.extBut _ _ D.i12 (b3.extBut _ _ D.TOi1.symm e))
    · rw [r] at e ⊢; exact b5.extBut _ _ D.l1TO (b4.extBut _ _ D.l1i2 (b3.extBut _ _ D.l1TO e))
  have t2' : st2 (k + 1) g5 := S2.keep _ _ _ t2 fun c hc o e => by
    rcases hc with r | r
    · rw [r] at e ⊢; exact b5.extBut _ _ D.TOi2.symm e
    · rw [r] at e ⊢; exact b5.extBut _ _ D.l2TO e
  have zlt : g5.objs.size ≠ z := Nat.ne_of_gt (Heap.lt_size z5)
  refine wpAny_bind (m := Builtin.SmallTypes.ownedTupleHandOut (.ref z) (.ref g5.objs.size)) ?_
  unfold Builtin.SmallTypes.ownedTupleHandOut
  have z6 : IsZip (g5.push { cls := .type "tuple", data := .seq #[x, y] }) z TI TO .ellipsis := Heap.get?_push_of_some _ z5
  refine wpAny_bind (wpAny_setField_rec z6 (by simp) fun g7 z7 b7 => ?_)
  have z7' : IsZip g7 z TI TO (rawInt g5.objs.size) := z7
  refine wpAny_setField_rec z7' (by simp) fun g8 z8 b8 => ?_
  have z8' : IsZip g8 z TI TO (rawInt g5.objs.size) := z8
  have up : ∀ c o, c ≠ z -> g5.get? c = some o -> g8.get? c = some o := fun c o c1 e => b8.extBut _ _ c1 (b7.extBut _ _ c1 (Heap.get?_push_of_some _ e))
  have T8 : IsPair g8 g5.objs.size x y := b8.extBut _ _ zlt (b7.extBut _ _ zlt (Heap.get?_push_size _ rfl))
  rw [sz] at z8' T8
  refine wpAny_pure ⟨_, rfl, ?_⟩
  show Q (.ref g5.objs.size) _
  rw [sz]
  refine hQ g8 x y px py z8' (up _ _ D.TOz o5') (S1.keep _ _ _ t1' fun c hc o e => up c o (by rcases hc with r | r <;> rw [r]; exact D.i1z; exact D.l1z) e) (S2.keep _ _ _ t2' fun c hc o e => up c o (by rcases hc with r | r <;> rw [r]; exact D.i2z; exact D.l2z) e) T8 fun c o c1 c2 c3 c4 e => up c o c1 (kp5 c o c1 c2 c3 c4 e)
theorem aC6 {k : Nat} {a b : Value} {Q : Fin -> Shared -> Prop} (hh : A.handled = none) (D : ZipApart z TI TO i1 i2 l1 l2) (S1 : Sub prog w i1 l1 n1 P1 st1) (S2 : Sub prog w i2 l2 n2 P2 st2)
    (hz : IsZip s.heap z TI TO .none) (hTI : IsPair s.heap TI (.ref i1) (.ref i2)) (hTO : IsPair s.heap TO a b) (h1 : st1 k s.heap) (h2 : st2 k s.heap) (hend : k = n1 /\ k <= n2 ∨ k = n2 /\ k < n1)
    (hE : ∀ h' e, (∀ c o, c ≠ z -> c ≠ TO -> c ≠ i1 -> c ≠ i2 -> s.heap.get? c = some o -> h'.get? c = some o) -> (∃ o, h'.get? e = some o /\ o.cls = .type "StopIteration") -> E (.ref e) { s with heap := h' }) :
    wpAny (model prog w) A (Builtin.«zip.__next__» ⟨[.ref z], []⟩) Q E s := by
  refine wpAny_bind (m := field (.ref z) 2) (wpAny_field hz rfl (x := .bool false) rfl ?_)
  refine wpAny_bind (m := field (.ref z) 3) (wpAny_field hz rfl (x := .ref TI) rfl ?_)
  refine wpAny_bind (wpAny_seqItems hTI rfl ?_)
  refine wpAny_bind (m := Builtin.SmallTypes.ownedTupleIsFree (.ref z)) ?_
  unfold Builtin.SmallTypes.ownedTupleIsFree
  refine wpAny_bind (wpAny_field hz rfl (x := .none) rfl (wpAny_pure ?_))
  simp only [if_true]
  refine wpAny_bind (wpAny_rule ?_)
  refine wpAny_bind (wpAny_field hz rfl (x := .ref TO) rfl ?_)
  refine wpAny_bind (wpAny_setField_rec hz (by simp) fun g1 hz1 b1 => ?_)
  have hz1' : IsZip g1 z TI TO .ellipsis := hz1
  refine wpAny_bind ?_
  simp only [List.zipIdx_cons, List.zipIdx_nil, List.forIn_cons, List.forIn_nil]
  have s1 : st1 k g1 := S1.keep _ _ _ h1 fun c hc o e => b1.extBut c o (by rcases hc with r | r <;> rw [r]; exact D.i1z; exact D.l1z) e
  refine wpAny_bind (wpAny_bind (wpAny_onRaise ?_))
  have fin : ∀ (g : Heap) (e : Addr) (g0 : Heap), (∃ o, g.get? e = some o /\ o.cls = .type "StopIteration") -> IsZip g z TI TO .ellipsis -> (∀ c o, c ≠ z -> c ≠ TO -> c ≠ i1 -> c ≠ i2 -> s.heap.get? c = some o -> g.get? c = some o) ->
      wpAny (model prog w) A (setField (.ref z) 0 .none) (fun _ s' => E (.ref e) s') E { s with heap := g } := fun g e g0 ⟨oe, hoe, hce⟩ hzz kp => by
    have hez : e ≠ z := fun q => by rw [q, hzz] at hoe; cases hoe; simp at hce
    exact wpAny_setField_rec hzz (by simp) fun g' _ b' => hE g' e (fun c o c1 c2 c3 c4 q => b'.extBut _ _ c1 (kp c o c1 c2 c3 c4 q)) ⟨oe, b'.extBut _ _ hez hoe, hce⟩
  rcases hend with ⟨e1, _⟩ | ⟨e2, k1⟩
  · rw [e1] at s1
    refine wpAny_bind (m := Builtin.SmallTypes.nextOf (.ref i1)) (S1.done _ _ _ _ hh s1 fun g2 e b2 he => ?_)
    exact fin g2 e g1 he (b2 _ _ D.i1z.symm hz1') fun c o c1 _ c3 _ q => b2 _ _ c3 (b1.extBut _ _ c1 q)
  · refine wpAny_bind (m := Builtin.SmallTypes.nextOf (.ref i1)) (S1.item _ k _ _ _ k1 s1 fun x g2 px t1 b2 => wpAny_pure ?_)
    have o2 : IsPair g2 TO a b := b2.extBut _ _ D.TOi1 (b1.extBut _ _ D.TOz hTO)
    refine wpAny_bind (wpAny_seqItems o2 rfl ?_)
    refine wpAny_bind (wpAny_updateSeq_pair o2 fun g3 o3 b3 => ?_)
    refine wpAny_bind (wpAny_letGo (wpAny_pure ?_))
    have s2 : st2 n2 g3 := by
      rw [<- e2]
      exact S2.keep _ _ _ h2 fun c hc o e => by
        rcases hc with r | r
        · rw [r] at e ⊢; exact b3.extBut _ _ D.TOi2.symm (b2.extBut _ _ D.i12.symm (b1.extBut _ _ D.i2z e))
        · rw [r] at e ⊢; exact b3.extBut _ _ D.l2TO (b2.extBut _ _ D.l2i1 (b1.extBut _ _ D.l2z e))
    refine wpAny_bind (wpAny_bind (wpAny_onRaise ?_))
    refine wpAny_bind (m := Builtin.SmallTypes.nextOf (.ref i2)) (S2.done _ _ _ _ hh s2 fun g4 e b4 he => ?_)
    exact fin g4 e g3 he (b4 _ _ D.i2z.symm (b3.extBut _ _ D.TOz.symm (b2.extBut _ _ D.i1z.symm hz1'))) fun c o c1 c2 c3 c4 q => b4 _ _ c4 (b3.extBut _ _ c2 (b2.extBut _ _ c3 (b1.extBut _ _ c1 q)))
end
end L2
set_option Elab.async false
set_option linter.all false
set_option maxRecDepth 100000
namespace L2
open PySem PySem.Spec PyProof.Rows
inductive Sk where
  | l | t
def SqK (k : Sk) (K : PySem.W.Frag) (H : Hp) (a : Addr) (xs : List V) : Prop := match k with | .l => SqL K H a xs | .t => SqT K H a xs
def AtK (k : Sk) (h : Heap) (a : Addr) (its : Array Value) : Prop := match k with | .l => h.IsList a its | .t => h.IsTuple a its
def ItK (k : Sk) (h : Heap) (i a : Addr) (n : Nat) : Prop := match k with | .l => h.IsListIter i a n | .t => h.IsTupleIter i a n
def itK (k : Sk) (a : Addr) : Obj := match k with | .l => { cls := .type "list_iterator", data := .fields #[.ref a, .int 0 0] } | .t => { cls := .type "tuple_iterator", data := .fields #[.ref a, .int 0 0] }
theorem ItK.new (k : Sk) (h : Heap) (a : Addr) : ItK k (h.push (itK k a)) h.objs.size a 0 := by
  cases k
  · exact ⟨_, Heap.get?_push_size _ rfl, rfl, rfl⟩
  · exact ⟨_, Heap.get?_push_size _ rfl, rfl, rfl⟩
theorem ItK.obj {k : Sk} {h : Heap} {i a : Addr} {n : Nat} (x : ItK k h i a n) : ∃ o, h.get? i = some o /\ ∀ v, o.data ≠ .cell v := by
  cases k
  · obtain ⟨o, e, _, d⟩ := x; exact ⟨o, e, fun v z => by rw [d] at z; cases z⟩
  · obtain ⟨o, e, _, d⟩ := x; exact ⟨o, e, fun v z => by rw [d] at z; cases z⟩
theorem ItK.at {k : Sk} {h h' : Heap} {i a : Addr} {n : Nat} (x : ItK k h i a n) (kp : ∀ o, h.get? i = some o -> h'.get? i = some o) : ItK k h' i a n := by
  cases k
  · exact Heap.IsListIter.at x kp
  · exact Heap.IsTupleIter.at x kp
theorem AtK.at {k : Sk} {h h' : Heap} {a : Addr} {its : Array Value} (x : AtK k h a its) (kp : ∀ o, h.get? a = some o -> h'.get? a = some o) : AtK k h' a its := by
  cases k
  · exact Heap.IsList.at x kp
  · obtain ⟨o, e, r⟩ := x; exact ⟨o, kp o e, r⟩
theorem uB (k : Sk) (prog : Program) (w : World) (i l : Addr) (items : Array Value) (hne : l ≠ i) : Sub prog w i l items.size (fun j v => items[j]? = some v) (fun j h => ItK k h i l j /\ AtK k h l items) := by
  cases k
  · exact aAI prog w i l items hne
  · exact zM prog w i l items hne
theorem aCB {prog : Program} {w : World} {A : Around} {E : Value -> Shared -> Prop} {s : Shared} {k : Sk} {a : Addr} {its : Array Value} {Q : Value -> Shared -> Prop} (h : AtK k s.heap a its) (hQ : Q (.ref s.heap.objs.size) { s with heap := s.heap.push (itK k a) }) : wpAny (model prog w) A (pyIter (.ref a)) Q E s := by
  cases k
  · exact wpAny_pyIter_list h hQ
  · exact wpAny_pyIter_tuple h hQ
section
variable {X : Cx} {pins : List (Addr × Obj)} {σ : St} {H : Hp} {s : Shared}
theorem Inv.seqK (I : Inv X pins σ H s) {k : Sk} {a : Addr} {xs : List V} (h : SqK k X.K H a xs) : ∃ its : List Value, bB xs its /\ AtK k s.heap a its.toArray := by
  cases k
  · obtain ⟨its, r, p, _⟩ := I.list h; exact ⟨its, r, p.isList⟩
  · obtain ⟨its, r, p, _⟩ := I.tuple h; exact ⟨its, r, p⟩
theorem Inv.seqK_inj (I : Inv X pins σ H s) {k : Sk} {a : Addr} {xs ys : List V} (h : SqK k X.K H a xs) (h' : SqK k X.K H a ys) : xs = ys := by
  cases k
  · exact I.list_inj h h'
  · exact I.tuple_inj h h'
theorem Inv.seq_ne (I : Inv X pins σ H s) {k : Sk} {a b : Addr} {xs : List V} (h : SqK k X.K H a xs) (f : kL X pins H b) : a ≠ b := by
  have rd : ∀ {u : HO}, Rd H a u -> a ≠ b := fun {u} r z => by
    rcases r with r | ⟨o, r⟩ <;> (rw [z, f.1] at r; cases r)
  have kk : ∀ {o : Obj}, X.K.lookup a = some o -> a ≠ b := fun {o} e z => by
    have e1 := I.ok.mod.kin a o e
    rcases f.2.2.2.1 with q | q
    · exact I.ok.noex a o e1 (z ▸ q)
    · exact Nat.lt_irrefl _ (Nat.lt_of_lt_of_le (Heap.lt_size (I.ok.bs a o e1).1) (z ▸ q))
  cases k
  · rcases h with h | ⟨o, _, _, e, _⟩
    · exact rd h
    · exact kk e
  · rcases h with h | ⟨o, _, _, e, _⟩
    · exact rd h
    · exact kk e
theorem Inv.turnedL {h' : Heap} {t' : Nat} (ch : List Addr) (I : Inv X pins σ H s) (k : ∀ b o, b ∉ ch -> s.heap.get? b = some o -> h'.get? b = some o) (f : ∀ b ∈ ch, kL X pins H b) : Inv X pins σ H { s with heap := h', toks := t' } := by
  have nit : ∀ b u, H b = some u -> b ∉ ch := fun b u e z => by rw [(f b z).1] at e; cases e
  have nL : X.env.locals ∉ ch := fun z => (f _ z).2.1 rfl
  refine I.step (g' := s.gens) (d' := s.drawn) (ch := ch) (fun b hb => ⟨(f b hb).2.2.2.1, (f b hb).2.1, (f b hb).2.2.2.2.1, (f b hb).2.2.2.2.2⟩) (fun b o _ _ hc e _ => k b o hc e) (fun b o _ _ hc e _ => ⟨o.slots, k b o hc e⟩) (fun _ _ _ _ n => n)
    (fun b o hc e => ⟨o, k b o hc e⟩) (fun _ _ e => e) (fun _ _ _ e => e) (fun b ps e => ⟨#[], by rw [e]; simp⟩) (fun m hm => ?_) (fun b u e => ?_) I.bare
  · obtain ⟨o, es, ep, ho, r⟩ := hm
    exact ⟨o, es, ep, k _ o nL ho, r⟩
  · refine (I.hok b u e).stay (fun c v hc q => k c v ?_ q) (fun _ q => q) fun _ _ q => q
    rcases hc with z | z
    · rw [z]; exact nit b u e
    · exact nit c _ z
theorem Inv.trackO {D : Addr} {u : HO} (I : Inv X pins σ H s) (new : bO X.prog X.w (upd H D u) s.heap D u) (hn : H D = none) (hL : D ≠ X.env.locals)
    (h1 : X.s₀.heap.objs.size <= D) (h2 : ∀ x c, X.env.cells.lookup x = some c -> c ≠ D) (h3 : ∀ p ∈ X.pn ++ pins, p.1 ≠ D) : Inv X pins σ (upd H D u) s := by
  have ne : ∀ b v, H b = some v -> b ≠ D := fun b v e z => by rw [z, hn] at e; cases e
  refine I.step (g' := s.gens) (d' := s.drawn) (t' := s.toks) (h' := s.heap) (ch := [D]) (fun b hb => ?_) (fun b o _ _ _ e _ => e) (fun b o _ _ _ e _ => ⟨o.slots, e⟩) (fun b o hc _ n => ?_) (fun b o _ e => ⟨o, e⟩)
    (fun b xs e => by rw [aI (ne b _ e)]; exact e) (fun b o v e => by rw [aI (ne b _ e)]; exact e) (fun b ps e => ⟨#[], by rw [aI (ne b _ e), e]; simp⟩) (fun _ h => h) (fun b v e => ?_) I.bare
  · have e : b = D := by simpa using hb
    subst e
    exact ⟨.inr h1, hL, h2, h3⟩
  · rw [aI (by simpa using hc)]; exact n
  · by_cases hb : b = D
    · subst hb
      rw [aB] at e; cases e
      exact new
    · rw [aI hb] at e
      exact (I.hok b v e).stay (fun c v _ q => q) (fun c q => by rw [aI (ne c _ q)]; exact q) fun c xs q => by rw [aI (ne c _ q)]; exact q
end
def Itz (K : PySem.W.Frag) (k1 k2 : Sk) (a b : Addr) : It :=
  ⟨fun i H => ∃ xs ys x y, SqK k1 K H a xs /\ SqK k2 K H b ys /\ xs[i]? = some x /\ ys[i]? = some y,
   fun i H v H' => ∃ p, H p = none /\ v = .ref p /\ ∀ xs ys, SqK k1 K H a xs -> SqK k2 K H b ys -> ∃ x y, xs[i]? = some x /\ ys[i]? = some y /\ H' = upd H p (.tup [x, y]),
   fun i H => ∃ xs ys, SqK k1 K H a xs /\ SqK k2 K H b ys /\ min xs.length ys.length = i⟩
theorem aAJ {P : Program} {w : World} {K : PySem.W.Frag} {es : List Expr} {x1} {pos : Pos} (k1 k2 : Sk) (a b z TI TO i1 i2 : Addr) (D : ∀ l1 l2 : Addr, (∀ c ∈ [z, TI, TO, i1, i2], l1 ≠ c) -> (∀ c ∈ [z, TI, TO, i1, i2], l2 ≠ c) -> ZipApart z TI TO i1 i2 l1 l2) :
    Turn P w K (.Tuple es x1 pos) (Itz K k1 k2 a b) [z, TI, TO, i1, i2] z (fun i h => IsZip h z TI TO .none /\ IsPair h TI (.ref i1) (.ref i2) /\ (∃ x y, IsPair h TO x y) /\ ItK k1 h i1 a i /\ ItK k2 h i2 b i) where
  mem := by simp
  obj := fun i h st c hc => by
    obtain ⟨hz, hTI, ⟨x, y, hTO⟩, h1, h2⟩ := st
    simp only [List.mem_cons, List.not_mem_nil, or_false] at hc
    rcases hc with rfl | rfl | rfl | rfl | rfl
    · exact ⟨_, hz, fun v q => by cases q⟩
    · exact ⟨_, hTI, fun v q => by cases q⟩
    · exact ⟨_, hTO, fun v q => by cases q⟩
    · exact h1.obj
    · exact h2.obj
  keep := fun i h h' st k => by
    obtain ⟨hz, hTI, ⟨x, y, hTO⟩, h1, h2⟩ := st
    exact ⟨k z (by simp) _ hz, k TI (by simp) _ hTI, ⟨x, y, k TO (by simp) _ hTO⟩, h1.at fun o e => k i1 (by simp) o e, h2.at fun o e => k i2 (by simp) o e⟩
  item := by
    intro X hP hw hK hc i pins s σ H E I hf st hg
    subst hP hw hK
    obtain ⟨hz, hTI, ⟨x0, y0, hTO⟩, h1, h2⟩ := st
    obtain ⟨xs, ys, x, y, ha, hb, hx, hy⟩ := hg
    obtain ⟨its, rv, pa⟩ := I.seqK ha
    obtain ⟨jts, rw', pb⟩ := I.seqK hb
    obtain ⟨u, hu, ru⟩ := rv.get hx
    obtain ⟨v, hv, rv2⟩ := rw'.get hy
    have na : ∀ c ∈ [z, TI, TO, i1, i2], a ≠ c := fun c hc' => I.seq_ne ha (hf c hc')
    have nb : ∀ c ∈ [z, TI, TO, i1, i2], b ≠ c := fun c hc' => I.seq_ne hb (hf c hc')
    have DD := D a b na nb
    have hT : s.TypeIs (.ref z) "zip" := ⟨_, hz, rfl⟩
    have hi1 : i < its.toArray.size := by rw [List.size_toArray]; exact (List.getElem?_eq_some_iff.mp hu).1
    have hi2 : i < jts.toArray.size := by rw [List.size_toArray]; exact (List.getElem?_eq_some_iff.mp hv).1
    unfold pyNext
    refine wpAny_bind (wpAny_attempt (wpAny_callSpecial?_slot (name := Str.ofString "__next__") hT PySem.F.slot_zip_next (wpAny_call_entry PySem.F.slot_zip_next hT PySem.F.entry_zip_next
      (aBU DD (uB k1 X.prog X.w i1 a its.toArray (na i1 (by simp))) (uB k2 X.prog X.w i2 b jts.toArray (nb i2 (by simp))) hz hTI hTO ⟨h1, pa⟩ ⟨h2, pb⟩ hi1 hi2 fun h' u' v' pu pv hz' hTO' s1 s2 hT' kp => wpAny_pure ?_) (PySem.F.args_zip_next_1 _))))
    have eu : u' = u := by
      have q : its[i]? = some u' := by simpa using pu
      rw [hu] at q
      exact (Option.some.inj q).symm
    have ev : v' = v := by
      have q : jts[i]? = some v' := by simpa using pv
      rw [hv] at q
      exact (Option.some.inj q).symm
    subst eu ev
    refine ⟨_, rfl, wpAny_letOwnedTupleGo_zip hz' fun h2 hz2 sb2 => ?_⟩
    have Tz : s.heap.objs.size ≠ z := Nat.ne_of_gt (Heap.lt_size hz)
    have hT2 : IsPair h2 s.heap.objs.size u' v' := sb2.extBut _ _ Tz hT'
    have hf0 := I.hok.fresh (Nat.le_refl s.heap.objs.size)
    have fz := I.fpOk (Nat.le_refl s.heap.objs.size) hf0
    have I2 : Inv X pins σ H { s with heap := h2 } := by
      refine I.turnedL (t' := s.toks) [z, TO, i1, i2] (fun c o hc' e => ?_) (fun c hc' => hf c ?_)
      · simp only [List.mem_cons, List.not_mem_nil, or_false, not_or] at hc'
        exact sb2.extBut _ _ hc'.1 (kp c o hc'.1 hc'.2.1 hc'.2.2.1 hc'.2.2.2 e)
      · simp only [List.mem_cons, List.not_mem_nil, or_false] at hc' ⊢
        rcases hc' with r | r | r | r
        · exact .inl r
        · exact .inr (.inr (.inl r))
        · exact .inr (.inr (.inr (.inl r)))
        · exact .inr (.inr (.inr (.inr r)))
    have I3 : Inv X pins σ (upd H s.heap.objs.size (.tup [x, y])) { s with heap := h2 } := by
      refine I2.trackO (show bO X.prog X.w _ _ _ (.tup [x, y]) from ⟨by show 2 <= sizeLine; rw [sizeLine_eq]; decide, [u', v'], 0, .cons ru (.cons rv2 .nil), hT2⟩) hf0 fz.2.1 I.sz fz.2.2.2.2.1 fz.2.2.2.2.2
    refine ⟨.ref s.heap.objs.size, _, I3, rfl, ⟨s.heap.objs.size, hf0, rfl, fun xs' ys' ha' hb' => ?_⟩, ⟨hz2, sb2.extBut _ _ DD.TIz (kp _ _ DD.TIz DD.TITO DD.TIi1 DD.TIi2 hTI), ⟨_, _, sb2.extBut _ _ DD.TOz hTO'⟩, s1.1.at fun o e => sb2.extBut _ _ DD.i1z e, s2.1.at fun o e => sb2.extBut _ _ DD.i2z e⟩, fun c hc' => ?_⟩
    · rw [I.seqK_inj ha' ha, I.seqK_inj hb' hb]
      exact ⟨x, y, hx, hy, rfl⟩
    · have cl : c ≠ s.heap.objs.size := by
        obtain ⟨o, e⟩ : ∃ o, s.heap.get? c = some o := by
          simp only [List.mem_cons, List.not_mem_nil, or_false] at hc'
          rcases hc' with rfl | rfl | rfl | rfl | rfl
          · exact ⟨_, hz⟩
          · exact ⟨_, hTI⟩
          · exact ⟨_, hTO⟩
          · obtain ⟨o, e, _⟩ := h1.obj; exact ⟨o, e⟩
          · obtain ⟨o, e, _⟩ := h2.obj; exact ⟨o, e⟩
        exact Nat.ne_of_lt (Heap.lt_size e)
      rw [aI cl]
      exact (hf c hc').1
  done := by
    intro X hP hw hK hc i pins s σ H E I hf st hg
    subst hP hw hK
    obtain ⟨hz, hTI, ⟨x0, y0, hTO⟩, h1, h2⟩ := st
    obtain ⟨xs, ys, ha, hb, hmin⟩ := hg
    obtain ⟨its, rv, pa⟩ := I.seqK ha
    obtain ⟨jts, rw', pb⟩ := I.seqK hb
    have la := rv.length
    have lb := rw'.length
    have na : ∀ c ∈ [z, TI, TO, i1, i2], a ≠ c := fun c hc' => I.seq_ne ha (hf c hc')
    have nb : ∀ c ∈ [z, TI, TO, i1, i2], b ≠ c := fun c hc' => I.seq_ne hb (hf c hc')
    have DD := D a b na nb
    have hT : s.TypeIs (.ref z) "zip" := ⟨_, hz, rfl⟩
    unfold pyNext
    refine wpAny_bind (wpAny_attempt (wpAny_callSpecial?_slot (name := Str.ofString "__next__") hT PySem.F.slot_zip_next (wpAny_call_entry PySem.F.slot_zip_next hT PySem.F.entry_zip_next
      (aC6 (I.ok.hd hc) DD (uB k1 X.prog X.w i1 a its.toArray (na i1 (by simp))) (uB k2 X.prog X.w i2 b jts.toArray (nb i2 (by simp))) hz hTI hTO ⟨h1, pa⟩ ⟨h2, pb⟩ (by rw [List.size_toArray, List.size_toArray]; omega) fun h' e kp he => ?_) (PySem.F.args_zip_next_1 _))))
    obtain ⟨oe, hoe, hce⟩ := he
    refine wpAny_bind (wpAny_isInstance (T := "StopIteration") (b := true) ⟨oe, hoe, hce⟩ isSubtype_stop (wpAny_pure ⟨rfl, ?_⟩))
    refine I.turnedL (t' := s.toks) [z, TO, i1, i2] (fun c o hc' e => ?_) (fun c hc' => hf c ?_)
    · simp only [List.mem_cons, List.not_mem_nil, or_false, not_or] at hc'
      exact kp c o hc'.1 hc'.2.1 hc'.2.2.1 hc'.2.2.2 e
    · simp only [List.mem_cons, List.not_mem_nil, or_false] at hc' ⊢
      rcases hc' with r | r | r | r
      · exact .inl r
      · exact .inr (.inr (.inl r))
      · exact .inr (.inr (.inr (.inl r)))
      · exact .inr (.inr (.inr (.inr r)))
  self := fun _ _ _ _ _ st h => wpAny_pyIter_zip st.1 h
abbrev zh1 (k1 : Sk) (h : Heap) (a : Addr) : Heap := h.push (itK k1 a)
abbrev zh2 (k1 k2 : Sk) (h : Heap) (a b : Addr) : Heap := (zh1 k1 h a).push (itK k2 b)
abbrev zh3 (k1 k2 : Sk) (h : Heap) (a b : Addr) : Heap := (zh2 k1 k2 h a b).push { cls := .type "tuple", data := .seq #[.ref h.objs.size, .ref (zh1 k1 h a).objs.size] }
abbrev zh4 (k1 k2 : Sk) (h : Heap) (a b : Addr) : Heap := (zh3 k1 k2 h a b).push { cls := .type "tuple", data := .seq #[.none, .none] }
abbrev zh5 (k1 k2 : Sk) (h : Heap) (a b : Addr) : Heap := (zh4 k1 k2 h a b).push { cls := .type "zip", data := .fields #[.none, .bool false, .bool false, .ref (zh2 k1 k2 h a b).objs.size, .ref (zh3 k1 k2 h a b).objs.size] }
theorem uC (k1 k2 : Sk) (a b : Addr) (xs ys : Array Value) :
    Meets (Builtin.«zip.__new__» ⟨[.type "zip", .ref a, .ref b], []⟩) (fun _ R s => AtK k1 s.heap a xs /\ AtK k2 s.heap b ys /\ R (.ok (.ret (.ref (zh4 k1 k2 s.heap a b).objs.size))) { s with heap := zh5 k1 k2 s.heap a b }) :=
  .of_wp fun prog w A R s h => by
    obtain ⟨hp, g, d, tk, os⟩ := s
    obtain ⟨hl1, hl2, h⟩ := h
    have hsub := sub_zip
    have hA : AtK k1 (Shared.heap ⟨hp, g, d, tk, os⟩) a xs := hl1
    have hB : AtK k2 (Shared.heap ⟨hp.push (itK k1 a), g, d, tk, os⟩) b ys := AtK.at hl2 fun o e => Heap.get?_push_of_some _ e
    wp_walk using aCB hA, aCB hB
    exact ⟨_, rfl, h⟩
section
variable {X : Cx} {es : List Expr} {x1 : Nat} {tpos : Pos}
def aEj (K : PySem.W.Frag) (k1 k2 : Sk) (ta : TA) : TI := fun σ H R => ta σ H fun vs H1 => ∃ a b xs ys, vs = [.ref a, .ref b] /\ SqK k1 K H1 a xs /\ SqK k2 K H1 b ys /\ R (Itz K k1 k2 a b) H1
theorem oB (k1 k2 : Sk) {a b : Expr} {ta : TA} {p pos : Pos} (hg : Gl X "zip") (hm : X.mg "zip" = none) (ha : PA X [a, b] ta) (hs : starEach [a, b] X.env = [(false, eval a X.env), (false, eval b X.env)] := by rfl) (hs2 : starEach [b] X.env = [(false, eval b X.env)] := by rfl) :
    PI X (.Tuple es x1 tpos) (.Call (.Name "zip" p) [a, b] [] pos) (aEj X.K k1 k2 ta) := by
  intro pins s σ H R I h
  refine Call_ (iM (u := .type "zip") I hg hm (by decide +kernel) (PyProof.Rows.callWith_type1 (thn (ha pos pins s σ H _ I h) fun us s1 hx9 => ?_) (by rw [hs, hs2]) (by rw [hs2]; rfl)))
  obtain ⟨vs, H1, I1, r1, q1⟩ := hx9
  obtain ⟨l1, l2, xs, ys, rfl, hA, hB, q⟩ := q1
  obtain ⟨u1, u2, rfl, r1', r2'⟩ := mS r1
  cases r1'
  cases r2'
  obtain ⟨its, rv, pa⟩ := I1.seqK hA
  obtain ⟨jts, rw', pb⟩ := I1.seqK hB
  refine callType_new PySem.F.called_zip (by decide) (PySem.F.typeCall_zip_2 _ _) (PySem.F.newCall_zip_2 _ _) (fun obj => PySem.F.args_object_init_3 obj _ _) PySem.F.entry_zip_new (uC k1 k2 l1 l2 its.toArray jts.toArray) ⟨pa, pb, ?_⟩
  have n1 : (zh1 k1 s1.heap l1).objs.size = s1.heap.objs.size + 1 := Heap.size_push ..
  have n2 : (zh2 k1 k2 s1.heap l1 l2).objs.size = s1.heap.objs.size + 2 := by rw [Heap.size_push, n1]
  have n3 : (zh3 k1 k2 s1.heap l1 l2).objs.size = s1.heap.objs.size + 3 := by rw [Heap.size_push, n2]
  have n4 : (zh4 k1 k2 s1.heap l1 l2).objs.size = s1.heap.objs.size + 4 := by rw [Heap.size_push, n3]
  have g5 : IsZip (zh5 k1 k2 s1.heap l1 l2) (zh4 k1 k2 s1.heap l1 l2).objs.size (zh2 k1 k2 s1.heap l1 l2).objs.size (zh3 k1 k2 s1.heap l1 l2).objs.size .none := Heap.get?_push_size _ rfl
  have g4 : IsPair (zh5 k1 k2 s1.heap l1 l2) (zh3 k1 k2 s1.heap l1 l2).objs.size .none .none := Heap.get?_push_of_some _ (Heap.get?_push_size _ rfl)
  have g3 : IsPair (zh5 k1 k2 s1.heap l1 l2) (zh2 k1 k2 s1.heap l1 l2).objs.size (.ref s1.heap.objs.size) (.ref (zh1 k1 s1.heap l1).objs.size) := Heap.get?_push_of_some _ (Heap.get?_push_of_some _ (Heap.get?_push_size _ rfl))
  have g2 : ItK k2 (zh5 k1 k2 s1.heap l1 l2) (zh1 k1 s1.heap l1).objs.size l2 0 := (ItK.new k2 (zh1 k1 s1.heap l1) l2).at fun o e => Heap.get?_push_of_some _ (Heap.get?_push_of_some _ (Heap.get?_push_of_some _ e))
  have g1 : ItK k1 (zh5 k1 k2 s1.heap l1 l2) s1.heap.objs.size l1 0 := (ItK.new k1 s1.heap l1).at fun o e => Heap.get?_push_of_some _ (Heap.get?_push_of_some _ (Heap.get?_push_of_some _ (Heap.get?_push_of_some _ e)))
  have kp : ∀ c o, s1.heap.get? c = some o -> (zh5 k1 k2 s1.heap l1 l2).get? c = some o := fun c o e => Heap.get?_push_of_some _ (Heap.get?_push_of_some _ (Heap.get?_push_of_some _ (Heap.get?_push_of_some _ (Heap.get?_push_of_some _ e))))
  refine ⟨⟨_, g5, rfl⟩, wpAny_pyIter_zip (f0 := .none) g5 ?_⟩
  rw [n1, n2, n3, n4] at *
  have I2 : Inv X pins σ H1 { s1 with heap := zh5 k1 k2 s1.heap l1 l2 } := I1.kept (t' := s1.toks) kp
  refine ⟨s1.heap.objs.size + 4, [s1.heap.objs.size + 4, s1.heap.objs.size + 2, s1.heap.objs.size + 3, s1.heap.objs.size, s1.heap.objs.size + 1], _, _, H1, rfl, I2, aAJ k1 k2 l1 l2 _ _ _ _ _ ?_, ⟨g5, g3, ⟨_, _, g4⟩, g1, g2⟩, fun c hc => ?_, q⟩
  · intro m1 m2 h1 h2
    have d : ∀ i j : Nat, i ≠ j -> s1.heap.objs.size + i ≠ s1.heap.objs.size + j := fun i j h => by omega
    exact ⟨d 2 4 (by decide), d 3 4 (by decide), d 0 4 (by decide), d 1 4 (by decide), d 2 3 (by decide), d 2 0 (by decide), d 2 1 (by decide), d 3 0 (by decide), d 3 1 (by decide), d 0 1 (by decide),
      h1 _ (by simp), h1 _ (by simp), h1 _ (by simp), h1 _ (by simp), h2 _ (by simp), h2 _ (by simp), h2 _ (by simp), h2 _ (by simp)⟩
  · have hc' : s1.heap.objs.size <= c := by
      simp only [List.mem_cons, List.not_mem_nil, or_false] at hc
      rcases hc with r | r | r | r | r
      · rw [r]; exact Nat.le_add_right _ _
      · rw [r]; exact Nat.le_add_right _ _
      · rw [r]; exact Nat.le_add_right _ _
      · rw [r]; exact Nat.le_refl _
      · rw [r]; exact Nat.le_add_right _ _
    exact I1.fpOk hc' (I1.hok.fresh hc')
end
end L2
set_option Elab.async false
set_option linter.all false
set_option maxRecDepth 100000
namespace L2
open PySem PySem.Spec PyProof.Rows
open PySem.AutoSeq1 (wpAny_loadPart')
section
variable {X : Cx}
end
end L2
set_option Elab.async false
set_option linter.all false
set_option maxRecDepth 100000
namespace L2
open PySem PySem.Spec PyProof.Rows
def xX (N frn : List Str) (fr : List Nat) : Bool := frn.length == fr.length && (frn.zip fr).all fun y => N[y.2]? == some y.1
theorem bU {X : Cx} {scope : Scope} {own frn : List Str} {fr : List Nat} (sc : Scope) (N : List Str) (h1 : X.env.scope = sc) (h2 : X.N = N) (h : (mC sc scope own frn && xX N frn fr) = true) : CompOk X scope own fr frn := by
  rw [Bool.and_eq_true] at h
  obtain ⟨ha, hb⟩ := h
  unfold xX at hb
  simp only [Bool.and_eq_true, beq_iff_eq, List.all_eq_true] at hb
  refine ⟨by rw [h1]; exact ha, fun k x hk => ?_, hb.1.symm⟩
  have hlt : k < fr.length := by rw [<- hb.1]; exact (List.getElem?_eq_some_iff.mp hk).1
  refine ⟨fr[k], List.getElem?_eq_getElem hlt, ?_⟩
  have hm : (x, fr[k]) ∈ frn.zip fr := by
    refine List.mem_of_getElem? (i := k) ?_
    rw [List.getElem?_zip_eq_some]
    exact ⟨hk, List.getElem?_eq_getElem hlt⟩
  rw [h2]
  exact hb.2 _ hm
section
variable {J : It} {own : Nat} {fr : List Nat} {g : TG} {tt : TT} {te : TE} {σ : St} {H : Hp} {Q : Hp -> List V -> Prop}
theorem lI (n : Nat) (hn : n <= sizeLine) (SH : St -> Prop) (Pv : Nat -> List V -> Hp -> Prop) (hσ : SH (blk own fr σ)) (h0 : Pv 0 [] H) (hlen : ∀ i ys H, Pv i ys H -> ys.length <= i)
    (hstop : ∀ ys H, Pv n ys H -> J.stop n H) (hgo : ∀ i ys H, i < n -> Pv i ys H -> J.go i H)
    (hs : ∀ i ys σ x H H', i < n -> SH σ -> Pv i ys H -> J.yld i H x H' -> ys.length < sizeLine -> g x σ H' fun σ2 H2 => tt σ2 H2 fun b H3 => if b = true then te σ2 H3 fun y H4 => ys.length < sizeLine /\ SH σ2 /\ Pv (i + 1) (ys ++ [y]) H4 else SH σ2 /\ Pv (i + 1) ys H3)
    (hd : ∀ ys H, Pv n ys H -> Q H ys) :
    ∃ W : Nat -> Nat -> List V -> St -> Hp -> Prop, (∃ m, W 0 m [] (blk own fr σ) H) /\ ∀ i m ys σ' H, W i m ys σ' H ->
      (J.stop i H /\ Q H ys) ∨
      (J.go i H /\ ∃ N : List V -> St -> Hp -> Prop, (∀ ys' σ2 H2, N ys' σ2 H2 -> ∃ m', m' < m /\ W (i + 1) m' ys' σ2 H2) /\
        ∀ x H', J.yld i H x H' -> g x σ' H' fun σ2 H2 => tt σ2 H2 fun b H3 => if b = true then te σ2 H3 fun y H4 => ys.length < sizeLine /\ N (ys ++ [y]) σ2 H4 else N ys σ2 H3) := by
  refine ⟨fun i m ys σ' H => m = n - i /\ i <= n /\ SH σ' /\ Pv i ys H, ⟨n, by simp, Nat.zero_le _, hσ, h0⟩, ?_⟩
  rintro i m ys σ' H ⟨rfl, hi, sh, p⟩
  by_cases hlt : i < n
  · refine .inr ⟨hgo i ys H hlt p, fun ys' σ2 H2 => SH σ2 /\ Pv (i + 1) ys' H2, fun ys' σ2 H2 ⟨e, q⟩ => ⟨n - (i + 1), by omega, rfl, hlt, e, q⟩, fun x H' y => ?_⟩
    exact hs i ys σ' x H H' hlt sh p y (by have := hlen i ys H p; omega)
  · have e : i = n := by omega
    subst e
    exact .inl ⟨hstop ys H p, hd ys H p⟩
theorem iK {K : PySem.W.Frag} {a : Addr} {xs : List V} (SH : St -> Prop) (Pv : Nat -> List V -> Hp -> Prop) (hn : xs.length <= sizeLine) (hσ : SH (blk own fr σ)) (h0 : Pv 0 [] H) (hlen : ∀ i ys H, Pv i ys H -> ys.length <= i) (hl : ∀ i ys H, Pv i ys H -> SqT K H a xs)
    (hs : ∀ i ys σ x H, xs[i]? = some x -> SH σ -> Pv i ys H -> ys.length < sizeLine -> g x σ H fun σ2 H2 => tt σ2 H2 fun b H3 => if b = true then te σ2 H3 fun y H4 => ys.length < sizeLine /\ SH σ2 /\ Pv (i + 1) (ys ++ [y]) H4 else SH σ2 /\ Pv (i + 1) ys H3)
    (hd : ∀ ys H, Pv xs.length ys H -> Q H ys) :
    ∃ W : Nat -> Nat -> List V -> St -> Hp -> Prop, (∃ m, W 0 m [] (blk own fr σ) H) /\ ∀ i m ys σ' H, W i m ys σ' H ->
      ((Itt K a).stop i H /\ Q H ys) ∨
      ((Itt K a).go i H /\ ∃ N : List V -> St -> Hp -> Prop, (∀ ys' σ2 H2, N ys' σ2 H2 -> ∃ m', m' < m /\ W (i + 1) m' ys' σ2 H2) /\
        ∀ x H', (Itt K a).yld i H x H' -> g x σ' H' fun σ2 H2 => tt σ2 H2 fun b H3 => if b = true then te σ2 H3 fun y H4 => ys.length < sizeLine /\ N (ys ++ [y]) σ2 H4 else N ys σ2 H3) := by
  refine lI xs.length hn SH Pv hσ h0 hlen (fun ys H p => ⟨xs, hl _ _ _ p, Nat.le_refl _⟩) (fun i ys H hi p => ⟨xs, xs[i], hl _ _ _ p, List.getElem?_eq_getElem hi⟩) (fun i ys σ x H H' hi sh p y hz => ?_) hd
  obtain ⟨e, y⟩ := y
  subst e
  exact hs i ys σ x _ (y xs (hl _ _ _ p)) sh p hz
theorem zN {K : PySem.W.Frag} {a : Addr} {xs : List V} (SH : St -> Prop) (Pv : Nat -> List V -> Hp -> Prop) (hn : xs.length <= sizeLine) (hσ : SH (blk own fr σ)) (h0 : Pv 0 [] H) (hlen : ∀ i ys H, Pv i ys H -> ys.length <= i) (hl : ∀ i ys H, Pv i ys H -> SqL K H a xs)
    (hs : ∀ i ys σ x H, xs[i]? = some x -> SH σ -> Pv i ys H -> ys.length < sizeLine -> g x σ H fun σ2 H2 => tt σ2 H2 fun b H3 => if b = true then te σ2 H3 fun y H4 => ys.length < sizeLine /\ SH σ2 /\ Pv (i + 1) (ys ++ [y]) H4 else SH σ2 /\ Pv (i + 1) ys H3)
    (hd : ∀ ys H, Pv xs.length ys H -> Q H ys) :
    ∃ W : Nat -> Nat -> List V -> St -> Hp -> Prop, (∃ m, W 0 m [] (blk own fr σ) H) /\ ∀ i m ys σ' H, W i m ys σ' H ->
      ((Itl K a).stop i H /\ Q H ys) ∨
      ((Itl K a).go i H /\ ∃ N : List V -> St -> Hp -> Prop, (∀ ys' σ2 H2, N ys' σ2 H2 -> ∃ m', m' < m /\ W (i + 1) m' ys' σ2 H2) /\
        ∀ x H', (Itl K a).yld i H x H' -> g x σ' H' fun σ2 H2 => tt σ2 H2 fun b H3 => if b = true then te σ2 H3 fun y H4 => ys.length < sizeLine /\ N (ys ++ [y]) σ2 H4 else N ys σ2 H3) := by
  refine lI xs.length hn SH Pv hσ h0 hlen (fun ys H p => ⟨xs, hl _ _ _ p, Nat.le_refl _⟩) (fun i ys H hi p => ⟨xs, xs[i], hl _ _ _ p, List.getElem?_eq_getElem hi⟩) (fun i ys σ x H H' hi sh p y hz => ?_) hd
  obtain ⟨e, y⟩ := y
  subst e
  exact hs i ys σ x _ (y xs (hl _ _ _ p)) sh p hz
theorem kO {lo : Int} {n : Nat} (SH : St -> Prop) (Pv : Nat -> List V -> Hp -> Prop) (hn : n <= sizeLine) (hσ : SH (blk own fr σ)) (h0 : Pv 0 [] H) (hlen : ∀ i ys H, Pv i ys H -> ys.length <= i)
    (hs : ∀ i ys σ H, i < n -> SH σ -> Pv i ys H -> ys.length < sizeLine -> g (.int (lo + i)) σ H fun σ2 H2 => tt σ2 H2 fun b H3 => if b = true then te σ2 H3 fun y H4 => ys.length < sizeLine /\ SH σ2 /\ Pv (i + 1) (ys ++ [y]) H4 else SH σ2 /\ Pv (i + 1) ys H3)
    (hd : ∀ ys H, Pv n ys H -> Q H ys) :
    ∃ W : Nat -> Nat -> List V -> St -> Hp -> Prop, (∃ m, W 0 m [] (blk own fr σ) H) /\ ∀ i m ys σ' H, W i m ys σ' H ->
      ((Itr lo n).stop i H /\ Q H ys) ∨
      ((Itr lo n).go i H /\ ∃ N : List V -> St -> Hp -> Prop, (∀ ys' σ2 H2, N ys' σ2 H2 -> ∃ m', m' < m /\ W (i + 1) m' ys' σ2 H2) /\
        ∀ x H', (Itr lo n).yld i H x H' -> g x σ' H' fun σ2 H2 => tt σ2 H2 fun b H3 => if b = true then te σ2 H3 fun y H4 => ys.length < sizeLine /\ N (ys ++ [y]) σ2 H4 else N ys σ2 H3) := by
  refine lI n hn SH Pv hσ h0 hlen (fun ys H p => Nat.le_refl _) (fun i ys H hi p => hi) (fun i ys σ x H H' hi sh p y hz => ?_) hd
  obtain ⟨e, y⟩ := y
  subst e y
  exact hs i ys σ _ hi sh p hz
theorem aAK {K : PySem.W.Frag} {k1 k2 : Sk} {a b : Addr} {xs ys : List V} (SH : St -> Prop) (Pv : Nat -> List V -> Hp -> Prop) (hn : xs.length <= sizeLine) (heq : xs.length = ys.length) (hσ : SH (blk own fr σ)) (h0 : Pv 0 [] H) (hlen : ∀ i zs H, Pv i zs H -> zs.length <= i) (hl : ∀ i zs H, Pv i zs H -> SqK k1 K H a xs /\ SqK k2 K H b ys)
    (hs : ∀ i zs σ x y p H, xs[i]? = some x -> ys[i]? = some y -> SH σ -> Pv i zs H -> H p = none -> zs.length < sizeLine -> g (.ref p) σ (upd H p (.tup [x, y])) fun σ2 H2 => tt σ2 H2 fun c H3 => if c = true then te σ2 H3 fun y H4 => zs.length < sizeLine /\ SH σ2 /\ Pv (i + 1) (zs ++ [y]) H4 else SH σ2 /\ Pv (i + 1) zs H3)
    (hd : ∀ zs H, Pv xs.length zs H -> Q H zs) :
    ∃ W : Nat -> Nat -> List V -> St -> Hp -> Prop, (∃ m, W 0 m [] (blk own fr σ) H) /\ ∀ i m ys σ' H, W i m ys σ' H ->
      ((Itz K k1 k2 a b).stop i H /\ Q H ys) ∨
      ((Itz K k1 k2 a b).go i H /\ ∃ N : List V -> St -> Hp -> Prop, (∀ ys' σ2 H2, N ys' σ2 H2 -> ∃ m', m' < m /\ W (i + 1) m' ys' σ2 H2) /\
        ∀ x H', (Itz K k1 k2 a b).yld i H x H' -> g x σ' H' fun σ2 H2 => tt σ2 H2 fun b H3 => if b = true then te σ2 H3 fun y H4 => ys.length < sizeLine /\ N (ys ++ [y]) σ2 H4 else N ys σ2 H3) := by
  refine lI xs.length hn SH Pv hσ h0 hlen (fun zs H p => ⟨xs, ys, (hl _ _ _ p).1, (hl _ _ _ p).2, by rw [<- heq, Nat.min_self]⟩) (fun i zs H hi p => ⟨xs, ys, xs[i], ys[i]'(by omega), (hl _ _ _ p).1, (hl _ _ _ p).2, List.getElem?_eq_getElem hi, List.getElem?_eq_getElem (by omega)⟩) (fun i zs σ v H H' hi sh p y hz => ?_) hd
  obtain ⟨q, hq, rfl, hy⟩ := y
  obtain ⟨x, y, h1, h2, rfl⟩ := hy xs ys (hl _ _ _ p).1 (hl _ _ _ p).2
  exact hs i zs σ x y q H h1 h2 sh p hq hz
end
end L2
set_option Elab.async false
set_option linter.all false
set_option maxRecDepth 100000
namespace L2
open PySem PySem.Spec PyProof.Rows
section
variable {X : Cx}
def aDO (i j : Int) : Prop := 0 < j /\ j < 1267650600228229401496703205376
theorem aAL : OpR X (binaryOp .FloorDiv) (rI aDO fun i j => .int (i / j)) := opI fun i j _ _ _ _ _ hc q => by
  have h1 : (0 : Int) < j := hc.1
  have h2 : j < 1267650600228229401496703205376 := hc.2
  refine floordiv_int (by omega) (by rw [Int.fdiv_eq_ediv_of_nonneg i (by omega)]; exact q) (.inl (PyProof.noPylong_of_log2 ?_))
  have h3 : j.natAbs.log2 < 100 := (Nat.log2_lt (by omega)).mpr (by omega)
  omega
theorem gN : OpR X (compareOp .IsNot) (fun x y H Q => ∃ b c, x = .bl b /\ y = .bl c /\ Q (.bl (!decide (b = c))) H) := by
  intro pins s σ H x y v u Q I rx ry h
  obtain ⟨b, c, rfl, rfl, q⟩ := h
  cases rx
  cases ry
  refine isnot_bool (bM I q ?_)
  cases b <;> cases c <;> rfl
theorem uD {α β : Type} {f g : α -> Option β} : ∀ {l : List α}, (∀ x ∈ l, f x = g x) -> l.filterMap f = l.filterMap g
  | [], _ => rfl
  | x :: r, h => by rw [List.filterMap_cons, List.filterMap_cons, h x (List.mem_cons_self ..), uD fun y hy => h y (List.mem_cons_of_mem _ hy)]
theorem aAM (xs : Array Value) : ((List.range xs.size).filterMap fun (k : Nat) => xs[((xs.size : Int) - 1 + (k : Int) * (-1)).toNat]?).toArray = xs.toList.reverse.toArray := by
  have h := HT.pick_gen xs.toList.reverse.toArray 0 xs.size
  have e : (List.range xs.size).filterMap (fun (k : Nat) => xs[((xs.size : Int) - 1 + (k : Int) * (-1)).toNat]?) = (List.range xs.size).filterMap (fun (m : Nat) => xs.toList.reverse.toArray[(((0 : Nat) : Int) + (m : Int) * 1).toNat]?) := by
    refine uD fun k hk => ?_
    have hk' := List.mem_range.mp hk
    have h1 : ((xs.size : Int) - 1 + (k : Int) * (-1)).toNat = xs.size - 1 - k := by omega
    have h2 : (((0 : Nat) : Int) + (k : Int) * 1).toNat = k := by omega
    rw [h1, h2]
    simp only [List.getElem?_toArray]
    rw [List.getElem?_reverse (by simpa using hk')]
    simp
  rw [e, h]
  congr 1
  rw [List.drop_zero, List.take_of_length_le (by simp)]
end
end L2
set_option Elab.async false
set_option linter.all false
set_option maxRecDepth 100000
namespace L2
open PySem PySem.Spec PyProof.Rows
def Vw (S : List Addr) (H : Hp) : Hp := fun b => if b ∈ S then none else H b
theorem Vw.out {S : List Addr} {H : Hp} {b : Addr} (n : b ∉ S) : Vw S H b = H b := by unfold Vw; rw [if_neg n]
theorem Vw.sub {S : List Addr} {H : Hp} : aE (Vw S H) H := fun b o h => by
  by_cases z : b ∈ S
  · unfold Vw at h; rw [if_pos z] at h; cases h
  · rw [Vw.out z] at h; exact h
theorem Vw.keep {S : List Addr} {H H' : Hp} (e : ∀ b o, b ∉ S -> H b = some o -> H' b = some o) : aE (Vw S H) (Vw S H') := fun b o h => by
  by_cases z : b ∈ S
  · unfold Vw at h; rw [if_pos z] at h; cases h
  · rw [Vw.out z] at h ⊢; exact e b o z h
theorem Vw.same {S : List Addr} {H H' : Hp} (e : aE H H') : aE (Vw S H) (Vw S H') := Vw.keep fun b o _ h => e b o h
def Fx (S : List Addr) (H : Hp) : Prop := ∀ b ∈ S, ∃ xs, H b = some (.lst xs)
theorem Fx.same {S : List Addr} {H H' : Hp} (f : Fx S H) (e : aE H H') : Fx S H' := fun b hb => let ⟨xs, h⟩ := f b hb; ⟨xs, e b _ h⟩
theorem Fx.new {S : List Addr} {H : Hp} {p : Addr} (f : Fx S H) (h : H p = none) : p ∉ S := fun z => by
  obtain ⟨xs, q⟩ := f p z
  rw [q] at h; cases h
theorem Fx.nil {H : Hp} : Fx [] H := fun _ h => (List.not_mem_nil h).elim
section
variable {K : PySem.W.Frag} {S : List Addr} {H H' H0 : Hp}
theorem Fx.seqT {a : Addr} {xs : List V} (f : Fx S H) (h : SqT K H a xs) : SqT K (Vw S H) a xs := by
  rcases h with (h | ⟨o, h⟩) | h
  · exact .inl (.inl (by rw [Vw.out fun z => by obtain ⟨ys, q⟩ := f a z; rw [q] at h; cases h]; exact h))
  · exact .inl (.inr ⟨o, by rw [Vw.out fun z => by obtain ⟨ys, q⟩ := f a z; rw [q] at h; cases h]; exact h⟩)
  · exact .inr h
theorem Vw.at {p : Addr} {o : HO} (f : Fx S H) (h : H p = none) : Vw S (upd H p o) p = some o := by rw [Vw.out (f.new h)]; exact aB
def Dn (K : PySem.W.Frag) (S : List Addr) (H : Hp) (x : V) : Prop := ∃ d, Den K (Vw S H) d x
def DT (K : PySem.W.Frag) (S : List Addr) (n : Nat) (H : Hp) (x : V) : Prop := ∃ a xs, x = .ref a /\ SqT K (Vw S H) a xs /\ xs.length <= n /\ ∀ y ∈ xs, Dn K S H y
def II (_ : Hp) (x : V) : Prop := ∃ i, x = .int i
class Mo (R : Hp -> V -> Prop) : Prop where
  mo : ∀ {H H' : Hp} {v : V}, aE H H' -> R H v -> R H' v
theorem Dn.keep {x : V} (h : Dn K S H x) (e : aE (Vw S H) (Vw S H')) : Dn K S H' x := let ⟨d, h⟩ := h; ⟨d, e.den _ _ h⟩
theorem Dn.same {x : V} (h : Dn K S H x) (e : aE H H') : Dn K S H' x := h.keep (Vw.same e)
theorem DT.keep {n : Nat} {x : V} (h : DT K S n H x) (e : aE (Vw S H) (Vw S H')) : DT K S n H' x := let ⟨a, xs, h1, h2, h3, h4⟩ := h; ⟨a, xs, h1, e.seqT h2, h3, fun y hy => (h4 y hy).keep e⟩
theorem DT.same {n : Nat} {x : V} (h : DT K S n H x) (e : aE H H') : DT K S n H' x := h.keep (Vw.same e)
instance : Mo (Dn K S) := ⟨fun e h => Dn.same h e⟩
instance {n : Nat} : Mo (DT K S n) := ⟨fun e h => DT.same h e⟩
instance : Mo II := ⟨fun _ h => h⟩
theorem aAN (i : Int) : Dn K S H (.int i) := ⟨.int i, eE.mpr rfl⟩
theorem II.dn {x : V} (h : II H x) : Dn K S H x := let ⟨i, h⟩ := h; h ▸ aAN i
theorem aAO : ∀ {xs : List V}, (∀ x ∈ xs, Dn K S H x) -> ∃ ds, aV K (Vw S H) ds xs
  | [], _ => ⟨[], bD.mpr rfl⟩
  | x :: r, h => by
    obtain ⟨d, hd⟩ := h x (List.mem_cons_self ..)
    obtain ⟨ds, hds⟩ := aAO (xs := r) fun y hy => h y (List.mem_cons_of_mem _ hy)
    exact ⟨d :: ds, aX.mpr ⟨x, r, rfl, hd, hds⟩⟩
theorem DT.dn {n : Nat} {x : V} (h : DT K S n H x) : Dn K S H x := by
  obtain ⟨a, xs, rfl, h2, _, h4⟩ := h
  obtain ⟨ds, hds⟩ := aAO h4
  exact ⟨.tuple ds, cJ.mpr ⟨a, xs, rfl, h2, hds⟩⟩
theorem aBV {l : List Int} : ∀ x ∈ l.map V.int, Dn K S H x := fun x hx => by
  obtain ⟨i, _, rfl⟩ := List.mem_map.mp hx
  exact aAN i
theorem DT.ints {a : Addr} {l : List Int} {n : Nat} (f : Fx S H) (h : SqT K H a (l.map V.int)) (hn : l.length <= n) : DT K S n H (.ref a) := ⟨a, _, rfl, f.seqT h, by rw [List.length_map]; exact hn, aBV⟩
def Al (H0 : Hp) (S : List Addr) (te : TE) (σ : St) (R : Hp -> V -> Prop) : Prop := ∀ H, aE H0 H -> Fx S H -> ∀ Q : VK, (∀ v H', aE H H' -> R H' v -> Q v H') -> te σ H Q
variable {σ : St} {R R' : Hp -> V -> Prop} {te ta tb ts : TE} {t tr : TA} {tl th : TO}
theorem Al.mono (h : Al H0 S te σ R) (m : ∀ H v, R H v -> R' H v) : Al H0 S te σ R' := fun H s f Q k => h H s f Q fun v H' s' r => k v H' s' (m H' v r)
theorem Al.i (h : Al H0 S te σ II) : Al H0 S te σ (Dn K S) := h.mono fun _ _ r => r.dn
theorem Al.d {n : Nat} (h : Al H0 S te σ (DT K S n)) : Al H0 S te σ (Dn K S) := h.mono fun _ _ r => r.dn
instance {a : Addr} {xs : List V} : Mo (fun H v => v = .ref a /\ SqT K H a xs) := ⟨fun e h => ⟨h.1, e.seqT h.2⟩⟩
instance {x : V} : Mo (fun _ v => v = x) := ⟨fun _ h => h⟩
end
end L2
set_option Elab.async false
set_option linter.all false
set_option maxRecDepth 100000
namespace L2
open PySem PySem.Spec PyProof.Rows
open PySem.AutoSeq1 (wpAny_loadPart')
theorem nf {b : Bool} (h : b = false) : decide (b = true) = false := by rw [h]; rfl
theorem nt {b : Bool} (h : b = true) : decide (b = true) = true := by rw [h]; rfl
section
variable {X : Cx} {pins : List (Addr × Obj)} {σ : St} {H : Hp} {s : Shared}
end
section
variable {K : PySem.W.Frag} {S : List Addr} {H H' H0 : Hp} {E E' : Hp -> V -> Prop}
def DTe (K : PySem.W.Frag) (S : List Addr) (E : Hp -> V -> Prop) (n : Nat) (H : Hp) (x : V) : Prop := ∃ a xs, x = .ref a /\ SqT K (Vw S H) a xs /\ xs.length <= n /\ ∀ y ∈ xs, E H y
def LTe (S : List Addr) (E : Hp -> V -> Prop) (n : Nat) (H : Hp) (x : V) : Prop := ∃ a xs, x = .ref a /\ Vw S H a = some (.lst xs) /\ xs.length <= n /\ ∀ y ∈ xs, E H y
instance {n : Nat} [m : Mo E] : Mo (DTe K S E n) := ⟨fun e ⟨a, xs, h1, h2, h3, h4⟩ => ⟨a, xs, h1, (Vw.same e).seqT h2, h3, fun y hy => m.mo e (h4 y hy)⟩⟩
instance {n : Nat} [m : Mo E] : Mo (LTe S E n) := ⟨fun e ⟨a, xs, h1, h2, h3, h4⟩ => ⟨a, xs, h1, Vw.same e _ _ h2, h3, fun y hy => m.mo e (h4 y hy)⟩⟩
variable {σ : St} {te ta tb ts : TE} {t tr : TA} {tl th : TO}
end
section
variable {env : Env} {lW es : List Expr} {k : Nat} {pos : Pos} {a b c : Expr}
end
end L2
set_option Elab.async false
set_option linter.all false
set_option maxRecDepth 100000
namespace L2
open PySem PySem.Spec PyProof.Rows
def oC (sc scope : Scope) (z0 : Str) (own : List Str) (frn : List Str) : Bool :=
  scope.kind == .function && scope.names.all (fun y => y.2 != .cell || y.1 == z0) && scope.names.all (fun y => y.2 != .local || scope.names.lookup y.1 == some .local) &&
  scope.names.all (fun y => y.2 != .free || sc.names.lookup y.1 == some .cell || sc.names.lookup y.1 == some .free) && decide (own ++ frn).Nodup &&
  frn.all (fun x => scope.names.lookup x == some .free) && scope.names.lookup z0 == some .cell && scope.names.all (fun y => y.2 != .free || y.1 != z0)
structure CompOk1 (X : Cx) (scope : Scope) (z0 : Str) (own : List Str) (fr : List Nat) (frn : List Str) : Prop where
  ck : oC X.env.scope scope z0 own frn = true
  ix : ∀ (k : Nat) (x : Str), frn[k]? = some x -> ∃ j : Nat, fr[k]? = some j /\ X.N[j]? = some x
  len : fr.length = frn.length
  cf : ∀ (n : Nat) (cl : List (Str × Addr)), cellsFrom n scope.names cl = (z0, n) :: cl
  pc : ∀ h : Heap, pushCells h scope.names = h.push { cls := .type "cell", data := .cell none }
section
variable {X : Cx} {scope : Scope} {z0 : Str} {own frn : List Str} {fr : List Nat}
theorem CompOk1.parts (S : CompOk1 X scope z0 own fr frn) : scope.kind = .function /\ (∀ y ∈ scope.names, y.2 = .cell -> y.1 = z0) /\ (∀ y ∈ scope.names, y.2 = .local -> scope.names.lookup y.1 = some .local) /\
    (∀ y ∈ scope.names, y.2 = .free -> X.env.scope.names.lookup y.1 = some .cell ∨ X.env.scope.names.lookup y.1 = some .free) /\ (own ++ frn).Nodup /\ (∀ x ∈ frn, scope.names.lookup x = some .free) /\ scope.names.lookup z0 = some .cell /\ ∀ y ∈ scope.names, y.2 = .free -> y.1 ≠ z0 := by
  have h := S.ck
  unfold oC at h
  simp only [Bool.and_eq_true, List.all_eq_true, decide_eq_true_eq, Bool.or_eq_true, bne_iff_ne, ne_eq, beq_iff_eq] at h
  obtain ⟨⟨⟨⟨⟨⟨⟨h1, h2⟩, h3⟩, h4⟩, h5⟩, h7⟩, h8⟩, h9⟩ := h
  refine ⟨h1, fun y hy e => ?_, fun y hy e => ?_, fun y hy e => ?_, h5, h7, h8, fun y hy e => ?_⟩
  · rcases h2 y hy with z | z
    · exact absurd e z
    · exact z
  · rcases h3 y hy with z | z
    · exact absurd e z
    · exact z
  · rcases h4 y hy with (z | z) | z
    · exact absurd e z
    · exact .inl z
    · exact .inr z
  · rcases h9 y hy with z | z
    · exact absurd e z
    · exact z
end
section
variable {X : Cx} {scope : Scope} {z0 : Str} {own frn : List Str} {fr : List Nat} {elt tg iter : Expr} {ifs : List Expr} {pos : Pos} {wi : TI} {g : TG} {tt : TT} {te : TE}
theorem CompOk1.clo {pins : List (Addr × Obj)} {σ : St} {H : Hp} {s : Shared} (S : CompOk1 X scope z0 own fr frn) (I : Inv X pins σ H s) : closureFor scope X.env = pure (cU X.env scope.names []) := by
  obtain ⟨p1, p2, p3, p4, p5, p7, p8, p9⟩ := S.parts
  exact wA fun y hy e => I.ok.has y.1 (p4 y hy e)
end
end L2
set_option Elab.async false
set_option linter.all false
set_option maxRecDepth 100000
namespace L2
open PySem PySem.Spec PyProof.Rows
section
variable {X : Cx}
end
theorem xY {K : PySem.W.Frag} {k1 k2 : Sk} {a b : Addr} {xs ys : List V} {g : TG} {tb : TS} {D : Ends} {σ : St} {H : Hp} (Pv : Nat -> St -> Hp -> Prop) (heq : xs.length = ys.length) (h0 : Pv 0 σ H) (hl : ∀ i σ H, i <= xs.length -> Pv i σ H -> SqK k1 K H a xs /\ SqK k2 K H b ys)
    (hs : ∀ i x y p σ H, xs[i]? = some x -> ys[i]? = some y -> Pv i σ H -> H p = none -> g (.ref p) σ (upd H p (.tup [x, y])) fun σ2 H2 => tb { D with nx := Pv (i + 1), ct := Pv (i + 1), bk := D.nx } σ2 H2) (hd : ∀ σ H, Pv xs.length σ H -> D.nx σ H) :
    ∃ W : Nat -> Nat -> St -> Hp -> Prop, (∃ m, W 0 m σ H) /\ ∀ i m σ H, W i m σ H ->
      ((Itz K k1 k2 a b).stop i H /\ D.nx σ H) ∨ ((Itz K k1 k2 a b).go i H /\ ∃ N : St -> Hp -> Prop, (∀ σ' H', N σ' H' -> ∃ m', m' < m /\ W (i + 1) m' σ' H') /\ ∀ x H', (Itz K k1 k2 a b).yld i H x H' -> g x σ H' fun σ2 H2 => tb { D with nx := N, ct := N, bk := D.nx } σ2 H2) := by
  refine ⟨fun i m σ H => m = xs.length - i /\ i <= xs.length /\ Pv i σ H, ⟨xs.length, by simp, Nat.zero_le _, h0⟩, ?_⟩
  rintro i m σ H ⟨rfl, hi, p⟩
  obtain ⟨q1, q2⟩ := hl i σ H hi p
  by_cases hlt : i < xs.length
  · refine .inr ⟨⟨xs, ys, xs[i], ys[i]'(by omega), q1, q2, List.getElem?_eq_getElem hlt, List.getElem?_eq_getElem (by omega)⟩, Pv (i + 1), fun σ' H' p' => ⟨xs.length - (i + 1), by omega, rfl, hlt, p'⟩, fun x H' y => ?_⟩
    obtain ⟨z, hz, rfl, hy⟩ := y
    obtain ⟨x, y, h1, h2, rfl⟩ := hy xs ys q1 q2
    exact hs i x y z σ _ h1 h2 p hz
  · have e : i = xs.length := by omega
    subst e
    exact .inl ⟨⟨xs, ys, q1, q2, by rw [<- heq, Nat.min_self]⟩, hd σ H p⟩
end L2
set_option Elab.async false
set_option linter.all false
set_option maxRecDepth 100000
namespace L2
open PySem PySem.Spec PyProof.Rows
section
variable {P : Program} {w : World} {K : PySem.W.Frag} {mg : Str -> Option Value} {base : Heap} {N : List Str} {qual : Str} {scope : Scope} {f : Addr} {cd : Value} {A : Around} {outer : List Env} {s0 : Shared} {H0 : Hp} {E : XK}
end
end L2
set_option Elab.async false
set_option linter.all false
set_option maxRecDepth 100000
namespace L2
open PySem PySem.Spec PyProof.Rows
abbrev vbm : List Value := [.type "ValueError", .type "Exception", .type "BaseException", .type "object"]
def qns : List Str := ["__init__", "__getattribute__", "__getattr__", "__class__"]
inductive TailN (h : Heap) (bmB : List Value) : List Value -> Prop
  | base : TailN h bmB bmB
  | own {A : Addr} {c0 : Value} {dd : Option Addr} {cd : ClassData} {sl : Array (Option Value)} {mA : Str -> Option Value} {tl : List Value} :
      h.get? A = some { cls := c0, dict := dd, data := .cls cd, slots := sl } -> h.Ns cd.ns mA -> (∀ n ∈ qns, mA n = none) -> TailN h bmB tl -> TailN h bmB (.ref A :: tl)
theorem TailN.tail {h : Heap} {bmB tl : List Value} (T : TailN h bmB tl) : OwnTail h bmB tl := by
  induction T with
  | base => exact .base
  | own hA hN hq _ ih => exact .own hA hN (hq _ (.head _)) ih
theorem TailN.keeps {h h' : Heap} {bmB tl : List Value} (T : TailN h bmB tl) (hk : ∀ b o, h.get? b = some o -> h'.get? b = some o) : TailN h' bmB tl := by
  induction T with
  | base => exact .base
  | own hA hN hq _ ih => exact .own (hk _ _ hA) (hN.keeps hk) hq ih
def EcH (h : Heap) (C : Addr) (bm : List Value) : Prop := ∃ N nm q bs hdct sn sub ab col dd k0 k1 k2 k3 k5 mN, h.get? C = some (excClassObj nm q C N bs bm hdct sn sub ab col dd k0 k1 k2 k3 k5 "ValueError.__new__") /\ h.Ns N mN /\ (∀ n ∈ qns, mN n = none) /\ TailN h vbm bm
theorem EcH.keeps {h h' : Heap} {C : Addr} {bm : List Value} (x : EcH h C bm) (hk : ∀ b o, h.get? b = some o -> h'.get? b = some o) : EcH h' C bm := by
  obtain ⟨N, nm, q, bs, hdct, sn, sub, ab, col, dd, k0, k1, k2, k3, k5, mN, hC, hN, hq, T⟩ := x
  exact ⟨N, nm, q, bs, hdct, sn, sub, ab, col, dd, k0, k1, k2, k3, k5, mN, hk _ _ hC, hN.keeps hk, hq, T.keeps hk⟩
section
variable {M : Model} {prog : Program} {w : World} {A : Around} {E : Value -> Shared -> Prop} {h : Heap} {g : Array GenState} {d : Drawn} {t : Nat} {os : OsState} {a C : Addr} {o : Obj} {bm : List Value}
theorem EcH.has {T : String} (x : EcH h C bm) (hb : vbm.contains (.type T) = true) : (Value.ref C :: bm).contains (.type T) = true := by
  obtain ⟨N, nm, q, bs, hdct, sn, sub, ab, col, dd, k0, k1, k2, k3, k5, mN, hC, hN, hmN, TT⟩ := x
  rw [List.contains_cons, TT.tail.hasType hb, Bool.or_true]
end
end L2
set_option Elab.async false
set_option linter.all false
set_option maxRecDepth 100000
namespace L2
open PySem PySem.Spec PyProof.Rows
section
variable {M : Model} {prog : Program} {w : World} {A : Around} {E : Value -> Shared -> Prop} {h : Heap} {g : Array GenState} {d : Drawn} {t : Nat} {os : OsState} {a C : Addr} {o : Obj} {bm : List Value}
end
end L2
set_option Elab.async false
set_option linter.all false
set_option maxRecDepth 100000
namespace L2
open PySem PySem.Spec PyProof.Rows
section
variable {X : Cx}
end
end L2
set_option Elab.async false
set_option linter.all false
set_option maxRecDepth 100000
namespace L2
open PySem PySem.Spec PyProof.Rows
section
variable {P : Program} {w : World} {l : List Env} {H H' : Hp} {s s' : Shared} {E : XK} {a T C : Addr}
end
section
variable {X : Cx} {pins : List (Addr × Obj)} {σ : St} {H : Hp} {s s' : Shared} {E : XK} {e : Value} {M : Model} {A : Around} {F : Value -> Shared -> Prop} {L : Addr}
end
end L2
set_option Elab.async false
set_option linter.all false
set_option maxRecDepth 100000
namespace L2
open PySem PySem.Spec PyProof.Rows
section
variable {M : Model} {A : Around} {E : Value -> Shared -> Prop} {h : Heap} {g : Array GenState} {d : Drawn} {t : Nat} {os : OsState} {a C C' : Addr} {oe : Obj} {bm bm' : List Value}
end
abbrev TB := Ends -> XK -> St -> Hp -> Prop
section
variable {X : Cx} {k : Nat} {f : Addr} {fd : FuncData} {ps : List Str} {sp : Sp} {dvs : List V} {ds : List Value} {x : Str} {p pos apos : Pos} {e : Expr} {es : List Expr} {t : TA}
end
end L2
set_option Elab.async false
set_option linter.all false
set_option maxRecDepth 100000
namespace L2
open PySem PySem.Spec PyProof.Rows
section
variable {X : Cx} {K : PySem.W.Frag}
end
end L2
set_option Elab.async false
set_option linter.all false
set_option maxRecDepth 100000
namespace L2
open PySem PySem.Spec PyProof.Rows
structure PEo (X : Cx) (e : Expr) (t : TE) : Prop where
  go : PE X e t
structure PAo (X : Cx) (es : List Expr) (t : TA) : Prop where
  go : PA X es t
structure PSo (X : Cx) (st : Stmt) (t : TS) : Prop where
  go : PS X st t
structure PSso (X : Cx) (sts : List Stmt) (t : TS) : Prop where
  go : PSs X sts t
section
variable {X : Cx} {pos : Pos} {e a b : Expr} {es : List Expr} {te ta tb : TE} {t : TA} {st : Stmt} {lW : List Stmt} {ts us : TS}
end
end L2
set_option Elab.async false
set_option linter.all false
set_option maxRecDepth 100000
namespace L2
open PySem PySem.Spec PyProof.Rows
def tDt (K : PySem.W.Frag) (Z : List Addr) (S : St -> Prop) (d : PyData) : TE := fun σ H Q => S σ /\ Fx Z H /\ ∀ v H', aE H H' -> Den K (Vw Z H') d v -> Q v H'
def tDA (K : PySem.W.Frag) (Z : List Addr) (S : St -> Prop) (ds : List PyData) : TA := fun σ H Q => S σ /\ Fx Z H /\ ∀ vs H', aE H H' -> aV K (Vw Z H') ds vs -> Q vs H'
structure Dt (X : Cx) (K : PySem.W.Frag) (Z : List Addr) (S : St -> Prop) (e : Expr) (d : PyData) : Prop where
  go : PE X e (tDt K Z S d)
structure DA (X : Cx) (K : PySem.W.Frag) (Z : List Addr) (S : St -> Prop) (es : List Expr) (ds : List PyData) : Prop where
  go : PA X es (tDA K Z S ds)
section
variable {X : Cx} {K : PySem.W.Frag} {Z : List Addr} {S : St -> Prop} {te : TE} {pos : Pos} {e a b : Expr} {es : List Expr} {d : PyData} {ds : List PyData}
theorem PE.imp {t t' : TE} (h : PE X e t) (q : ∀ σ H Q, t' σ H Q -> t σ H Q) : PE X e t' := fun pins s σ H Q I z => h pins s σ H Q I (q σ H Q z)
theorem PA.imp {t t' : TA} (h : PA X es t) (q : ∀ σ H Q, t' σ H Q -> t σ H Q) : PA X es t' := fun pos pins s σ H Q I z => h pos pins s σ H Q I (q σ H Q z)
theorem PSso.ex {sts : List Stmt} {t : TS} {R : TS -> Prop} (h : PSso X sts t) (r : R t) : ∃ t, PSs X sts t /\ R t := ⟨t, h.go, r⟩
end
end L2
set_option Elab.async false
set_option linter.all false
set_option maxRecDepth 100000
namespace L2
open PySem PySem.Spec PyProof.Rows
section
variable {X : Cx} {tg l : Expr} {body : List Stmt} {tl : TE} {g : TG} {tb : TS} {pos : Pos}
end
end L2
set_option Elab.async false
set_option linter.all false
set_option maxRecDepth 100000
namespace L2
open PySem PySem.Spec PyProof.Rows
end L2
set_option Elab.async false
set_option linter.all false
set_option maxRecDepth 100000
namespace L2
open PySem PySem.Spec PyProof.Rows
def kB : List Int -> Nat
  | [] => 0
  | k :: r => if k ∈ r then kB r else kB r + 1
def iX (l : List Int) : Nat := kB l.reverse
theorem zO (l : List Int) (k : Int) : iX (l ++ [k]) = if k ∈ l then iX l else iX l + 1 := by
  unfold iX
  rw [List.reverse_append]
  show kB (k :: l.reverse) = _
  simp only [kB, List.mem_reverse]
theorem oE : ∀ l : List Int, kB l <= l.length
  | [] => Nat.le_refl _
  | k :: r => by
    have := oE r
    unfold kB
    split <;> simp <;> omega
theorem aBW (l : List Int) : iX l <= l.length := by
  have := oE l.reverse
  rwa [List.length_reverse] at this
theorem mV : ∀ l : List Int, kB l = l.length ↔ l.Nodup
  | [] => by simp [kB]
  | k :: r => by
    have h1 := mV r
    have h2 := oE r
    unfold kB
    rw [List.nodup_cons, <- h1, List.length_cons]
    by_cases hk : k ∈ r
    · rw [if_pos hk]
      constructor
      · intro h; omega
      · intro h; exact absurd hk h.1
    · rw [if_neg hk]
      constructor
      · intro h; exact ⟨hk, by omega⟩
      · intro h; omega
theorem wH (l : List Int) : iX l = l.length ↔ l.Nodup := by
  have h := mV l.reverse
  rw [List.length_reverse] at h
  unfold iX
  rw [h]
  unfold List.Nodup
  rw [List.pairwise_reverse]
  constructor <;> intro h <;> exact h.imp fun z => Ne.symm z
section
variable {prog : Program} {w : World} {A : Around} {E : Value -> Shared -> Prop} {s : Shared}
theorem zP {a : Addr} {S : Int -> Bool} {n : Nat} {k : Int} {t : Tok} {Q : Bool -> Shared -> Prop} (hS : s.heap.SetOf (intKind prog w) a S n) (hroom : n + 1 < scanBound)
    (h : ∀ h', Heap.SameBut a s.heap h' -> h'.SetOf (intKind prog w) a (fun k' => S k' || decide (k' = k)) (if S k then n else n + 1) -> Q (!S k) { s with heap := h', toks := s.toks + 1 }) :
    wpAny (model prog w) A (setAdd a (.int k t)) Q E s := by
  have hkey : (intKind prog w).is k (.int k t) = true := by simp [intKind, Value.isInt]
  unfold setAdd
  refine wpAny_bind ((intKind prog w).pyHash hkey ?_)
  exact wpAny_setAddHashed_of (s := { s with toks := s.toks + 1 }) hkey rfl hS hroom fun h' hsb hS' => h h' hsb hS'
theorem aAP {I S : Addr} {fp wr : List Addr} {ns : List Int} {P : Nat -> Value -> Prop} {St : Nat -> Heap -> Prop} {R : Result -> Shared -> Prop} (W : Walks prog w A.in1 I fp wr ns.length P St)
    (hP : ∀ i v, P i v -> ∃ k t, ns[i]? = some k /\ v = .int k t) (hfp : ∀ c ∈ fp, c ≠ S) (hwr : S ∉ wr) (hlen : ns.length + 1 < scanBound) :
    ∀ (j i : Nat) (s : Shared), i + j = ns.length -> St i s.heap -> s.heap.SetOf (intKind prog w) S (fun k => decide (k ∈ ns.take i)) (iX (ns.take i)) ->
      (∀ h' tk, h'.SetOf (intKind prog w) S (fun k => decide (k ∈ ns)) (iX ns) -> (∀ b o, b ≠ S -> b ∉ wr -> s.heap.get? b = some o -> h'.get? b = some o) -> R (.ok (.ret .none)) { s with heap := h', toks := tk }) ->
      codeAny (model prog w) A (.builtin "set.update.loop" ⟨[.ref S, .ref I], []⟩) R s := by
  intro j
  induction j with
  | zero =>
    intro i s hi st hS h
    have e : i = ns.length := by omega
    subst e
    rw [List.take_length] at hS
    refine tX W st fun h' tk k => h h' tk ?_ fun b o _ hb e => k b o hb e
    obtain ⟨o, es, ep, t, e, c⟩ := hS
    exact ⟨o, es, ep, t, k _ _ hwr e, c⟩
  | succ j ih =>
    intro i s hi st hS h
    refine nX W (i := i) (by omega) st fun v h2 tk2 hv st2 k2 => ?_
    obtain ⟨k, t, hk, rfl⟩ := hP i v hv
    have hS2 : h2.SetOf (intKind prog w) S (fun k => decide (k ∈ ns.take i)) (iX (ns.take i)) := by
      obtain ⟨o, es, ep, t, e, c⟩ := hS
      exact ⟨o, es, ep, t, k2 _ _ hwr e, c⟩
    have hd := aBW (ns.take i)
    rw [List.length_take] at hd
    refine zP (s := { s with heap := h2, toks := tk2 }) hS2 (by omega) fun h3 sb hS3 => ?_
    have et : ns.take (i + 1) = ns.take i ++ [k] := by rw [List.take_succ, hk]; rfl
    refine ih (i + 1) _ (by omega) (W.frame _ _ _ st2 fun c hc o e => (sb.2 c (hfp c hc)).trans e) ?_ fun h' tk hS' kp => ?_
    · have e1 : (fun k_1 => decide (k_1 ∈ ns.take (i + 1))) = (fun k' => decide (k' ∈ ns.take i) || decide (k' = k)) := by
        funext k'
        rw [et]
        simp
      have e2 : iX (ns.take (i + 1)) = if decide (k ∈ ns.take i) = true then iX (ns.take i) else iX (ns.take i) + 1 := by
        rw [et, zO]
        by_cases z : k ∈ ns.take i
        · rw [if_pos z, if_pos (decide_eq_true z)]
        · rw [if_neg z, if_neg (by simpa using z)]
      rw [e1, e2]
      exact hS3
    · exact h h' tk hS' fun b o nb hb e => kp b o nb hb ((sb.2 b nb).trans (k2 b o hb e))
set_option maxHeartbeats 3200000 in
theorem pO {l : Addr} {its : Array Value} {ns : List Int} {Q : Value -> Shared -> Prop} (hh : A.handled = none) (hl : s.heap.IsList l its) (hi : IntsAre its.toList ns) (hlen : ns.length + 1 < scanBound)
    (h : ∀ (h' : Heap) (tk : Nat), h'.SetOf (intKind prog w) s.heap.objs.size (fun k => decide (k ∈ ns)) (iX ns) -> (∀ b o, b < s.heap.objs.size -> s.heap.get? b = some o -> h'.get? b = some o) -> Q (.ref s.heap.objs.size) { s with heap := h', toks := tk }) :
    wpAny (model prog w) A (call (.type "set") [.ref l]) Q E s := by
  obtain ⟨c, tl, hmro⟩ := PySem.F.called_set.mro
  have hmade := PySem.F.called_set.made
  have hsub := PySem.F.called_set.sub
  refine wpAny_call (codeAny_of_tree ?_)
  show wpAny _ _ (callAny (.type "set") _) _ _ _
  refine wpAny_pure ⟨Code.quiet_builtin _ (by decide +kernel), codeAny_builtin PySem.F.entry_type_call ?_⟩
  rw [Around.under_plain (weight_type_call_type "set" [.ref l] []) rfl]
  have h1 := PySem.F.called_set.notType
  have h2 := PySem.F.called_set.canCreate
  have hct := PySem.F.typeCall_set_1 (.ref l)
  repeat (any_goals (first | assumption | wp_step))
  refine codeAny_mono (jE (.ref l) (E := E) (Q₁ := fun obj s₁ => obj = .ref s.heap.objs.size /\ s₁ = { s with heap := s.heap.push { cls := .type "set", dict := none, data := .set #[] 0 (.fresh 0 0 (Led w)) } }) ⟨rfl, rfl⟩) fun r s₁ hr => ?_
  cases r with
  | error e => exact hr
  | ok fl =>
    cases fl with
    | ret obj =>
      obtain ⟨rfl, rfl⟩ := hr
      generalize hled : Led w = led at h ⊢
      have hS : (s.heap.push { cls := .type "set", dict := none, data := .set #[] 0 (.fresh 0 0 led) }).get? s.heap.objs.size = some { cls := .type "set", dict := none, data := .set #[] 0 (.fresh 0 0 led) } := Heap.get?_push_size _ rfl
      have hT : Shared.TypeIs { s with heap := s.heap.push { cls := .type "set", dict := none, data := .set #[] 0 (.fresh 0 0 led) } } (.ref s.heap.objs.size) "set" := ⟨_, hS, rfl⟩
      have hli := PySem.F.called_set.init.lookup
      have hbi := PySem.F.called_set.init.bind (.ref s.heap.objs.size)
      repeat (any_goals (first | assumption | wp_step))
      refine codeAny_mono (codeAny_call_builtin (R := wants (fun r s₂ => r = .none /\ ∃ h' tk, s₂ = { s with heap := h', toks := tk } /\ h'.SetOf (intKind prog w) s.heap.objs.size (fun k => decide (k ∈ ns)) (iX ns) /\
          (∀ b o, b < s.heap.objs.size -> s.heap.get? b = some o -> h'.get? b = some o)) E) PySem.F.called_set.init.plain PySem.F.entry_set_init (check_set_init_1 hT ?_)) fun r₂ s₂ hr₂ => ?_
      · obtain ⟨ol, hol, hcl, nl, hdl⟩ := hl
        obtain ⟨ocls, odict, odata, oslots⟩ := ol
        simp only at hcl hdl
        subst hcl; subst hdl
        have hol' : (s.heap.push { cls := .type "set", dict := none, data := .set #[] 0 (.fresh 0 0 led) }).get? l = some { cls := .type "list", dict := odict, data := .seq its nl, slots := oslots } := Heap.get?_push_of_some _ hol
        have hsls := PySem.F.sub_list_set
        have hslf := PySem.F.sub_list_frozenset
        have hne : (Value.type "list" == Value.type "dict") = false := by decide
        have hl1 : (s.heap.push { cls := .type "set", dict := none, data := .set #[] 0 (.fresh 0 0 led) }).IsList l its := ⟨_, hol', rfl, nl, rfl⟩
        unfold Builtin.«set.__init__» noKeywords Builtin.Frozenset.updateFrom
        generalize hPI : pyIter = PI
        wp_walk
        subst hPI
        refine wpAny_pyIter_list hl1 ?_
        refine wpAny_bind (wpAny_runValue ?_)
        have hlS : l < s.heap.objs.size := Heap.lt_size hol
        have hh3 : A.in1.in1.in1.handled = none := by simp [hh]
        generalize hH1 : s.heap.push { cls := .type "set", dict := none, data := .set #[] 0 (.fresh 0 0 led) } = H1 at *
        have szH1 : H1.objs.size = s.heap.objs.size + 1 := by rw [<- hH1, Heap.size_push]
        have hneI : l ≠ H1.objs.size := by rw [szH1]; exact Nat.ne_of_lt (Nat.lt_succ_of_lt hlS)
        have W := Walks.list (prog := prog) (w := w) hh3 H1.objs.size l hneI its
        have hsz : its.size = ns.length := by rw [<- hi.length, Array.length_toList]
        rw [hsz] at W
        generalize hS0 : s.heap.objs.size = S at *
        have SI : S ≠ H1.objs.size := by omega
        have lS : l ≠ S := Nat.ne_of_lt hlS
        refine aAP W (fun i v hv => ?_) (fun c hc => ?_) (by simpa using SI) hlen ns.length 0 _ (by omega) ⟨⟨_, Heap.get?_push_size _ rfl, rfl, rfl⟩, hl1.push _⟩ ?_ fun h6 tk6 x6 k6 => ?_
        · have hv' : its[i]? = some v := hv
          have hil : i < its.toList.length := by
            rw [Array.length_toList]
            exact (Array.getElem?_eq_some_iff.mp hv').1
          have e1 : its.toList[i]? = some v := by rw [Array.getElem?_toList]; exact hv'
          obtain ⟨k, t, e2, e3⟩ := IntsAre.at hi i v e1
          exact ⟨k, t, e3, e2⟩
        · rcases List.mem_cons.mp hc with z | z
          · rw [z]; exact Ne.symm SI
          · have z' : c = l := by simpa using z
            rw [z']; exact lS
        · refine ⟨_, #[], 0, _, Heap.get?_push_of_some _ hS, ⟨rfl, rfl, rfl⟩, rfl, fun e he => by simp at he, fun k => by simp, by decide, by rfl, rfl⟩
        · show wpAny _ _ _ _ _ _
          refine wpAny_pure ?_
          show wpAny _ _ (ret Value.none) _ _ _
          refine wpAny_pure ⟨rfl, h6, tk6, rfl, x6, fun c o hc e => ?_⟩
          have c1 : c ≠ S := Nat.ne_of_lt hc
          have c2 : c ∉ [H1.objs.size] := by
            intro z
            have z' : c = H1.objs.size := by simpa using z
            omega
          exact k6 c o c1 c2 (Heap.get?_push_of_some _ (hH1 ▸ Heap.get?_push_of_some _ e))
      · cases r₂ with
        | error e => exact hr₂
        | ok fl₂ =>
          cases fl₂ with
          | ret r =>
            obtain ⟨rfl, h', tk, rfl, hS', hk'⟩ := hr₂
            repeat (any_goals (first | assumption | wp_step))
            exact h _ _ hS' hk'
          | _ => exact hr₂.elim
    | _ => exact hr.elim
end
end L2
set_option Elab.async false
set_option linter.all false
set_option maxRecDepth 100000
namespace L2
open PySem PySem.Spec PyProof.Rows
theorem qL : ∀ {vs : List Value} {ns : List Int}, bB (ns.map V.int) vs -> IntsAre vs ns
  | [], [], _ => .nil
  | v :: vs, n :: ns, h => by
    cases h with
    | cons r t =>
      obtain ⟨k, rfl⟩ := r
      exact .cons n k (qL t)
  | [], n :: ns, h => by cases h
  | v :: vs, [], h => by cases h
section
variable {X : Cx}
theorem zQ {K : PySem.W.Frag} (hK : X.K = K) (hc : X.calm = true) : eX X (.type "set") (fun xs H Q => ∃ (l : Addr) (ns : List Int), xs = [.ref l] /\ SqL K H l (ns.map V.int) /\ ns.length <= 40 /\ ∀ p, H p = none -> Q (.ref p) (upd H p (.set (fun k => decide (k ∈ ns)) (iX ns)))) := by
  subst hK
  intro pins s σ H xs us Q I r h
  obtain ⟨l, ns, rfl, hL, hn, q⟩ := h
  obtain ⟨u, rfl, rx⟩ := gF r
  cases rx
  obtain ⟨its, rv, pl, hz⟩ := I.list hL
  refine pO (I.ok.hd hc) pl.isList (qL rv) (Nat.lt_of_le_of_lt (Nat.succ_le_succ hn) (by decide)) fun h' tk x kp => ?_
  have kp' : ∀ b o, s.heap.get? b = some o -> h'.get? b = some o := fun b o e => kp b o (Heap.lt_size e) e
  have hf := I.hok.fresh (Nat.le_refl s.heap.objs.size)
  exact ⟨.ref s.heap.objs.size, _, I.laid (t' := tk) kp' (Nat.le_refl _) (show bO X.prog X.w _ _ _ (.set _ _) from x), rfl, q _ hf⟩
theorem pP : eX X (.builtin "len") (fun xs H Q => ∃ p S n, xs = [.ref p] /\ H p = some (.set S n) /\ Q (.int (n : Nat)) H) := by
  intro pins s σ H xs us Q I r h
  obtain ⟨p, S, n, rfl, hp, q⟩ := h
  obtain ⟨u, rfl, rx⟩ := gF r
  cases rx
  obtain ⟨o, es, ep, t, ho, hex, hd, _, _, hb, hf, hn⟩ := I.hok p _ hp
  subst hn
  have hb' : es.size < 2 ^ 20 := Nat.lt_trans hb (by decide)
  have : (2 : Int) ^ 63 = 9223372036854775808 := by decide
  have : (2 : Nat) ^ 20 = 1048576 := by decide
  exact PySem.call_len_set ho hex hd hf (by omega) ⟨.int es.size, H, I.tok _, ⟨_, rfl⟩, q⟩
end
end L2
set_option Elab.async false
set_option linter.all false
set_option maxRecDepth 100000
namespace L2
open PySem PySem.Spec PyProof.Rows
section
variable {prog : Program} {w : World} {A : Around} {E : Value -> Shared -> Prop} {s : Shared} {e it l : Addr} {n : Nat} {P : Nat -> Value -> Prop} {st : Nat -> Heap -> Prop}
end
section
variable {X : Cx} {es : List Expr} {x1 : Nat} {tpos : Pos}
end
end L2
set_option Elab.async false
set_option linter.all false
set_option maxRecDepth 100000
namespace L2
open PySem PySem.Spec PyProof.Rows
theorem wI {n : Nat} (h : n <= 1000) : n <= sizeLine := by rw [sizeLine_eq]; omega
section
variable {own : Nat} {fr : List Nat} {g : TG} {te : TE} {σ : St} {H : Hp} {Qf : Hp -> List V -> Prop} {K : PySem.W.Frag}
theorem aBX {vs : List V} {i : Nat} {v : V} (h : vs[i]? = some v) : vs.take (i + 1) = vs.take i ++ [v] := by rw [List.take_succ, h]; rfl
theorem sC {J : It} {n : Nat} {vs : List V} (SH : St -> Prop) (hn : n <= 1000) (hl : vs.length = n) (hσ : SH (blk own fr σ)) (hstop : ∀ H', aE H H' -> J.stop n H') (hgo : ∀ i H', i < n -> aE H H' -> J.go i H')
    (hs : ∀ i v x σ H1 H2, i < n -> vs[i]? = some v -> SH σ -> aE H H1 -> J.yld i H1 x H2 -> ∀ Q : V -> St -> Hp -> Prop, (∀ σ2 H4, SH σ2 -> aE H1 H4 -> Q v σ2 H4) -> g x σ H2 fun σ2 H3 => te σ2 H3 fun y H4 => Q y σ2 H4)
    (hd : ∀ H', aE H H' -> Qf H' vs) :
    ∃ W : Nat -> Nat -> List V -> St -> Hp -> Prop, (∃ m, W 0 m [] (blk own fr σ) H) /\ ∀ i m ys σ' H, W i m ys σ' H ->
      (J.stop i H /\ Qf H ys) ∨
      (J.go i H /\ ∃ N : List V -> St -> Hp -> Prop, (∀ ys' σ2 H2, N ys' σ2 H2 -> ∃ m', m' < m /\ W (i + 1) m' ys' σ2 H2) /\
        ∀ x H', J.yld i H x H' -> g x σ' H' fun σ2 H2 => wC σ2 H2 fun b H3 => if b = true then te σ2 H3 fun y H4 => ys.length < sizeLine /\ N (ys ++ [y]) σ2 H4 else N ys σ2 H3) := by
  refine lI n (wI hn) SH (fun i ys H' => ys = vs.take i /\ aE H H') hσ ⟨rfl, aE.refl H⟩ (fun i ys H' p => by rw [p.1, List.length_take]; omega) (fun ys H' p => hstop H' p.2) (fun i ys H' hi p => hgo i H' hi p.2) ?_ (fun ys H' p => ?_)
  · rintro i ys σ' x H1 H2 hi sh ⟨rfl, s1⟩ hy hz
    have hv : vs[i]? = some vs[i] := List.getElem?_eq_getElem (by omega)
    have h := hs i vs[i] x σ' H1 H2 hi hv sh s1 hy (fun y σ2 H4 => (vs.take i).length < sizeLine /\ SH σ2 /\ (vs.take i ++ [y] = vs.take (i + 1) /\ aE H H4)) fun σ2 H4 sh2 s4 => ⟨hz, sh2, (aBX hv).symm, s1.trans s4⟩
    exact h
  · obtain ⟨rfl, s1⟩ := p
    rw [List.take_of_length_le (by omega)]
    exact hd H' s1
theorem uE {a : Addr} {xs vs : List V} (SH : St -> Prop) (hn : xs.length <= 1000) (hl : vs.length = xs.length) (ha : SqL K H a xs) (hσ : SH (blk own fr σ))
    (hs : ∀ (i : Nat) x v σ H1, xs[i]? = some x -> vs[i]? = some v -> SH σ -> aE H H1 -> ∀ Q : V -> St -> Hp -> Prop, (∀ σ2 H4, SH σ2 -> aE H1 H4 -> Q v σ2 H4) -> g x σ H1 fun σ2 H2 => te σ2 H2 fun y H4 => Q y σ2 H4)
    (hd : ∀ H', aE H H' -> Qf H' vs) :
    ∃ W : Nat -> Nat -> List V -> St -> Hp -> Prop, (∃ m, W 0 m [] (blk own fr σ) H) /\ ∀ i m ys σ' H, W i m ys σ' H ->
      ((Itl K a).stop i H /\ Qf H ys) ∨
      ((Itl K a).go i H /\ ∃ N : List V -> St -> Hp -> Prop, (∀ ys' σ2 H2, N ys' σ2 H2 -> ∃ m', m' < m /\ W (i + 1) m' ys' σ2 H2) /\
        ∀ x H', (Itl K a).yld i H x H' -> g x σ' H' fun σ2 H2 => wC σ2 H2 fun b H3 => if b = true then te σ2 H3 fun y H4 => ys.length < sizeLine /\ N (ys ++ [y]) σ2 H4 else N ys σ2 H3) := by
  refine sC SH hn hl hσ (fun H' s => ⟨xs, s.seqL ha, Nat.le_refl _⟩) (fun i H' hi s => ⟨xs, xs[i], s.seqL ha, List.getElem?_eq_getElem hi⟩) (fun i v x σ H1 H2 hi hv sh s y Q k => ?_) hd
  obtain ⟨e, y⟩ := y
  subst e
  exact hs i x v σ _ (y xs (s.seqL ha)) hv sh s Q k
theorem aAQ {a : Addr} {xs vs : List V} (SH : St -> Prop) (hn : xs.length <= 1000) (hl : vs.length = xs.length) (ha : SqT K H a xs) (hσ : SH (blk own fr σ))
    (hs : ∀ (i : Nat) x v σ H1, xs[i]? = some x -> vs[i]? = some v -> SH σ -> aE H H1 -> ∀ Q : V -> St -> Hp -> Prop, (∀ σ2 H4, SH σ2 -> aE H1 H4 -> Q v σ2 H4) -> g x σ H1 fun σ2 H2 => te σ2 H2 fun y H4 => Q y σ2 H4)
    (hd : ∀ H', aE H H' -> Qf H' vs) :
    ∃ W : Nat -> Nat -> List V -> St -> Hp -> Prop, (∃ m, W 0 m [] (blk own fr σ) H) /\ ∀ i m ys σ' H, W i m ys σ' H ->
      ((Itt K a).stop i H /\ Qf H ys) ∨
      ((Itt K a).go i H /\ ∃ N : List V -> St -> Hp -> Prop, (∀ ys' σ2 H2, N ys' σ2 H2 -> ∃ m', m' < m /\ W (i + 1) m' ys' σ2 H2) /\
        ∀ x H', (Itt K a).yld i H x H' -> g x σ' H' fun σ2 H2 => wC σ2 H2 fun b H3 => if b = true then te σ2 H3 fun y H4 => ys.length < sizeLine /\ N (ys ++ [y]) σ2 H4 else N ys σ2 H3) := by
  refine sC SH hn hl hσ (fun H' s => ⟨xs, s.seqT ha, Nat.le_refl _⟩) (fun i H' hi s => ⟨xs, xs[i], s.seqT ha, List.getElem?_eq_getElem hi⟩) (fun i v x σ H1 H2 hi hv sh s y Q k => ?_) hd
  obtain ⟨e, y⟩ := y
  subst e
  exact hs i x v σ _ (y xs (s.seqT ha)) hv sh s Q k
theorem aAR {k1 k2 : Sk} {a b : Addr} {xs zs vs : List V} (SH : St -> Prop) (hn : xs.length <= 1000) (hle : xs.length <= zs.length) (hl : vs.length = xs.length) (ha : ∀ H', aE H H' -> SqK k1 K H' a xs /\ SqK k2 K H' b zs) (hσ : SH (blk own fr σ))
    (hs : ∀ (i : Nat) x z v p σ H1, xs[i]? = some x -> zs[i]? = some z -> vs[i]? = some v -> H1 p = none -> SH σ -> aE H H1 -> ∀ Q : V -> St -> Hp -> Prop, (∀ σ2 H4, SH σ2 -> aE H1 H4 -> Q v σ2 H4) -> g (.ref p) σ (upd H1 p (.tup [x, z])) fun σ2 H2 => te σ2 H2 fun y H4 => Q y σ2 H4)
    (hd : ∀ H', aE H H' -> Qf H' vs) :
    ∃ W : Nat -> Nat -> List V -> St -> Hp -> Prop, (∃ m, W 0 m [] (blk own fr σ) H) /\ ∀ i m ys σ' H, W i m ys σ' H ->
      ((Itz K k1 k2 a b).stop i H /\ Qf H ys) ∨
      ((Itz K k1 k2 a b).go i H /\ ∃ N : List V -> St -> Hp -> Prop, (∀ ys' σ2 H2, N ys' σ2 H2 -> ∃ m', m' < m /\ W (i + 1) m' ys' σ2 H2) /\
        ∀ x H', (Itz K k1 k2 a b).yld i H x H' -> g x σ' H' fun σ2 H2 => wC σ2 H2 fun b H3 => if b = true then te σ2 H3 fun y H4 => ys.length < sizeLine /\ N (ys ++ [y]) σ2 H4 else N ys σ2 H3) := by
  refine sC SH hn hl hσ (fun H' s => ⟨xs, zs, (ha H' s).1, (ha H' s).2, by omega⟩) (fun i H' hi s => ⟨xs, zs, xs[i], zs[i]'(by omega), (ha H' s).1, (ha H' s).2, List.getElem?_eq_getElem hi, List.getElem?_eq_getElem (by omega)⟩) (fun i v x σ H1 H2 hi hv sh s y Q k => ?_) hd
  obtain ⟨q, hq, rfl, hy⟩ := y
  obtain ⟨x, z, h1, h2, rfl⟩ := hy xs zs (ha H1 s).1 (ha H1 s).2
  exact hs i x z v q σ H1 h1 h2 hv hq sh s Q k
end
end L2
set_option Elab.async false
set_option linter.all false
set_option maxRecDepth 100000
namespace L2
open PySem PySem.Spec PyProof.Rows
section
variable {X : Cx} {st : Stmt} {lW : List Stmt} {t u : TS} {e : Expr} {te : TE} {tt : TT}
end
section
variable {X : Cx} {K : PySem.W.Frag}
theorem aAS (hK : X.K = K) : IxR X (aDI K) := by subst hK; exact bZ
end
end L2
set_option Elab.async false
set_option linter.all false
set_option maxRecDepth 100000
namespace L2
open PySem PySem.Spec PyProof.Rows
theorem pQ (xs : Array Value) : slicePick xs none none (some (-1)) = xs.toList.reverse.toArray := by
  unfold slicePick
  have e1 : sliceBounds none none (some (-1)) xs.size = ((xs.size : Int) - 1, -1, -1) := by simp [sliceBounds]
  rw [e1, <- aAM xs]
  congr 1
  show List.filterMap (fun x => xs[x]?) (sliceRange ((xs.size : Int) - 1) (-1) (-1)) = _
  have e2 : sliceRange ((xs.size : Int) - 1) (-1) (-1) = (List.range xs.size).map fun (k : Nat) => ((xs.size : Int) - 1 + (k : Int) * (-1)).toNat := by
    unfold sliceRange
    rw [if_neg (by decide)]
    have e3 : (if (xs.size : Int) - 1 > -1 then ((xs.size : Int) - 1 - -1 - -1 - 1) / (- -1) else 0).toNat = xs.size := by
      by_cases h0 : xs.size = 0
      · rw [h0]; decide
      · rw [if_pos (by omega), show (- -1 : Int) = 1 from rfl, Int.ediv_one]; omega
    show (List.range (if (xs.size : Int) - 1 > -1 then ((xs.size : Int) - 1 - -1 - -1 - 1) / (- -1) else 0).toNat).map _ = _
    rw [e3]
    refine List.map_congr_left fun k _ => ?_
    congr 1
    omega
  rw [e2, List.filterMap_map]
  rfl
section
variable {X : Cx}
def aDP (K : PySem.W.Frag) (te ts : TE) : TE := fun σ H Q => te σ H fun x H1 => ts σ H1 fun y H2 => y = .int (-1) /\ ∃ a xs, x = .ref a /\ SqL K H2 a xs /\ ∀ p, H2 p = none -> Q (.ref p) (upd H2 p (.lst xs.reverse))
theorem aBY {e st : Expr} {te ts : TE} {pos p2 : Pos} (he : PE X e te) (hst : PE X st ts) : PE X (.Subscript e (.Slice none none (some st) p2) pos) (aDP X.K te ts) := by
  intro pins s σ H Q I h
  refine Subscript_ (thn (he pins s σ H _ I h) fun v s1 hx9 => ?_)
  obtain ⟨x, H1, I1, r1, q1⟩ := hx9
  refine wpAny_Slice ?_
  rw [evalPart_none]
  refine wpAny_pure ?_
  show wpAny _ _ (evalPart none X.env) _ _ s1
  rw [evalPart_none]
  refine wpAny_pure ?_
  show wpAny _ _ (evalPart (some st) X.env) _ _ s1
  rw [evalPart_some]
  refine thn (hst pins s1 σ H1 _ I1 q1) fun vst s3 hx9 => ?_
  obtain ⟨y, H3, I3, r3, q3⟩ := hx9
  obtain ⟨rfl, a, xs, rfl, hx, q⟩ := q3
  obtain ⟨tk, rfl⟩ := r3
  cases r1
  have I4 : Inv X pins σ H3 { s3 with heap := s3.heap.push { cls := .type "slice", data := .fields #[.none, .none, .int (-1) tk] } } := I3.kept (t' := s3.toks) fun b ob q => Heap.get?_push_of_some _ q
  obtain ⟨its, r, ht, hz⟩ := I4.list hx
  have hlen := r.length
  have hg : wpAny (model X.prog X.w) X.A (getItem (.ref a) (.ref s3.heap.objs.size)) (EP X pins σ Q) X.xe { s3 with heap := s3.heap.push { cls := .type "slice", data := .fields #[.none, .none, .int (-1) tk] } } := by
    refine wpAny_getItem_list_slice ht.isList (Heap.IsSliceOf.new ..) .none .none (.int (-1) tk) (by decide) ?_ (by rw [List.size_toArray]; omega)
    rw [pQ]
    refine ⟨.ref _, _, I4.laid (t' := s3.toks) (o := .lst xs.reverse) (fun b ob q => Heap.get?_push_of_some _ q) (Nat.le_refl _) ?_, rfl, q _ (I4.hok.fresh (Nat.le_refl _))⟩
    exact ⟨by rw [List.length_reverse]; exact hz, its.reverse, 0, r.reverse, Heap.get?_push_size _ rfl⟩
  show wpAny (model X.prog X.w) X.A (subscriptTail e (.Slice none none (some st) p2) (.ref a) (.ref s3.heap.objs.size)) (EP X pins σ Q) X.xe { s3 with heap := s3.heap.push { cls := .type "slice", data := .fields #[.none, .none, .int (-1) tk] } }
  exact tail_any (ops := [.ref a, .ref s3.heap.objs.size]) ht.isList.typeIs slot_list_getitem.lookup hg (by with_unfolding_all rfl)
end
section
variable {K : PySem.W.Frag} {S : List Addr} {H H' H0 : Hp} {E E' : Hp -> V -> Prop} {σ : St} {te ta tb ts : TE} {t tr : TA} {tl th : TO}
instance {a : Addr} {xs : List V} : Mo (fun H v => v = .ref a /\ SqT K (Vw S H) a xs) := ⟨fun e h => ⟨h.1, (Vw.same e).seqT h.2⟩⟩
end
end L2
set_option Elab.async false
set_option linter.all false
set_option maxRecDepth 100000
namespace L2
open PySem PySem.Spec PyProof.Rows
section
variable {prog : Program} {w : World} {A : Around} {R : Result -> Shared -> Prop} {s : Shared} {elt tg iter tg2 iter2 : Expr} {scope : Scope} {pos : Pos} {it acc : Value} {env : Env}
theorem pR : compTurn (.ListComp elt [⟨tg, iter, [], 0⟩, ⟨tg2, iter2, [], 0⟩] scope pos) 0 it acc env = (standAt iter.pos >>= fun _ => pyNext it >>= fun r => match r with
      | none => pure (.done .next)
      | some v => letOwnedTupleGo tg it v >>= fun _ => assign tg env v >>= fun _ =>
        (eval iter2 env >>= fun x => standAt iter2.pos >>= fun _ => foldedSetIterable iter2 env x >>= fun x => holding [x] (pyIter x) >>= fun i =>
          runOwn (.compStart (.ListComp elt [⟨tg, iter, [], 0⟩, ⟨tg2, iter2, [], 0⟩] scope pos) 1 i acc env) env >>= fun _ =>
          again (.compLoop (.ListComp elt [⟨tg, iter, [], 0⟩, ⟨tg2, iter2, [], 0⟩] scope pos) 0 it acc env))) := by rfl
theorem pS : compTurn (.ListComp elt [⟨tg, iter, [], 0⟩, ⟨tg2, iter2, [], 0⟩] scope pos) 1 it acc env = (standAt iter2.pos >>= fun _ => pyNext it >>= fun r => match r with
      | none => pure (.done .next)
      | some v => letOwnedTupleGo tg2 it v >>= fun _ => assign tg2 env v >>= fun _ =>
        (eval elt env >>= fun x => call (.builtin "list.append") [acc, x] >>= fun _ => pure ()) >>= fun _ =>
          again (.compLoop (.ListComp elt [⟨tg, iter, [], 0⟩, ⟨tg2, iter2, [], 0⟩] scope pos) 1 it acc env)) := by rfl
theorem iY
    (h0 : codeAny (model prog w) A (.compLoop (.ListComp elt [⟨tg, iter, [], 0⟩, ⟨tg2, iter2, [], 0⟩] scope pos) 1 it acc env) R s)
    (h : wpAny (model prog w) A (pyIter it) (fun it' s' => codeAny (model prog w) A (.compLoop (.ListComp elt [⟨tg, iter, [], 0⟩, ⟨tg2, iter2, [], 0⟩] scope pos) 1 it' acc env) R s')
      (notedBy (model prog w) A env fun x s' => R (.error x) s') s) :
    codeAny (model prog w) A (.compStart (.ListComp elt [⟨tg, iter, [], 0⟩, ⟨tg2, iter2, [], 0⟩] scope pos) 1 it acc env) R s := by
  refine codeAny_of_tree ?_
  show wpAny _ _ ((compStart (.ListComp elt [⟨tg, iter, [], 0⟩, ⟨tg2, iter2, [], 0⟩] scope pos) 1 it acc env).onRaise (fun x => do noteFrame x env; standAt theWindowsPlace)) _ _ s
  refine wpAny_notedAt ?_
  unfold compStart
  show wpAny _ _ (ask >>= _) _ _ s
  refine wpAny_bind (wpAny_askSetting (wpAny_ite ?_))
  split
  · first
      | exact wpAny_bind (wpAny_pure (wpAny_pure (And.intro rfl h0)))
      | exact wpAny_pure (And.intro rfl h0)
  · first
      | exact wpAny_bind (wpAny_rule (wpAny_bind (wpAny_standAt (wpAny_bind (wpAny_mono h (fun it' s' h' => wpAny_pure (And.intro rfl h')) fun _ _ x => x)))))
      | (refine wpAny_bind (wpAny_rule ?_); show wpAny _ _ (standAt iter2.pos >>= _) _ _ s; exact wpAny_bind (wpAny_standAt (wpAny_bind (wpAny_mono h (fun it' s' h' => wpAny_pure (And.intro rfl h')) fun _ _ x => x))))
theorem uF (I : Nat -> Shared -> Prop)
    (turn : ∀ n s, I n s -> wpAny (model prog w) A (pyNext it) (fun r s₁ => match r with
      | none => R (.ok .next) s₁
      | some v => wpAny (model prog w) A (letOwnedTupleGo tg2 it v) (fun _ s₁' => wpAny (model prog w) A (assign tg2 env v) (fun _ s₂ =>
          wpAny (model prog w) A (eval elt env) (fun x s₄ =>
              wpAny (model prog w) A (call (.builtin "list.append") [acc, x]) (fun _ s₅ => ∃ m, m < n /\ I m s₅) (fun _ _ => False) s₄) (fun _ _ => False) s₂) (fun _ _ => False) s₁') (fun _ _ => False) s₁) (fun _ _ => False) s)
    (n : Nat) (h : I n s) :
    codeAny (model prog w) A (.compLoop (.ListComp elt [⟨tg, iter, [], 0⟩, ⟨tg2, iter2, [], 0⟩] scope pos) 1 it acc env) R s := by
  refine codeAny_loop rfl I (fun n s hI => ?_) n h
  show wpAny _ A ((compTurn (.ListComp elt [⟨tg, iter, [], 0⟩, ⟨tg2, iter2, [], 0⟩] scope pos) 1 it acc env).onRaise (fun x => do noteFrame x env; theTreesLotGoes x)) _ _ s
  refine wpAny_noted ?_
  rw [pS]
  refine wpAny_bind (wpAny_standAt (wpAny_bind (wpAny_mono (turn n s hI) (fun r s₁ h₁ => ?_) fun _ _ h' => h'.elim)))
  cases r with
  | none => exact wpAny_pure h₁
  | some v =>
    refine wpAny_bind (wpAny_mono h₁ (fun _ s₁' h₁' => ?_) fun _ _ h' => h'.elim)
    refine wpAny_bind (wpAny_mono h₁' (fun _ s₂ h₂ => ?_) fun _ _ h' => h'.elim)
    exact wpAny_bind (wpAny_bind (wpAny_mono h₂ (fun x s₄ h₄ => wpAny_bind (wpAny_mono h₄ (fun _ s₅ h₅ => wpAny_pure (wpAny_pure ⟨rfl, h₅⟩)) fun _ _ h' => h'.elim)) fun _ _ h' => h'.elim))
theorem sD (hs2 : ∀ x, foldedSetIterable iter2 env x = pure x) (I : Nat -> Shared -> Prop)
    (turn : ∀ n s, I n s -> wpAny (model prog w) A (pyNext it) (fun r s₁ => match r with
      | none => R (.ok .next) s₁
      | some v => wpAny (model prog w) A (letOwnedTupleGo tg it v) (fun _ s₁' => wpAny (model prog w) A (assign tg env v) (fun _ s₂ =>
          wpAny (model prog w) A (eval iter2 env) (fun x s₃ => wpAny (model prog w) A (pyIter x) (fun i s₄ =>
              codeAny (model prog w) A (.compStart (.ListComp elt [⟨tg, iter, [], 0⟩, ⟨tg2, iter2, [], 0⟩] scope pos) 1 i acc env) (fun r s₅ => match r with
                | .ok _ => ∃ m, m < n /\ I m s₅
                | .error _ => False) s₄) (fun _ _ => False) s₃) (fun _ _ => False) s₂) (fun _ _ => False) s₁') (fun _ _ => False) s₁) (fun _ _ => False) s)
    (n : Nat) (h : I n s) :
    codeAny (model prog w) A (.compLoop (.ListComp elt [⟨tg, iter, [], 0⟩, ⟨tg2, iter2, [], 0⟩] scope pos) 0 it acc env) R s := by
  refine codeAny_loop rfl I (fun n s hI => ?_) n h
  show wpAny _ A ((compTurn (.ListComp elt [⟨tg, iter, [], 0⟩, ⟨tg2, iter2, [], 0⟩] scope pos) 0 it acc env).onRaise (fun x => do noteFrame x env; theTreesLotGoes x)) _ _ s
  refine wpAny_noted ?_
  rw [pR]
  refine wpAny_bind (wpAny_standAt (wpAny_bind (wpAny_mono (turn n s hI) (fun r s₁ h₁ => ?_) fun _ _ h' => h'.elim)))
  cases r with
  | none => exact wpAny_pure h₁
  | some v =>
    refine wpAny_bind (wpAny_mono h₁ (fun _ s₁' h₁' => ?_) fun _ _ h' => h'.elim)
    refine wpAny_bind (wpAny_mono h₁' (fun _ s₂ h₂ => ?_) fun _ _ h' => h'.elim)
    refine wpAny_bind (wpAny_mono h₂ (fun x s₃ h₃ => ?_) fun _ _ h' => h'.elim)
    refine wpAny_bind (wpAny_standAt (wpAny_bind (wpAny_of_eq (hs2 x) (wpAny_bind (wpAny_holding (wpAny_mono h₃ (fun i s₄ h₄ => ?_) fun _ _ h' => h'.elim))))))
    refine wpAny_bind (wpAny_runOwn (codeAny_mono h₄ fun r s₅ h₅ => ?_))
    cases r with
    | ok f => exact wpAny_pure ⟨rfl, h₅⟩
    | error e => exact False.elim h₅
end
end L2
set_option Elab.async false
set_option linter.all false
set_option maxRecDepth 100000
namespace L2
open PySem PySem.Spec PyProof.Rows
theorem wJ {Y : Cx} {elt tg iter tg2 iter2 : Expr} {scope : Scope} {pos : Pos} {it2 D : Addr} {fp2 : List Addr} {tn2 : Nat -> Heap -> Prop} {J2 : It} {g2 : TG} {te : TE} {ps : List (Addr × Obj)} {σ : St} {H : Hp} {s : Shared} {zs : List V} {its : Array Value} {o : Obj} {F : List V -> St -> Hp -> Prop} {R : Result -> Shared -> Prop}
    (hx : ∀ v s', ¬ Y.xe v s') (hc : Y.calm = true) (T : Turn Y.prog Y.w Y.K tg2 J2 fp2 it2 tn2) (hg : PG Y tg2 g2) (he : PE Y elt te)
    (hDL : D ≠ Y.env.locals) (hD1 : D ∈ Y.ex ∨ Y.s₀.heap.objs.size <= D) (hDc : ∀ x c, Y.env.cells.lookup x = some c -> c ≠ D) (hDp : ∀ p ∈ Y.pn, p.1 ≠ D) (hDfs : D ∉ Y.fs) (hps : ∀ p ∈ ps, p.1 ≠ D)
    (I0 : Inv Y ((D, o) :: ps) σ H s) (pl0 : s.heap.PlainList D its) (v0 : bB zs its.toList) (z0 : zs.length <= sizeLine) (st0 : tn2 0 s.heap) (f0 : ∀ b ∈ fp2, kL Y ((D, o) :: ps) H b)
    (w : ∃ W2 : Nat -> Nat -> List V -> St -> Hp -> Prop, (∃ m2, W2 0 m2 zs σ H) /\ ∀ j m2 zs σ3 H4, W2 j m2 zs σ3 H4 -> (J2.stop j H4 /\ F zs σ3 H4) ∨ (J2.go j H4 /\ ∃ N2 : List V -> St -> Hp -> Prop, (∀ zs' σ4 H5, N2 zs' σ4 H5 -> ∃ m3, m3 < m2 /\ W2 (j + 1) m3 zs' σ4 H5) /\
      ∀ x H', J2.yld j H4 x H' -> g2 x σ3 H' fun σ4 H5 => te σ4 H5 fun y H6 => zs.length < sizeLine /\ N2 (zs ++ [y]) σ4 H6))
    (hR : ∀ (s' : Shared) (σ' : St) (H' : Hp) (zs' : List V) (its' : Array Value) (o' : Obj), Inv Y ((D, o') :: ps) σ' H' s' -> s'.heap.PlainList D its' -> bB zs' its'.toList -> zs'.length <= sizeLine -> F zs' σ' H' -> R (.ok .next) s') :
    codeAny (model Y.prog Y.w) Y.A (.compStart (.ListComp elt [⟨tg, iter, [], 0⟩, ⟨tg2, iter2, [], 0⟩] scope pos) 1 (.ref it2) (.ref D) Y.env) R s := by
  obtain ⟨W2, ⟨m0, w0⟩, turn⟩ := w
  have stat : ∀ {H' : Hp} {o' : Obj}, (∀ b ∈ fp2, H' b = none) -> ∀ b ∈ fp2, kL Y ((D, o') :: ps) H' b := fun {H' o'} hn b hb => by
    obtain ⟨_, q1, q2, q3, q4, q5⟩ := f0 b hb
    refine ⟨hn b hb, q1, q2, q3, q4, fun p hp => ?_⟩
    rcases List.mem_append.mp hp with h | h
    · exact q5 p (List.mem_append_left _ h)
    · rcases List.mem_cons.mp h with h | h
      · rw [h]; exact q5 (D, o) (List.mem_append_right _ (List.mem_cons_self ..))
      · exact q5 p (List.mem_append_right _ (List.mem_cons_of_mem _ h))
  have loop : codeAny (model Y.prog Y.w) Y.A (.compLoop (.ListComp elt [⟨tg, iter, [], 0⟩, ⟨tg2, iter2, [], 0⟩] scope pos) 1 (.ref it2) (.ref D) Y.env) R s := by
    refine uF (fun n s' => ∃ j σ' H' ys its o, Inv Y ((D, o) :: ps) σ' H' s' /\ s'.heap.PlainList D its /\ bB ys its.toList /\ ys.length <= sizeLine /\ tn2 j s'.heap /\ (∀ b ∈ fp2, H' b = none) /\ W2 j n ys σ' H') ?_ m0
      ⟨0, σ, H, zs, its, o, I0, pl0, v0, z0, st0, fun b hb => (f0 b hb).1, w0⟩
    rintro n s5 ⟨i, σ5, H5, ys, its, o, I5, pl5, v5, z5, st5, fr5, w5⟩
    have p5' := I5.pin (D, o) (List.mem_append_right _ (List.mem_cons_self ..))
    rcases turn i n ys σ5 H5 w5 with ⟨stop, qn⟩ | ⟨go, N, hN, step⟩
    · refine wpAny_mono (T.done Y rfl rfl rfl hc i _ s5 σ5 H5 (fun _ _ => False) I5 (stat fr5) st5 stop) (fun r s6 hx9 => ?_) fun _ _ z => z
      obtain ⟨hr, I6⟩ := hx9
      subst hr
      have p6 := I6.pin (D, o) (List.mem_append_right _ (List.mem_cons_self ..))
      have pl6 : s6.heap.PlainList D its := by
        obtain ⟨k, e⟩ := pl5
        have e1 : o = _ := Option.some.inj (p5'.1.symm.trans e)
        exact ⟨k, by rw [p6.1]; exact congrArg some e1⟩
      exact hR s6 σ5 H5 ys its o I6 pl6 v5 z5 qn
    · refine wpAny_mono (T.item Y rfl rfl rfl hc i _ s5 σ5 H5 (fun _ _ => False) I5 (stat fr5) st5 go) (fun r s6 hx9 => ?_) fun _ _ z => z
      obtain ⟨u, hr, h6⟩ := hx9
      subst hr
      refine wpAny_mono h6 (fun _ s7 hx9 => ?_) fun _ _ z => z
      obtain ⟨x, H7, I7, r7, y7, st7, fr7⟩ := hx9
      have I7' := I7.pinned (stat fr7) (T.obj _ _ st7)
      refine wpAny_mono (hg _ s7 σ5 H7 x u _ I7' r7 (step x H7 y7)) (fun _ s8 hx9 => ?_) fun v s' z => hx v s' z
      obtain ⟨σ8, H8, I8, q8⟩ := hx9
      have keepT : ∀ {H' : Hp} {s' : Shared} {σ' : St}, Inv Y (((D, o) :: ps) ++ kM fp2 s7.heap) σ' H' s' -> tn2 (i + 1) s'.heap /\ (∀ b ∈ fp2, H' b = none) /\ s'.heap.PlainList D its /\ H' D = none := fun {H' s' σ'} I' => by
        refine ⟨T.keep _ _ _ st7 fun b hb o e => (I'.pin (b, o) (List.mem_append_right _ (List.mem_append_right _ (dP hb e)))).1, fun b hb => ?_, ?_, ?_⟩
        · obtain ⟨o, e, d⟩ := T.obj _ _ st7 b hb
          exact (I'.pin (b, o) (List.mem_append_right _ (List.mem_append_right _ (dP hb e)))).2.1
        · have p' := I'.pin (D, o) (List.mem_append_right _ (List.mem_append_left _ (List.mem_cons_self ..)))
          obtain ⟨k, e⟩ := pl5
          have e1 : o = _ := Option.some.inj (p5'.1.symm.trans e)
          exact ⟨k, by rw [p'.1]; exact congrArg some e1⟩
        · exact (I'.pin (D, o) (List.mem_append_right _ (List.mem_append_left _ (List.mem_cons_self ..)))).2.1
      refine wpAny_mono (he _ s8 σ8 H8 _ I8 q8) (fun y s10 hx9 => ?_) fun v s' z => hx v s' z
      obtain ⟨yv, H10, I10, r10, lt10, q10⟩ := hx9
      obtain ⟨t10, fr10, pl10, hD10⟩ := keepT I10
      have hl := v5.length
      refine wpAny_list_append_plain pl10 (fun h11 pl11 sb11 => ?_) (by rw [<- Array.length_toList, <- hl]; exact Nat.le_of_lt lt10)
      obtain ⟨m', hm, w'⟩ := hN _ σ8 H10 q10
      have I10' : Inv Y [] σ8 H10 s10 := I10.pins_of fun p hp => by cases hp
      have I11 : Inv Y [] σ8 H10 { s10 with heap := h11 } :=
        I10'.turned (t' := s10.toks) (it := D) (fun b o hb e => (sb11.2 b hb).trans e) hD10 hDL hD1 hDc (fun p hp => by rw [List.append_nil] at hp; exact hDp p hp)
      obtain ⟨k11, e11⟩ := id pl11
      refine ⟨m', hm, i + 1, σ8, H10, ys ++ [yv], its.push y, { cls := .type "list", data := .seq (its.push y) k11 }, I11.pins_of fun p hp => ?_, pl11, ?_, by rw [List.length_append]; show ys.length + 1 <= _; omega, T.keep _ _ _ t10 fun b hb o e => (sb11.2 b (fun z => ?_)).trans e, fr10, w'⟩
      · rcases List.mem_cons.mp hp with h | h
        · subst h
          exact ⟨e11, hD10, hDL, hDfs, fun v z => by cases z⟩
        · obtain ⟨a1, a2, a3, a4, a5⟩ := I10.pin p (List.mem_append_right _ (List.mem_append_left _ (List.mem_cons_of_mem _ h)))
          exact ⟨(sb11.2 p.1 (hps p h)).trans a1, a2, a3, a4, a5⟩
      · rw [Array.toList_push]
        exact v5.append (.cons r10 .nil)
      · exact (f0 b hb).2.2.2.2.2 (D, _) (List.mem_append_right _ (List.mem_cons_self ..)) z.symm
  exact iY loop (T.self Y.A 0 _ _ _ st0 loop)
end L2
set_option Elab.async false
set_option linter.all false
set_option maxRecDepth 100000
namespace L2
open PySem PySem.Spec PyProof.Rows
def aC7 (own : Nat) (fr : List Nat) (wi : TI) (g : TG) (wi2 : TI) (g2 : TG) (te : TE) : TE := fun σ H Q => wi σ H fun J H1 => ∃ W : Nat -> Nat -> List V -> St -> Hp -> Prop, (∃ m, W 0 m [] (blk own fr σ) H1) /\ ∀ i m ys σ' H, W i m ys σ' H ->
      (J.stop i H /\ ∀ p, H p = none -> Q (.ref p) (upd H p (.lst ys))) ∨
      (J.go i H /\ ∃ N : List V -> St -> Hp -> Prop, (∀ ys' σ2 H2, N ys' σ2 H2 -> ∃ m', m' < m /\ W (i + 1) m' ys' σ2 H2) /\
        ∀ x H', J.yld i H x H' -> g x σ' H' fun σ2 H2 => wi2 σ2 H2 fun J2 H3 => ∃ W2 : Nat -> Nat -> List V -> St -> Hp -> Prop, (∃ m2, W2 0 m2 ys σ2 H3) /\ ∀ j m2 zs σ3 H4, W2 j m2 zs σ3 H4 -> (J2.stop j H4 /\ N zs σ3 H4) ∨ (J2.go j H4 /\ ∃ N2 : List V -> St -> Hp -> Prop, (∀ zs' σ4 H5, N2 zs' σ4 H5 -> ∃ m3, m3 < m2 /\ W2 (j + 1) m3 zs' σ4 H5) /\
          ∀ x H', J2.yld j H4 x H' -> g2 x σ3 H' fun σ4 H5 => te σ4 H5 fun y H6 => zs.length < sizeLine /\ N2 (zs ++ [y]) σ4 H6))
section
variable {X : Cx} {scope : Scope} {own frn : List Str} {fr : List Nat} {elt tg iter tg2 iter2 : Expr} {pos : Pos} {wi wi2 : TI} {g g2 : TG} {te : TE}
theorem uG {pins : List (Addr × Obj)} {σ : St} {H2 : Hp} {s2 : Shared} {it : Addr} {fp : List Addr} {tn : Nat -> Heap -> Prop} {J : It} {RR : Value -> Addr -> Result -> Shared -> Prop} {E : Value -> Shared -> Prop} {Q : Hp -> List V -> Prop}
    (S : CompOk X scope own fr frn) (hc : X.calm = true) (I2 : Inv X pins σ H2 s2) (T : Turn X.prog X.w X.K tg J fp it tn) (st2 : tn 0 s2.heap) (f2 : ∀ b ∈ fp, kL X pins H2 b)
    (hg : ∀ C s0 H0 fp, PG (aY X scope (own ++ frn) C s0 H0 fp) tg g) (hi2 : ∀ C s0 H0 fp, PI (aY X scope (own ++ frn) C s0 H0 fp) tg2 iter2 wi2) (hg2 : ∀ C s0 H0 fp, PG (aY X scope (own ++ frn) C s0 H0 fp) tg2 g2) (he : ∀ C s0 H0 fp, PE (aY X scope (own ++ frn) C s0 H0 fp) elt te) (hs2 : ∀ C x, foldedSetIterable iter2 (compEnvC scope (cU X.env scope.names []) C X.env) x = pure x)
    (w : ∃ W : Nat -> Nat -> List V -> St -> Hp -> Prop, (∃ m, W 0 m [] (blk own.length fr σ) H2) /\ ∀ i m ys σ' H, W i m ys σ' H ->
      (J.stop i H /\ Q H ys) ∨
      (J.go i H /\ ∃ N : List V -> St -> Hp -> Prop, (∀ ys' σ2 H2, N ys' σ2 H2 -> ∃ m', m' < m /\ W (i + 1) m' ys' σ2 H2) /\
        ∀ x H', J.yld i H x H' -> g x σ' H' fun σ2 H2 => wi2 σ2 H2 fun J2 H3 => ∃ W2 : Nat -> Nat -> List V -> St -> Hp -> Prop, (∃ m2, W2 0 m2 ys σ2 H3) /\ ∀ j m2 zs σ3 H4, W2 j m2 zs σ3 H4 -> (J2.stop j H4 /\ N zs σ3 H4) ∨ (J2.go j H4 /\ ∃ N2 : List V -> St -> Hp -> Prop, (∀ zs' σ4 H5, N2 zs' σ4 H5 -> ∃ m3, m3 < m2 /\ W2 (j + 1) m3 zs' σ4 H5) /\
          ∀ x H', J2.yld j H4 x H' -> g2 x σ3 H' fun σ4 H5 => te σ4 H5 fun y H6 => zs.length < sizeLine /\ N2 (zs ++ [y]) σ4 H6)))
    (hRR : ∀ (C D : Addr) (s' : Shared) (H' : Hp) (ys : List V) (its : Array Value) (m : Str -> Option Value), s2.heap.objs.size <= C -> s2.heap.objs.size <= D -> D ≠ C -> s'.heap.Ns C m -> H' C = none -> H' D = none -> s'.heap.PlainList D its -> bB ys its.toList -> ys.length <= sizeLine ->
      Inv X pins σ H' s' -> Q H' ys -> RR (.ref D) C (.ok .next) s') :
    wpAny (model X.prog X.w) X.A (newList []) (fun acc s₃ => wpAny (model X.prog X.w) X.A (newFunctionEnv scope X.env.globals (cU X.env scope.names []) [] X.env.qual none .none (some X.env)) (fun cenv s₄ =>
      codeAny (model X.prog X.w) X.A (.compStart (.ListComp elt [⟨tg, iter, [], 0⟩, ⟨tg2, iter2, [], 0⟩] scope pos) 0 (.ref it) acc { cenv with scope := relabel scope X.env }) (RR acc cenv.locals) s₄) E s₃) E s2 := by
  obtain ⟨p1, p2, p3, p4, p5, p6, p7⟩ := S.parts
  obtain ⟨W, ⟨m0, w0⟩, turn⟩ := w
  refine wpAny_newObj_type (wpAny_newFunctionEnv p2 (by intro y hy; simp at hy) (fun h₁ hns₁ hsb₁ => ?_) p1)
  dsimp only at hns₁ hsb₁ ⊢
  generalize hH2 : s2.heap.push { cls := .type "list", dict := none, data := .seq ([] : List Value).toArray } = HD at hns₁ hsb₁ ⊢
  have hCs : HD.objs.size = s2.heap.objs.size + 1 := by rw [<- hH2, Heap.size_push]
  have hDC : s2.heap.objs.size ≠ HD.objs.size := by omega
  have hCle : s2.heap.objs.size <= HD.objs.size := by omega
  have below : ∀ b, b < s2.heap.objs.size -> b ≠ HD.objs.size /\ b ≠ s2.heap.objs.size := fun b hb => ⟨by omega, by omega⟩
  have old : ∀ b o, s2.heap.get? b = some o -> h₁.get? b = some o := fun b o e => hsb₁.extBut b o (below b (Heap.lt_size e)).1 (Heap.get?_push_of_some _ (hH2 ▸ Heap.get?_push_of_some _ e))
  have hacc : h₁.get? s2.heap.objs.size = some { cls := .type "list", data := .seq ([] : List Value).toArray } := hsb₁.extBut _ _ hDC (Heap.get?_push_of_some _ (hH2 ▸ Heap.get?_push_size _ rfl))
  have flt : ∀ b ∈ fp, b < s2.heap.objs.size := fun b hb => by
    obtain ⟨o, e, _⟩ := T.obj _ _ st2 b hb
    exact Heap.lt_size e
  generalize hDg : s2.heap.objs.size = D at *
  generalize hCg : HD.objs.size = C at *
  have st3 : tn 0 h₁ := T.keep _ _ _ st2 fun b _ o e => old b o e
  -- facts of the block
  have clsub : ∀ x c, (cU X.env scope.names []).lookup x = some c -> X.env.cells.lookup x = some c := fun x c e => by
    rcases iH _ _ _ _ (gG e) with q | q
    · cases q
    · exact q
  have cD : ∀ x c, (cU X.env scope.names []).lookup x = some c -> c ≠ D := fun x c e z => by
    obtain ⟨v, q⟩ := I2.cell x c (clsub x c e)
    exact Nat.lt_irrefl _ (Nat.lt_of_lt_of_le q.lt (by rw [hDg, z]; exact Nat.le_refl _))
  have loop : ∀ s₃ : Shared, s₃ = { s2 with heap := h₁, toks := s2.toks + ([] : List (Str × Value)).length } ->
      codeAny (model X.prog X.w) X.A (.compLoop (.ListComp elt [⟨tg, iter, [], 0⟩, ⟨tg2, iter2, [], 0⟩] scope pos) 0 (.ref it) (.ref D) (compEnvC scope (cU X.env scope.names []) C X.env)) (RR (.ref D) C) s₃ := by
    rintro s₃ rfl
    have I3 : Inv (aY X scope (own ++ frn) C s2 H2 fp) [(D, _)] (blk own.length fr σ) H2 { s2 with heap := h₁, toks := s2.toks + ([] : List (Str × Value)).length } :=
      tR (m := fun _ => none) I2 S f2 (by rw [hDg]; exact flt) (by rw [hDg]; exact hCle) (hns₁ : h₁.Ns C _) old (by rw [hDg]; exact Nat.le_refl _) hDC hacc (fun v z => by cases z)
    have stat : ∀ {H' : Hp} {pl : List (Addr × Obj)}, (∀ p ∈ pl, p.1 = D) -> (∀ b ∈ fp, H' b = none) -> ∀ b ∈ fp, kL (aY X scope (own ++ frn) C s2 H2 fp) pl H' b := fun {H' pl} hpl hn b hb => by
      refine ⟨hn b hb, (below b (flt b hb)).1, fun z => ?_, .inl hb, fun x c e => (f2 b hb).2.2.2.2.1 x c (clsub x c e), fun p hp => ?_⟩
      · have z' : b ∈ frs X.stack := z
        rcases List.mem_cons.mp (I2.stkSub b z') with e | e
        · exact (f2 b hb).2.1 e
        · exact (f2 b hb).2.2.1 e
      · have hp' : p ∈ pl := by simpa [aY] using hp
        rw [hpl p hp']
        exact Ne.symm (below b (flt b hb)).2
    refine sD (hs2 C) (env := compEnvC scope (cU X.env scope.names []) C X.env) (fun n s' => ∃ i σ' H' ys its o, Inv (aY X scope (own ++ frn) C s2 H2 fp) [(D, o)] σ' H' s' /\ s'.heap.PlainList D its /\ bB ys its.toList /\ ys.length <= sizeLine /\ tn i s'.heap /\ (∀ b ∈ fp, H' b = none) /\ W i n ys σ' H') ?_ m0
      ⟨0, _, H2, [], #[], _, I3, ⟨_, hacc⟩, .nil, Nat.zero_le _, st3, fun b hb => (f2 b hb).1, w0⟩
    rintro n s5 ⟨i, σ5, H5, ys, its, o, I5, pl5, v5, z5, st5, fr5, w5⟩
    have one : ∀ {o : Obj}, ∀ p ∈ [(D, o)], p.1 = D := fun p hp => by
      have e := List.mem_singleton.mp hp
      rw [e]
    rcases turn i n ys σ5 H5 w5 with ⟨stop, qn⟩ | ⟨go, N, hN, step⟩
    · refine wpAny_mono (T.done (aY X scope (own ++ frn) C s2 H2 fp) rfl rfl rfl hc i _ s5 σ5 H5 (fun _ _ => False) I5 (stat one fr5) st5 stop) (fun r s6 hx9 => ?_) fun _ _ z => z
      obtain ⟨hr, I6⟩ := hx9
      subst hr
      obtain ⟨m6, hn6, _⟩ := I6.loc
      have p6 := I6.pin (D, o) (by simp [aY])
      have p5' := I5.pin (D, o) (by simp [aY])
      have pl6 : s6.heap.PlainList D its := by
        obtain ⟨k, e⟩ := pl5
        have e1 : o = _ := Option.some.inj (p5'.1.symm.trans e)
        exact ⟨k, by rw [p6.1]; exact congrArg some e1⟩
      have IX : Inv X pins σ H5 s6 := I2.call' (ch := fp) I6.os I6.base I6.hok I6.bare fun b hb => ⟨(f2 b hb).2.2.2.1, (f2 b hb).2.1, (f2 b hb).2.2.2.2.1, (f2 b hb).2.2.2.2.2⟩
      exact hRR C D s6 H5 ys its m6 hCle (Nat.le_refl _) hDC hn6 I6.free p6.2.1 pl6 v5 z5 IX qn
    · refine wpAny_mono (T.item (aY X scope (own ++ frn) C s2 H2 fp) rfl rfl rfl hc i _ s5 σ5 H5 (fun _ _ => False) I5 (stat one fr5) st5 go) (fun r s6 hx9 => ?_) fun _ _ z => z
      obtain ⟨u, hr, h6⟩ := hx9
      subst hr
      refine wpAny_mono h6 (fun _ s7 hx9 => ?_) fun _ _ z => z
      obtain ⟨x, H7, I7, r7, y7, st7, fr7⟩ := hx9
      have I7' := I7.pinned (stat one fr7) (T.obj _ _ st7)
      refine wpAny_mono (hg C s2 H2 fp _ s7 σ5 H7 x u _ I7' r7 (step x H7 y7)) (fun _ s8 hx9 => ?_) fun _ _ z => z
      obtain ⟨σ8, H8, I8, q8⟩ := hx9
      refine wpAny_mono (hi2 C s2 H2 fp _ s8 σ8 H8 _ I8 q8) (fun v2 s9 h9 => wpAny_mono h9 (fun itv s10 h10 => ?_) fun _ _ z => z) fun _ _ z => z
      obtain ⟨it2, fp2, tn2, J2, H10, e10, I10, T2, st10, f10, w10⟩ := h10
      subst e10
      have DfsX : D ∉ frs X.stack := fun z => by
        rcases List.mem_cons.mp (I2.stkSub D z) with e | e
        · exact Nat.lt_irrefl _ (Nat.lt_of_lt_of_le I2.lt (by rw [hDg, e]; exact Nat.le_refl _))
        · exact I2.nofs (by rw [hDg]; exact Nat.le_refl _) e
      have p5' := I5.pin (D, o) (by simp [aY])
      have pl10 : s10.heap.PlainList D its := by
        have p' := I10.pin (D, o) (by simp [aY])
        obtain ⟨k, e⟩ := pl5
        have e1 : o = _ := Option.some.inj (p5'.1.symm.trans e)
        exact ⟨k, by rw [p'.1]; exact congrArg some e1⟩
      refine wJ (Y := aY X scope (own ++ frn) C s2 H2 fp) (ps := kM fp s7.heap) (F := N) (fun _ _ z => z) hc T2 (hg2 C s2 H2 fp) (he C s2 H2 fp) hDC (.inr (by show s2.heap.objs.size <= D; rw [hDg]; exact Nat.le_refl _)) cD (fun p hp => by simp [aY] at hp) DfsX
        (fun p hp => (below p.1 (flt p.1 (qA hp).1)).2) I10 pl10 v5 z5 st10 f10 w10 (fun s' σ' H' zs' its' o' I' pl' v' z' q' => ?_)
      obtain ⟨m', hm, w'⟩ := hN zs' σ' H' q'
      refine ⟨m', hm, i + 1, σ', H', zs', its', o', I'.pins_of fun p hp => ?_, pl', v', z', T.keep _ _ _ st7 fun b hb o e => (I'.pin (b, o) (List.mem_append_right _ (List.mem_cons_of_mem _ (dP hb e)))).1, fun b hb => ?_, w'⟩
      · have e := List.mem_singleton.mp hp
        subst e
        exact I'.pin _ (List.mem_append_right _ (List.mem_cons_self ..))
      · obtain ⟨o, e, d⟩ := T.obj _ _ st7 b hb
        exact (I'.pin (b, o) (List.mem_append_right _ (List.mem_cons_of_mem _ (dP hb e)))).2.1
  exact codeAny_compStart_list (loop _ rfl) (T.self X.A 0 _ _ _ st3 (loop _ rfl))
theorem aAT (S : CompOk X scope own fr frn) (hc : X.calm = true) (hi : PI X tg iter wi) (hg : ∀ C s0 H0 fp, PG (aY X scope (own ++ frn) C s0 H0 fp) tg g) (hi2 : ∀ C s0 H0 fp, PI (aY X scope (own ++ frn) C s0 H0 fp) tg2 iter2 wi2) (hg2 : ∀ C s0 H0 fp, PG (aY X scope (own ++ frn) C s0 H0 fp) tg2 g2)
    (he : ∀ C s0 H0 fp, PE (aY X scope (own ++ frn) C s0 H0 fp) elt te) (hs : ∀ x, foldedSetIterable iter X.env x = pure x := by intro _; rfl) (hs2 : ∀ C x, foldedSetIterable iter2 (compEnvC scope (cU X.env scope.names []) C X.env) x = pure x := by intro _ _; rfl) :
    PE X (.ListComp elt [⟨tg, iter, [], 0⟩, ⟨tg2, iter2, [], 0⟩] scope pos) (aC7 own.length fr wi g wi2 g2 te) := by
  intro pins s σ H Q I h
  obtain ⟨p1, p2, p3, p4, p5, p6, p7⟩ := S.parts
  rw [eval_ListComp]
  refine wpAny_comprehension_free (use := none) rfl hs (S.clo I) p1 p3 (thn (hi pins s σ H _ I h) fun v s1 h1 => thn h1 fun itv s2 h2 => ?_)
  obtain ⟨it, fp, tn, J, H2, e, I2, T, st2, f2, hw⟩ := h2
  subst e
  refine uG (RR := fun acc C => compPost (model X.prog X.w) X.A X.xe none (EP X pins σ Q) acc C) (Q := fun H ys => ∀ p, H p = none -> Q (.ref p) (upd H p (.lst ys))) S hc I2 T st2 f2 hg hi2 hg2 he hs2 hw ?_
  intro C D s' H' ys its m hC hD hDC hns hHC hHD pl v z IX q
  have cne : ∀ a, s2.heap.objs.size <= a -> ∀ x c, X.env.cells.lookup x = some c -> c ≠ a := fun a ha x c e z => by
    obtain ⟨v, w⟩ := I2.cell x c e
    exact Nat.lt_irrefl _ (Nat.lt_of_lt_of_le w.lt (by rw [z]; exact ha))
  have pne : ∀ a, s2.heap.objs.size <= a -> ∀ p ∈ X.pn ++ pins, p.1 ≠ a := fun a ha p hp z => Nat.lt_irrefl _ (Nat.lt_of_lt_of_le (Heap.lt_size (I2.pin p hp).1) (by rw [z]; exact ha))
  have lne : ∀ a, s2.heap.objs.size <= a -> a ≠ X.env.locals := fun a ha z => Nat.lt_irrefl _ (Nat.lt_of_lt_of_le I2.lt (by rw [<- z]; exact ha))
  refine ⟨m, hns, fun h' hs' => ⟨.ref D, upd H' D (.lst ys), ?_, rfl, q D hHD⟩⟩
  have IT : Inv X pins σ (upd H' D (.lst ys)) s' := IX.track pl v z hHD (lne D hD) (Nat.le_trans I2.sz hD) (cne D hD) (pne D hD)
  exact IT.turned (t' := s'.toks) (it := C) (fun b o hb e => (hs'.2 b hb).trans e) (by rw [aI (Ne.symm hDC)]; exact hHC) (lne C hC) (.inr (Nat.le_trans I2.sz hC)) (cne C hC) (pne C hC)
end
end L2
set_option Elab.async false
set_option linter.all false
set_option maxRecDepth 100000
namespace L2
open PySem PySem.Spec PyProof.Rows
section
variable {own : Nat} {fr : List Nat} {g g2 : TG} {wi2 : TI} {te : TE} {σ : St} {H : Hp} {Qf : Hp -> List V -> Prop} {K : PySem.W.Frag}
def aBZ (g2 : TG) (te : TE) (SH : St -> Prop) (vs : List V) (σ2 : St) (J2 : It) (H4 : Hp) : Prop := ∃ SH2 : St -> Prop, SH2 σ2 /\ (∀ σ3, SH2 σ3 -> SH σ3) /\ (∀ H', aE H4 H' -> J2.stop vs.length H') /\ (∀ j H', j < vs.length -> aE H4 H' -> J2.go j H') /\
  ∀ j v y σ3 H5 H6, vs[j]? = some v -> SH2 σ3 -> aE H4 H5 -> J2.yld j H5 y H6 -> ∀ Q : V -> St -> Hp -> Prop, (∀ σ4 H7, SH2 σ4 -> aE H5 H7 -> Q v σ4 H7) -> g2 y σ3 H6 fun σ4 H7 => te σ4 H7 fun z H8 => Q z σ4 H8
theorem qM {vss : List (List V)} {i : Nat} {vs : List V} (h : vss[i]? = some vs) : (vss.take (i + 1)).flatten = (vss.take i).flatten ++ vs := by
  rw [List.take_succ, h, List.flatten_append]; simp
theorem aAU {vss : List (List V)} {i : Nat} {vs : List V} (h : vss[i]? = some vs) : (vss.take i).flatten.length + vs.length <= vss.flatten.length := by
  have e := congrArg List.flatten (List.take_append_drop (i + 1) vss)
  rw [List.flatten_append, qM h] at e
  rw [<- e, List.length_append, List.length_append]
  omega
theorem aAV {J : It} {n : Nat} {vss : List (List V)} (SH : St -> Prop) (hn : vss.flatten.length <= 1000) (hl : vss.length = n) (hσ : SH (blk own fr σ)) (hstop : ∀ H', aE H H' -> J.stop n H') (hgo : ∀ i H', i < n -> aE H H' -> J.go i H')
    (hs : ∀ i vs x σ H1 H2, i < n -> vss[i]? = some vs -> SH σ -> aE H H1 -> J.yld i H1 x H2 -> ∀ P : St -> It -> Hp -> Prop, (∀ σ2 J2 H4, aE H1 H4 -> aBZ g2 te SH vs σ2 J2 H4 -> P σ2 J2 H4) -> g x σ H2 fun σ2 H3 => wi2 σ2 H3 fun J2 H4 => P σ2 J2 H4)
    (hd : ∀ H', aE H H' -> Qf H' vss.flatten) :
    ∃ W : Nat -> Nat -> List V -> St -> Hp -> Prop, (∃ m, W 0 m [] (blk own fr σ) H) /\ ∀ i m ys σ' H, W i m ys σ' H ->
      (J.stop i H /\ Qf H ys) ∨
      (J.go i H /\ ∃ N : List V -> St -> Hp -> Prop, (∀ ys' σ2 H2, N ys' σ2 H2 -> ∃ m', m' < m /\ W (i + 1) m' ys' σ2 H2) /\
        ∀ x H', J.yld i H x H' -> g x σ' H' fun σ2 H2 => wi2 σ2 H2 fun J2 H3 => ∃ W2 : Nat -> Nat -> List V -> St -> Hp -> Prop, (∃ m2, W2 0 m2 ys σ2 H3) /\ ∀ j m2 zs σ3 H4, W2 j m2 zs σ3 H4 -> (J2.stop j H4 /\ N zs σ3 H4) ∨ (J2.go j H4 /\ ∃ N2 : List V -> St -> Hp -> Prop, (∀ zs' σ4 H5, N2 zs' σ4 H5 -> ∃ m3, m3 < m2 /\ W2 (j + 1) m3 zs' σ4 H5) /\
          ∀ x H', J2.yld j H4 x H' -> g2 x σ3 H' fun σ4 H5 => te σ4 H5 fun y H6 => zs.length < sizeLine /\ N2 (zs ++ [y]) σ4 H6)) := by
  refine ⟨fun i m ys σ' H' => i <= n /\ m = n - i /\ ys = (vss.take i).flatten /\ SH σ' /\ aE H H', ⟨n, Nat.zero_le _, rfl, rfl, hσ, aE.refl H⟩, ?_⟩
  rintro i m ys σ' H1 ⟨hi, rfl, rfl, sh, s1⟩
  by_cases e : i = n
  · subst e
    refine .inl ⟨hstop H1 s1, ?_⟩
    rw [List.take_of_length_le (by omega)]
    exact hd H1 s1
  have hlt : i < n := by omega
  refine .inr ⟨hgo i H1 hlt s1, fun ys' σ2 H2 => ys' = (vss.take (i + 1)).flatten /\ SH σ2 /\ aE H H2, fun ys' σ2 H2 ⟨e1, e2, e3⟩ => ⟨n - (i + 1), by omega, by omega, rfl, e1, e2, e3⟩, fun x H2 hy => ?_⟩
  have hv : vss[i]? = some vss[i] := List.getElem?_eq_getElem (by omega)
  have hfl := aAU hv
  refine hs i vss[i] x σ' H1 H2 hlt hv sh s1 hy _ fun σ2 J2 H4 s4 hx9 => ?_
  obtain ⟨SH2, sh2, hb, st2, go2, step2⟩ := hx9
  refine ⟨fun j m2 zs σ3 H5 => j <= (vss[i]).length /\ m2 = (vss[i]).length - j /\ zs = (vss.take i).flatten ++ (vss[i]).take j /\ SH2 σ3 /\ aE H4 H5, ⟨_, Nat.zero_le _, rfl, by rw [List.take_zero, List.append_nil], sh2, aE.refl _⟩, ?_⟩
  rintro j m2 zs σ3 H5 ⟨hj, rfl, rfl, sh3, s5⟩
  by_cases e2 : j = (vss[i]).length
  · refine .inl ⟨e2 ▸ st2 H5 s5, ?_, hb _ sh3, (s1.trans s4).trans s5⟩
    rw [qM hv, show (vss[i]).take j = vss[i] from List.take_of_length_le (by omega)]
  · have hjl : j < (vss[i]).length := by omega
    refine .inr ⟨go2 j H5 hjl s5, fun zs' σ4 H6 => zs' = (vss.take i).flatten ++ (vss[i]).take (j + 1) /\ SH2 σ4 /\ aE H4 H6, fun zs' σ4 H6 ⟨q1, q2, q3⟩ => ⟨(vss[i]).length - (j + 1), by omega, by omega, rfl, q1, q2, q3⟩, fun y H6 hy2 => ?_⟩
    have hvj : (vss[i])[j]? = some (vss[i])[j] := List.getElem?_eq_getElem hjl
    refine step2 j _ y σ3 H5 H6 hvj sh3 s5 hy2 _ fun σ4 H7 sh4 s7 => ⟨wI (n := ((vss.take i).flatten ++ (vss[i]).take j).length + 1) (by rw [List.length_append, List.length_take]; omega), ?_, sh4, s5.trans s7⟩
    rw [List.take_succ, hvj, <- List.append_assoc]
    rfl
end
section
variable {X : Cx}
end
end L2
set_option Elab.async false
set_option linter.all false
set_option maxRecDepth 100000
namespace L2
open PySem PySem.Spec PyProof.Rows
section
variable {κ : Type} [DecidableEq κ]
def cQ (kvs : List (κ × V)) (k : κ) : Option V := (kvs.find? fun kv => decide (kv.1 = k)).map (·.2)
def iP (kvs : List (κ × V)) (k : κ) (v : V) : List (κ × V) :=
  if (kvs.any fun kv => decide (kv.1 = k)) = true then kvs.map (fun kv => if kv.1 = k then (kv.1, v) else kv) else kvs ++ [(k, v)]
def aCC (kvs : List (κ × V)) (k : κ) : List (κ × V) := kvs.filter fun kv => decide (kv.1 ≠ k)
theorem aAW {k : κ} : cQ ([] : List (κ × V)) k = none := rfl
theorem cV {p : κ × V} {r : List (κ × V)} {k : κ} (e : p.1 = k) : cQ (p :: r) k = some p.2 := by simp [cQ, List.find?_cons, e]
theorem dU {p : κ × V} {r : List (κ × V)} {k : κ} (e : ¬ p.1 = k) : cQ (p :: r) k = cQ r k := by simp [cQ, List.find?_cons, e]
theorem gH (k : κ) : ∀ kvs : List (κ × V), (kvs.any fun kv => decide (kv.1 = k)) = (cQ kvs k).isSome
  | [] => rfl
  | p :: r => by
    rw [List.any_cons]
    by_cases e : p.1 = k
    · simp only [cV e, decide_eq_true e, Bool.true_or, Option.isSome_some]
    · rw [dU e, decide_eq_false e, Bool.false_or]; exact gH k r
theorem uH (k j : κ) (y : V) : ∀ kvs : List (κ × V), cQ (kvs.map fun kv => if kv.1 = k then (kv.1, y) else kv) j = (cQ kvs j).map fun x => if j = k then y else x
  | [] => rfl
  | p :: r => by
    have ih := uH k j y r
    rw [List.map_cons]
    by_cases h : p.1 = k
    · rw [if_pos h]
      by_cases e : p.1 = j
      · rw [cV (p := (p.1, y)) e, cV e, Option.map_some, if_pos (e.symm.trans h)]
      · rw [dU (p := (p.1, y)) e, dU e, ih]
    · rw [if_neg h]
      by_cases e : p.1 = j
      · rw [cV (p := p) e, cV e, Option.map_some, if_neg (fun z => h (e.trans z))]
      · rw [dU (p := p) e, dU e, ih]
theorem mF (k j : κ) (y : V) : ∀ kvs : List (κ × V), cQ kvs k = none -> cQ (kvs ++ [(k, y)]) j = if j = k then some y else cQ kvs j
  | [], _ => by
    by_cases e : k = j
    · rw [if_pos e.symm]; exact cV (p := (k, y)) e
    · rw [if_neg (fun z => e z.symm)]; exact dU (p := (k, y)) e
  | p :: r, hn => by
    rw [List.cons_append]
    have hk : ¬ p.1 = k := fun z => by rw [cV z] at hn; cases hn
    rw [dU hk] at hn
    have ih := mF k j y r hn
    by_cases e : p.1 = j
    · rw [cV e, cV e, if_neg (fun z => hk (e.trans z))]
    · rw [dU e, dU e, ih]
theorem uI (kvs : List (κ × V)) (k j : κ) (y : V) : cQ (iP kvs k y) j = if j = k then some y else cQ kvs j := by
  unfold iP
  by_cases a : (kvs.any fun kv => decide (kv.1 = k)) = true
  · rw [if_pos a, uH]
    rw [gH] at a
    by_cases e : j = k
    · obtain ⟨x, hx⟩ := Option.isSome_iff_exists.mp a
      rw [if_pos e, e, hx, Option.map_some, if_pos rfl]
    · rw [if_neg e]
      cases cQ kvs j with
      | none => rfl
      | some x => rw [Option.map_some, if_neg e]
  · rw [if_neg a]
    refine mF k j y kvs ?_
    rw [gH] at a
    cases q : cQ kvs k with
    | none => rfl
    | some x => rw [q] at a; exact (a rfl).elim
theorem jF (kvs : List (κ × V)) (k : κ) (v : V) : (iP kvs k v).length <= kvs.length + 1 := by
  unfold iP
  split
  · rw [List.length_map]; omega
  · rw [List.length_append, List.length_cons, List.length_nil]; omega
theorem aAX {kvs : List (κ × V)} {k : κ} (v : V) (h : cQ kvs k = none) : iP kvs k v = kvs ++ [(k, v)] := by
  unfold iP
  rw [gH, h]
  exact if_neg (by decide)
theorem mZ.isSome_eq {o : Option V} {u : Option Value} (r : mZ o u) : o.isSome = u.isSome := by
  cases o with
  | none => cases u with
    | none => rfl
    | some _ => exact (show False from r).elim
  | some _ => cases u with
    | none => exact (show False from r).elim
    | some _ => rfl
theorem mZ.getD {o : Option V} {u : Option Value} {d : V} {d' : Value} (r : mZ o u) (rd : bE d d') : bE (o.getD d) (u.getD d') := by
  cases o with
  | none => cases u with
    | none => exact rd
    | some _ => exact (show False from r).elim
  | some _ => cases u with
    | none => exact (show False from r).elim
    | some _ => exact r
theorem KV.val {kvs : List (κ × V)} {vs : List (κ × Value)} (r : KV kvs vs) (k : κ) : mZ (cQ kvs k) (valueAt vs k) := by
  unfold KV at r
  induction r with
  | nil => exact True.intro
  | @cons p q ps qs h t ih =>
    obtain ⟨h1, h2⟩ := h
    by_cases e : p.1 = k
    · have e' : q.1 = k := h1.symm.trans e
      have b : valueAt (q :: qs) k = some q.2 := by simp [valueAt, List.find?_cons, e']
      rw [cV e, b]; exact h2
    · have e' : ¬ q.1 = k := fun z => e (h1.trans z)
      have b : valueAt (q :: qs) k = valueAt qs k := by simp [valueAt, List.find?_cons, e']
      rw [dU e, b]; exact ih
theorem KV.any {kvs : List (κ × V)} {vs : List (κ × Value)} (r : KV kvs vs) (k : κ) : (kvs.any fun kv => decide (kv.1 = k)) = vs.any fun kv => decide (kv.1 = k) := by
  unfold KV at r
  induction r with
  | nil => rfl
  | cons h t ih => rw [List.any_cons, List.any_cons, ih, h.1]
theorem KV.repl {kvs : List (κ × V)} {vs : List (κ × Value)} (r : KV kvs vs) (k : κ) {y : V} {u : Value} (ry : bE y u) :
    KV (kvs.map fun kv => if kv.1 = k then (kv.1, y) else kv) (vs.map fun kv => if kv.1 = k then (kv.1, u) else kv) := by
  unfold KV at r ⊢
  induction r with
  | nil => exact .nil
  | @cons p q ps qs h t ih =>
    rw [List.map_cons, List.map_cons]
    refine .cons ?_ ih
    obtain ⟨h1, h2⟩ := h
    by_cases e : p.1 = k
    · rw [if_pos e, if_pos (h1.symm.trans e)]; exact ⟨h1, ry⟩
    · rw [if_neg e, if_neg (fun z => e (h1.trans z))]; exact ⟨h1, h2⟩
theorem KV.put {kvs : List (κ × V)} {vs : List (κ × Value)} (r : KV kvs vs) (k : κ) {y : V} {u : Value} (ry : bE y u) : KV (iP kvs k y) (stored vs k u) := by
  unfold iP stored
  rw [r.any k]
  by_cases e : (vs.any fun kv => decide (kv.1 = k)) = true
  · rw [if_pos e, if_pos e]; exact r.repl k ry
  · rw [if_neg e, if_neg e]; exact Paired.snoc r ⟨rfl, ry⟩
theorem KV.drop {kvs : List (κ × V)} {vs : List (κ × Value)} (r : KV kvs vs) (k : κ) : KV (aCC kvs k) (without vs k) := by
  unfold KV at r ⊢
  unfold aCC without
  induction r with
  | nil => exact .nil
  | @cons p q ps qs h t ih =>
    obtain ⟨h1, h2⟩ := h
    rw [List.filter_cons, List.filter_cons]
    by_cases e : p.1 = k
    · have a : ¬ decide (p.1 ≠ k) = true := by simp [e]
      have b : ¬ decide (q.1 ≠ k) = true := by simp [h1.symm.trans e]
      rw [if_neg a, if_neg b]; exact ih
    · have e' : ¬ q.1 = k := fun z => e (h1.trans z)
      have a : decide (p.1 ≠ k) = true := by simp [e]
      have b : decide (q.1 ≠ k) = true := by simp [e']
      rw [if_pos a, if_pos b]; exact .cons ⟨h1, h2⟩ ih
theorem KV.keys {kvs : List (κ × V)} {vs : List (κ × Value)} (r : KV kvs vs) : kvs.map (·.1) = vs.map (·.1) := by
  unfold KV at r
  induction r with
  | nil => rfl
  | cons h t ih => rw [List.map_cons, List.map_cons, ih, h.1]
theorem KV.length {kvs : List (κ × V)} {vs : List (κ × Value)} (r : KV kvs vs) : kvs.length = vs.length := Paired.length r
end
theorem uJ {P : Program} {w : World} {k : Key} {u : Value} (r : bE (kV k) u) : (bY P w).is k u = true := by
  cases k with
  | inl i => obtain ⟨t, e⟩ := (show ∃ t, u = Value.int i t from r); subst e; exact tH P w i t
  | inr x => obtain ⟨t, e⟩ := (show ∃ t, u = Value.str x t from r); subst e; exact tI P w x t
theorem qN {P : Program} {w : World} : ∀ {ks : List Key} {us : List Value}, bB (ks.map kV) us -> ItemsAre (bY P w) ks us
  | [], _, r => by rw [List.map_nil] at r; cases r; exact .nil
  | k :: ks, _, r => by
    rw [List.map_cons] at r
    cases r with
    | cons h t => exact .cons (uJ h) (qN t)
abbrev KT (H : Hp) : List (List Key × V) -> List (List Key × Addr × Value) -> Prop := Paired fun p q => p.1 = q.1 /\ H q.2.1 = some (.tup (p.1.map kV)) /\ bE p.2 q.2.2
theorem KT.val {H : Hp} {kvs : List (List Key × V)} {xs : List (List Key × Addr × Value)} (r : KT H kvs xs) (k : List Key) : mZ (cQ kvs k) ((atKey xs k).map (·.2)) := by
  induction r with
  | nil => exact True.intro
  | @cons p q ps qs h t ih =>
    obtain ⟨h1, _, h2⟩ := h
    by_cases e : p.1 = k
    · have e' : q.1 = k := h1.symm.trans e
      have b : atKey (q :: qs) k = some q.2 := by simp [atKey, List.find?_cons, e']
      rw [cV e, b]; exact h2
    · have e' : ¬ q.1 = k := fun z => e (h1.trans z)
      have b : atKey (q :: qs) k = atKey qs k := by simp [atKey, List.find?_cons, e']
      rw [dU e, b]; exact ih
theorem KT.repl {H : Hp} {kvs : List (List Key × V)} {xs : List (List Key × Addr × Value)} (r : KT H kvs xs) (k : List Key) {y : V} {u : Value} (ry : bE y u) :
    KT H (kvs.map fun kv => if kv.1 = k then (kv.1, y) else kv) (xs.map (putAt k u)) := by
  induction r with
  | nil => exact .nil
  | @cons p q ps qs h t ih =>
    rw [List.map_cons, List.map_cons]
    refine .cons ?_ ih
    obtain ⟨h1, h2, h3⟩ := h
    unfold putAt
    by_cases e : p.1 = k
    · rw [if_pos e, if_pos (h1.symm.trans e)]; exact ⟨h1, h2, ry⟩
    · rw [if_neg e, if_neg (fun z => e (h1.trans z))]; exact ⟨h1, h2, h3⟩
theorem KT.put {H : Hp} {kvs : List (List Key × V)} {xs : List (List Key × Addr × Value)} (r : KT H kvs xs) (k : List Key) {b : Addr} {y : V} {u : Value} (hb : H b = some (.tup (k.map kV))) (ry : bE y u) :
    KT H (iP kvs k y) (storedH xs k b u) := by
  have e : (kvs.any fun kv => decide (kv.1 = k)) = (atKey xs k).isSome := by
    rw [gH, (r.val k).isSome_eq, Option.isSome_map]
  unfold iP storedH
  rw [e]
  by_cases q : (atKey xs k).isSome = true
  · rw [if_pos q, if_pos q]; exact r.repl k ry
  · rw [if_neg q, if_neg q]; exact Paired.snoc r ⟨rfl, hb, ry⟩
theorem KT.keeps {H H' : Hp} {kvs : List (List Key × V)} {xs : List (List Key × Addr × Value)} (r : KT H kvs xs) (ht : ∀ b ys, H b = some (.tup ys) -> H' b = some (.tup ys)) : KT H' kvs xs :=
  Paired.mapP r fun _ _ z => ⟨z.1, ht _ _ z.2.1, z.2.2⟩
section
variable {P : Program} {w : World} {H : Hp} {h : Heap} {a : Addr}
theorem aCD {u : HO} (ok : HOk P w H h) (e : Rd H a u) : bO P w H h a u := e.ok ok
theorem xZ {kvs : List (Key × V)} (ok : HOk P w H h) (e : Rd H a (.dK kvs)) : kvs.length <= sizeLine /\ (a == sysModules) = false /\ ∃ vs, KV kvs vs /\ h.DictOf (bY P w) a vs :=
  show bO P w H h a (.dK kvs) from aCD ok e
theorem aDQ {kvs : List (Key × V)} (ok : HOk P w H h) (e : H a = some (.dK kvs)) : kvs.length <= sizeLine /\ (a == sysModules) = false /\ ∃ vs, KV kvs vs /\ h.DictOf (bY P w) a vs := xZ ok (.inl e)
theorem sE {ks : List Key} (ok : HOk P w H h) (e : H a = some (.tup (ks.map kV))) : (tupleKind (bY P w)).is h ks a := by
  obtain ⟨_, its, n, r, e1⟩ := (show bO P w H h a (.tup (ks.map kV)) from ok a _ e)
  exact ⟨_, its.toArray, n, e1, rfl, rfl, by simpa using qN r⟩
theorem yA {kvs : List (List Key × V)} (ok : HOk P w H h) (e : Rd H a (.dT kvs)) : kvs.length <= sizeLine /\ (a == sysModules) = false /\
    ∃ xs, KT H kvs xs /\ h.DictOfH (tupleKind (bY P w)) a xs := by
  obtain ⟨z, y, xs, r, o, es, ep, h1, h2, h3, h4, h5⟩ := (show bO P w H h a (.dT kvs) from aCD ok e)
  refine ⟨z, y, xs, r, o, es, ep, h1, h2, h3, h4, fun x hx => ?_, h5⟩
  have all : ∀ {l : List (List Key × V)} {m : List (List Key × Addr × Value)}, KT H l m -> ∀ x ∈ m, (tupleKind (bY P w)).is h x.1 x.2.1 := by
    intro l m q
    induction q with
    | nil => intro x hx; exact nomatch hx
    | @cons p q ps qs hq t ih =>
      intro x hx
      rcases List.mem_cons.mp hx with e | hx
      · subst e
        exact sE ok (by rw [<- hq.1]; exact hq.2.1)
      · exact ih x hx
  exact all r x hx
theorem aDR {kvs : List (List Key × V)} (ok : HOk P w H h) (e : H a = some (.dT kvs)) : kvs.length <= sizeLine /\ (a == sysModules) = false /\
    ∃ xs, KT H kvs xs /\ h.DictOfH (tupleKind (bY P w)) a xs := yA ok (.inl e)
end
def pT (H : Hp) (a : Addr) (y : V) (r : Option V) : Prop :=
  (∃ kvs k, Rd H a (.dK kvs) /\ y = kV k /\ r = cQ kvs k) ∨ ∃ kvs k b, Rd H a (.dT kvs) /\ y = .ref b /\ H b = some (.tup (k.map kV)) /\ r = cQ kvs k
def uK (H : Hp) (a : Addr) (y v : V) (H' : Hp) : Prop :=
  (∃ kvs k, H a = some (.dK kvs) /\ y = kV k /\ kvs.length < sizeLine /\ H' = upd H a (.dK (iP kvs k v))) ∨
  ∃ kvs k b, H a = some (.dT kvs) /\ y = .ref b /\ H b = some (.tup (k.map kV)) /\ kvs.length < sizeLine /\ H' = upd H a (.dT (iP kvs k v))
theorem pT.k {H : Hp} {a : Addr} {kvs : List (Key × V)} {k : Key} (e : H a = some (.dK kvs)) : pT H a (kV k) (cQ kvs k) := .inl ⟨kvs, k, .inl e, rfl, rfl⟩
theorem pT.t {H : Hp} {a b : Addr} {kvs : List (List Key × V)} {k : List Key} (e : H a = some (.dT kvs)) (eb : H b = some (.tup (k.map kV))) : pT H a (.ref b) (cQ kvs k) := .inr ⟨kvs, k, b, .inl e, rfl, eb, rfl⟩
theorem uK.k {H : Hp} {a : Addr} {kvs : List (Key × V)} {k : Key} {v : V} (e : H a = some (.dK kvs)) (hl : kvs.length < sizeLine) : uK H a (kV k) v (upd H a (.dK (iP kvs k v))) := .inl ⟨kvs, k, e, rfl, hl, rfl⟩
theorem uK.t {H : Hp} {a b : Addr} {kvs : List (List Key × V)} {k : List Key} {v : V} (e : H a = some (.dT kvs)) (eb : H b = some (.tup (k.map kV))) (hl : kvs.length < sizeLine) :
    uK H a (.ref b) v (upd H a (.dT (iP kvs k v))) := .inr ⟨kvs, k, b, e, rfl, eb, hl, rfl⟩
section
variable {X : Cx} {pins : List (Addr × Obj)} {σ : St} {H : Hp} {s : Shared} {a : Addr} {y v : V} {u r : Value} {o : Option V} {A : Around} {E : Value -> Shared -> Prop}
theorem Inv.big (I : Inv X pins σ H s) : sysModules < s.heap.objs.size := by
  have h : mainGlobals < s.heap.objs.size := (I.mod.glob.keeps I.bk).lt
  exact Nat.lt_trans (by decide) h
theorem zR {Q : Value -> Shared -> Prop} (hu : A.units + 1 < cLine) (I : Inv X pins σ H s) (g : pT H a y (some v)) (ry : bE y u) (h : ∀ w' s', Inv X pins σ H s' -> bE v w' -> Q w' s') :
    wpAny (model X.prog X.w) A (getItem (.ref a) u) Q E s := by
  rcases g with ⟨kvs, k, e, ey, l⟩ | ⟨kvs, k, b, e, ey, eb, l⟩
  · subst ey
    obtain ⟨z, hd, vs, rel, dd⟩ := xZ I.hok e
    obtain ⟨w', hw, rw'⟩ := mZ.some_of (v := v) (o := valueAt vs k) (by rw [l]; exact rel.val k)
    exact wpAny_getItem_of (uJ ry) dd.mapOf hw (h w' _ (I.tok _) rw')
  · subst ey
    cases (show u = Value.ref b from ry)
    obtain ⟨z, hd, xs, rel, dd⟩ := yA I.hok e
    obtain ⟨w', hw, rw'⟩ := mZ.some_of (v := v) (o := (atKey xs k).map (·.2)) (by rw [l]; exact rel.val k)
    obtain ⟨p, hp, hp2⟩ := Option.map_eq_some_iff.mp hw
    refine wpAny_getItem_heap (tupleKind_room_in1 hu) (sE I.hok eb) dd hp ?_
    rw [hp2]
    exact h w' _ (I.tok _) rw'
theorem aB0 {Q : Value -> Shared -> Prop} (hu : A.units + 1 < cLine) (I : Inv X pins σ H s) (g : pT H a y o) (ry : bE y u) (h : ∀ s', Inv X pins σ H s' -> Q (.bool (!o.isSome)) s') :
    wpAny (model X.prog X.w) A (compareOp .NotIn u (.ref a)) Q E s := by
  rcases g with ⟨kvs, k, e, ey, l⟩ | ⟨kvs, k, b, e, ey, eb, l⟩
  · subst ey
    obtain ⟨z, hd, vs, rel, dd⟩ := xZ I.hok e
    refine wpAny_notIn_of (uJ ry) hd dd.mapOf ?_
    rw [<- (rel.val k).isSome_eq, <- l]
    exact h _ (I.tok _)
  · subst ey
    cases (show u = Value.ref b from ry)
    obtain ⟨z, hd, xs, rel, dd⟩ := yA I.hok e
    refine wpAny_notIn_heap (tupleKind_room_in1 hu) (sE I.hok eb) hd dd ?_
    have q := (rel.val k).isSome_eq
    rw [Option.isSome_map] at q
    rw [<- q, <- l]
    exact h _ (I.tok _)
theorem sF {h' : Heap} {t' : Nat} {ob : HO} (I : Inv X pins σ H s) (mu : Mut (H a)) (hs : Heap.SameBut a s.heap h') (he : ∃ q, h'.get? a = some q) (new : bO X.prog X.w (upd H a ob) h' a ob) :
    Inv X pins σ (upd H a ob) { s with heap := h', toks := t' } :=
  I.write (x := a) (e := a) mu (.inl rfl) (fun b q hb z => (hs.2 b hb).trans z) he new
theorem aAY {P : Program} {w : World} {H' : Hp} {h' : Heap} {kvs : List (Key × V)} {vs : List (Key × Value)} (z : kvs.length <= sizeLine) (hd : (a == sysModules) = false) (rel : KV kvs vs) (dd : h'.DictOf (bY P w) a vs) :
    bO P w H' h' a (.dK kvs) := ⟨z, hd, vs, rel, dd⟩
theorem zS {H' : Hp} {Q : Unit -> Shared -> Prop} (hu : A.units + 1 < cLine) (I : Inv X pins σ H s) (g : uK H a y v H') (ry : bE y u) (rv : bE v r) (h : ∀ s', Inv X pins σ H' s' -> Q () s') :
    wpAny (model X.prog X.w) A (setItem (.ref a) u r) Q E s := by
  rcases g with ⟨kvs, k, e, ey, l, eH⟩ | ⟨kvs, k, b, e, ey, eb, l, eH⟩
  · subst ey eH
    obtain ⟨z, hd, vs, rel, dd⟩ := aDQ I.hok e
    have hz : vs.length <= sizeLine := by rw [<- rel.length]; exact z
    have hl : (iP kvs k v).length <= sizeLine := by have := jF kvs k v; omega
    refine wpAny_setItem_pairs (hsz := hz) (uJ ry) dd fun h' dd' hs => h _ ?_
    have he : ∃ q, h'.get? a = some q := let ⟨q, _, _, hq, _⟩ := dd'; ⟨q, hq⟩
    exact sF I (by rw [e]; exact True.intro) hs he (aAY hl hd (rel.put k rv) dd')
  · subst ey eH
    cases (show u = Value.ref b from ry)
    obtain ⟨z, hd, xs, rel, dd⟩ := aDR I.hok e
    have hz : xs.length <= sizeLine := by rw [<- Paired.length rel]; exact z
    have hl : (iP kvs k v).length <= sizeLine := by have := jF kvs k v; omega
    refine wpAny_setItem_heap (hsz := hz) (tupleKind_room_in1 hu) (sE I.hok eb) dd fun h' dd' hs => h _ ?_
    obtain ⟨q, es, ep, hq, h2, h3, h4, _, h5⟩ := dd'
    refine sF I (by rw [e]; exact True.intro) hs ⟨q, hq⟩ ⟨hl, hd, _, (rel.put k eb rv).keeps fun c ys ec => ?_, q, es, ep, hq, h2, h3, h4, h5⟩
    rw [aI (aDq ec e (fun z => nomatch z))]
    exact ec
end
section
variable {X : Cx} {pins : List (Addr × Obj)} {σ : St} {H : Hp} {s : Shared} {a : Addr} {kvs : List (Key × V)} {k : Key} {u : Value} {A : Around} {E : Value -> Shared -> Prop}
end
def aDS (i : Expr) : Prop := ∀ ov iv, subscripted i false ov iv = operate [ov, iv] (getItem ov iv)
theorem aB1 {prog : Program} {w : World} {A : Around} {E : Value -> Shared -> Prop} {s : Shared} {env : Env} {value slice : Expr} {pos : Pos} {T id : String} {Q : Value -> Shared -> Prop}
    (hl : typeLookup (.type T) "__getitem__" = pure (some (.builtin id))) (hs : aDS slice)
    (h : wpAny (model prog w) A (eval value env) (fun o s₁ => wpAny (model prog w) A (eval slice env) (fun i s₂ => s₂.TypeIs o T /\ wpAny (model prog w) A (getItem o i) Q E s₂) E s₁) E s) :
    wpAny (model prog w) A (eval (.Subscript value slice pos) env) Q E s := by
  refine Subscript_ (wpAny_mono h (fun o s₁ h₁ => wpAny_mono h₁ (fun i s₂ h₂ => ?_) fun _ _ x => x) fun _ _ x => x)
  obtain ⟨hT, h₂⟩ := h₂
  unfold subscriptTail
  refine wpAny_bind ?_
  rw [getitemInPython_of_ne hT.not_modules]
  refine wpAny_bind (wpAny_specialOf hT hl ?_)
  have fin : wpAny (model prog w) A (subscripted slice false o i) (fun r s₃ => wpAny (model prog w) A (letTemporaryGo value o r >>= fun _ => pure r) Q E s₃) E s₂ := by
    rw [hs o i]
    exact wpAny_operating (wpAny_mono h₂ (fun r s₃ h₃ => wpAny_bind (wpAny_letTemporaryGo (wpAny_pure h₃))) fun _ _ x => x)
  first
    | exact wpAny_pure (wpAny_bind fin)
    | exact wpAny_bind (wpAny_pure (wpAny_bind fin))
    | exact wpAny_bind fin
theorem uL {X : Cx} {pins : List (Addr × Obj)} {σ : St} {H : Hp} {s : Shared} {a : Addr} {y : V} {o : Option V} (I : Inv X pins σ H s) (g : pT H a y o) : s.TypeIs (.ref a) "dict" := by
  rcases g with ⟨kvs, k, e, _, _⟩ | ⟨kvs, k, b, e, _, _, _⟩
  · obtain ⟨_, _, vs, _, dd⟩ := xZ I.hok e
    exact dd.typeIs
  · obtain ⟨_, _, xs, _, dd⟩ := yA I.hok e
    exact dd.typeIs
def aDT (td ty : TE) : TE := fun σ H Q => td σ H fun x H1 => ty σ H1 fun y H2 => ∃ a v, x = .ref a /\ pT H2 a y (some v) /\ Q v H2
def aB2 (ty td : TE) : TE := fun σ H Q => ty σ H fun y H1 => td σ H1 fun x H2 => ∃ a o, x = .ref a /\ pT H2 a y o /\ Q (.bl (!o.isSome)) H2
def aDU (td ty tv : TE) : TS := fun D σ H => tv σ H fun v H1 => td σ H1 fun x H2 => ty σ H2 fun y H3 => ∃ a H4, x = .ref a /\ uK H3 a y v H4 /\ D.nx σ H4
section
variable {X : Cx} {o i e value : Expr} {pos pos' tpos : Pos} {td ty tv : TE}
theorem sG (hu : X.A.units + 1 < cLine) (ho : PE X o td) (hi : PE X i ty) (hs : aDS i) : PE X (.Subscript o i pos) (aDT td ty) := by
  intro pins s σ H Q I h
  refine aB1 PySem.F.slot_dict_getitem.lookup hs (thn (ho pins s σ H _ I h) fun u s1 ⟨x, H1, I1, rx, q1⟩ => thn (hi pins s1 σ H1 _ I1 q1) fun iv s2 hx9 => ?_)
  obtain ⟨y, H2, I2, ry, a, v, ex, g, q2⟩ := hx9
  subst ex
  obtain rfl : u = Value.ref a := rx
  exact ⟨uL I2 g, zR hu I2 g ry fun w' s3 I3 rw' => ⟨v, H2, I3, rw', q2⟩⟩
theorem zT (hu : X.A.units + 1 < cLine) (hi : PE X i ty) (ho : PE X o td) : PC X .NotIn i o (aB2 ty td) := by
  intro pins s σ H Q I h
  refine thn (hi pins s σ H _ I h) fun iv s1 ⟨y, H1, I1, ry, q1⟩ => thn (ho pins s1 σ H1 _ I1 q1) fun u s2 hx9 => ?_
  obtain ⟨x, H2, I2, rx, a, ov, ex, g, q2⟩ := hx9
  subst ex
  obtain rfl : u = Value.ref a := rx
  exact aB0 hu I2 g ry fun s3 I3 => ⟨.bl (!ov.isSome), H2, I3, rfl, q2⟩
theorem yB (hu : X.A.units + 1 < cLine) (ho : PE X o td) (hi : PE X i ty) (hv : PE X value tv) (hs : swapsWith value (some (.Subscript o i pos')) pos.line X.env = pure false) :
    PS X (.Assign [.Subscript o i pos'] value pos) (aDU td ty tv) := by
  intro pins s σ H D I h
  refine wpAny_Assign_Subscript (thn (hv pins s σ H _ I h) fun r s1 ⟨v, H1, I1, rv, q1⟩ => thn (ho pins s1 σ H1 _ I1 q1) fun u s2 ⟨x, H2, I2, rx, q2⟩ => thn (hi pins s2 σ H2 _ I2 q2) fun iv s3 hx9 => ?_) hs
  obtain ⟨y, H3, I3, ry, a, H4, ex, g, q3⟩ := hx9
  subst ex
  obtain rfl : u = Value.ref a := rx
  exact zS hu I3 g ry rv fun s4 I4 => ⟨σ, H4, I4, q3⟩
end
theorem uM {P : Program} {w : World} {H : Hp} (h : Heap) (hb : sysModules < h.objs.size) : bO P w H (h.push { cls := .type "dict", data := .dict #[] }) h.objs.size (.dK []) :=
  ⟨Nat.zero_le _, beq_eq_false_iff_ne.mpr (Ne.symm (Nat.ne_of_lt hb)), [], .nil, Heap.DictOf.new h⟩
def aC8 : TE := fun _ H Q => ∀ p, H p = none -> Q (.ref p) (upd H p (.dK []))
section
variable {X : Cx} {pos : Pos}
theorem aAZ : PE X (.Dict [] [] pos) aC8 := fun pins s σ H Q I h =>
  wpAny_Dict_empty ⟨.ref s.heap.objs.size, _, I.laid (a := s.heap.objs.size) (o := .dK []) (t' := s.toks) (fun _ _ q => Heap.get?_push_of_some _ q) (Nat.le_refl _) (uM s.heap I.big), rfl, h _ (I.hok.fresh (Nat.le_refl _))⟩
end
end L2
set_option Elab.async false
set_option linter.all false
set_option maxRecDepth 100000
namespace L2
open PySem PySem.Spec PyProof.Rows
def NF (H0 : Hp) (a : Addr) : Prop := ∀ o u, H0 a ≠ some (.frz o u)
section
variable {X : Cx} {pins : List (Addr × Obj)} {σ : St} {H : Hp} {s : Shared} {a : Addr}
theorem Inv.freeze {kvs : List (Key × V)} {o : Obj} (I : Inv X pins σ H s) (e : H a = some (.dK kvs)) (ho : s.heap.get? a = some o) : Inv X pins σ (upd H a (.frz o (.dK kvs))) s := by
  have m : Mut (H a) := by rw [e]; trivial
  have q : bO X.prog X.w H s.heap a (.dK kvs) := I.hok a _ e
  exact I.write (x := a) (e := a) (t' := s.toks) m (.inl rfl) (fun b u _ z => z) ⟨o, ho⟩ ⟨ho, q⟩
theorem Inv.nf {kvs : List (Key × V)} (I : Inv X pins σ H s) (e : H a = some (.dK kvs)) : NF X.H₀ a := fun o u z => by
  have := I.base.frzs a o u z
  rw [e] at this; cases this
theorem Inv.thaw {kvs : List (Key × V)} {o : Obj} (I : Inv X pins σ H s) (e : H a = some (.frz o (.dK kvs))) (nf : NF X.H₀ a) : Inv X pins σ (upd H a (.dK kvs)) s := by
  have ne : ∀ b, H b = none -> b ≠ a := fun b n z => by rw [z, e] at n; cases n
  have nt : ∀ b xs, H b = some (.tup xs) -> b ≠ a := fun b xs n z => by rw [z, e] at n; cases n
  have no : ∀ b x, H b = some (.own x) -> b ≠ a := fun b xs n z => by rw [z, e] at n; cases n
  obtain ⟨ho, q⟩ : s.heap.get? a = some o /\ bO X.prog X.w H s.heap a (.dK kvs) := I.hok a _ e
  have un : Un X.fs X.ex X.H₀ (upd H a (.dK kvs)) X.s₀.heap s.heap := by
    refine ⟨I.base.keep, I.base.slot, fun b ob q n hx => ?_, I.base.there, fun b xs q => ?_, fun b ob u q => ?_, fun b ps q => ?_⟩
    · have z := I.base.free b ob q n hx
      rw [aI (ne b z)]; exact z
    · have z := I.base.tups b xs q
      rw [aI (nt b xs z)]; exact z
    · have z := I.base.frzs b ob u q
      have n : b ≠ a := fun y => nf ob u (y ▸ q)
      rw [aI n]; exact z
    · obtain ⟨m, z⟩ := I.base.tbls b ps q
      have n : b ≠ a := fun y => by rw [y, e] at z; cases z
      exact ⟨m, by rw [aI n]; exact z⟩
  refine ⟨I.ok, I.os, I.bare, un, I.loc, I.cell, ?_, fun x c h => ?_, fun p hp => ?_, fun b u h => ?_, I.len⟩
  · rw [aI (ne _ I.free)]; exact I.free
  · have z := I.freeC x c h
    rw [aI (ne _ z)]; exact z
  · obtain ⟨p1, p2, p3⟩ := I.pin p hp
    exact ⟨p1, by rw [aI (ne _ p2)]; exact p2, p3⟩
  · by_cases hb : b = a
    · subst hb
      rw [aB] at h
      cases h
      exact bO.stay q (fun _ _ _ z => z) (fun c z => by rw [aI (no c _ z)]; exact z) (fun c xs z => by rw [aI (nt c xs z)]; exact z)
    · rw [aI hb] at h
      exact bO.stay (I.hok b u h) (fun _ _ _ z => z) (fun c z => by rw [aI (no c _ z)]; exact z) (fun c xs z => by rw [aI (nt c xs z)]; exact z)
end
def Itd (a : Addr) (o : Obj) (kvs : List (Key × V)) : It :=
  ⟨fun i H => H a = some (.frz o (.dK kvs)) /\ i < kvs.length, fun i H x H' => H' = H /\ ∃ p, kvs[i]? = some p /\ x = kV p.1, fun i H => H a = some (.frz o (.dK kvs)) /\ i = kvs.length⟩
theorem uN {P : Program} {w : World} {k : Key} {u : Value} (h : (bY P w).is k u = true) : bE (kV k) u := by
  rcases cB h with ⟨i, t, rfl, rfl⟩ | ⟨x, t, rfl, rfl⟩
  · exact ⟨t, rfl⟩
  · exact ⟨t, rfl⟩
theorem mG {P : Program} {w : World} {h : Heap} {a : Addr} {o : Obj} {es : Array DictEntry} {ep : Nat} {vs : List (Key × Value)} (ho : h.get? a = some o) (hd : o.data = .dict es ep) (d : h.DictOf (bY P w) a vs) : h.DictAt (bY P w) a vs ep := by
  obtain ⟨o', es', ep', q1, q2, q3, r⟩ := d
  rw [ho] at q1; cases q1
  rw [hd] at q3; cases q3
  exact ⟨o, es, ho, q2, hd, r⟩
theorem zU {P : Program} {w : World} {K : PySem.W.Frag} {tg : Expr} (a it : Addr) (o : Obj) (es : Array DictEntry) (ep : Nat) (hd : o.data = .dict es ep) (kvs : List (Key × V)) :
    Turn P w K tg (Itd a o kvs) [it] it (fun i h => h.IsKeyIter it a i kvs.length ep) where
  mem := by simp
  obj := fun i h st b hb => by
    have e : b = it := by simpa using hb
    subst e
    obtain ⟨o, e, c, d⟩ := st
    exact ⟨o, e, fun v z => by rw [d] at z; cases z⟩
  keep := fun i h h' st k => st.at fun o e => k it (by simp) o e
  item := by
    intro X hP hw hK hc i pins s σ H E I hf st hg
    subst hP hw hK
    obtain ⟨hA, hi⟩ := hg
    obtain ⟨ho, hz, hs, vs, kv, dd⟩ : s.heap.get? a = some o /\ bO X.prog X.w H s.heap a (.dK kvs) := I.hok a _ hA
    have da := mG ho hd dd
    have hl : kvs.length = vs.length := kv.length
    obtain ⟨f0, f1, f2, f3, f4, f5⟩ := hf it (by simp)
    obtain ⟨⟨k, x⟩, hx⟩ : ∃ p, vs[i]? = some p := ⟨vs[i]'(by omega), by simp⟩
    rw [hl] at st
    refine wpAny_pyNext_dict_item st da hx fun key h' hkey st' sb => ?_
    have I1 : Inv X pins σ H { s with heap := h' } := I.turned (t' := s.toks) (fun b o hb e => (sb.2 b hb).trans e) f0 f1 f3 f4 f5
    obtain ⟨o', e', c', d'⟩ := id st'
    have hk : kvs[i]? = some (kvs[i]) := List.getElem?_eq_getElem hi
    have hkk : (kvs[i]).1 = k := by
      have e := kv.keys
      have e1 : (kvs.map (·.1))[i]? = some (kvs[i]).1 := by rw [List.getElem?_map, hk]; rfl
      have e2 : (vs.map (·.1))[i]? = some k := by rw [List.getElem?_map, hx]; rfl
      rw [e, e2] at e1
      exact (Option.some.inj e1).symm
    rw [<- hl] at st'
    exact ⟨key, rfl, xQ (s := { s with heap := h' }) e' c' d' (by decide) ⟨kV k, H, I1, uN hkey, ⟨rfl, _, hk, by rw [hkk]⟩, st', fun b hb => (hf b hb).1⟩⟩
  done := by
    intro X hP hw hK hc i pins s σ H E I hf st hg
    subst hP hw hK
    obtain ⟨hA, hi⟩ := hg
    obtain ⟨ho, hz, hs, vs, kv, dd⟩ : s.heap.get? a = some o /\ bO X.prog X.w H s.heap a (.dK kvs) := I.hok a _ hA
    have da := mG ho hd dd
    have hl : kvs.length = vs.length := kv.length
    obtain ⟨f0, f1, f2, f3, f4, f5⟩ := hf it (by simp)
    rw [hl] at st
    exact wpAny_pyNext_dict_end (I.ok.hd hc) st da (by simp; omega) fun h' eb => ⟨rfl, I.turned (t' := s.toks) (fun b o hb e => eb b o hb e) f0 f1 f3 f4 f5⟩
  self := fun _ _ _ _ _ st h => wpAny_pyIter_keyiter st h
section
variable {X : Cx} {tg : Expr}
def aDV (H0 : Hp) (td : TE) : TI := fun σ H R => td σ H fun x H1 => ∃ a kvs, x = .ref a /\ H1 a = some (.dK kvs) /\ ∀ o, NF H0 a -> R (Itd a o kvs) (upd H1 a (.frz o (.dK kvs)))
theorem aB3 {d : Expr} {td : TE} (hl : PE X d td) : PI X tg d (aDV X.H₀ td) := by
  intro pins s σ H R I h
  refine thn (hl pins s σ H _ I h) fun v s1 hx9 => ?_
  obtain ⟨x, H1, I1, r1, q1⟩ := hx9
  obtain ⟨a, kvs, e, hq, q⟩ := q1
  subst e
  cases r1
  obtain ⟨hz, hs, vs, kv, dd⟩ : bO X.prog X.w H1 s1.heap a (.dK kvs) := I1.hok a _ hq
  obtain ⟨o, es, ep, ho, oe, hd, r⟩ := id dd
  have da := mG ho hd dd
  refine wpAny_pyIter_dict hs da ?_
  have I2 := (I1.freeze hq ho).kept (h' := s1.heap.push { cls := .type "dict_keyiterator", data := .fields #[.ref a, .int 0 0, .int vs.length 0, .int ep 0] }) (t' := s1.toks) fun b o e => Heap.get?_push_of_some _ e
  have nA : a ≠ s1.heap.objs.size := Nat.ne_of_lt (Heap.lt_size ho)
  refine ⟨s1.heap.objs.size, [s1.heap.objs.size], _, _, _, rfl, I2, zU a _ o es ep hd kvs, ?_, fun b hb => ?_, q o (I1.nf hq)⟩
  · refine ⟨_, Heap.get?_push_size _ rfl, rfl, ?_⟩
    rw [kv.length]; rfl
  · have e : b = s1.heap.objs.size := by simpa using hb
    subst e
    exact I1.fpOk (Nat.le_refl _) (by rw [aI (Ne.symm nA)]; exact I1.hok.fresh (Nat.le_refl _))
def aDW (H0 : Hp) (t : TS) : TS := fun D σ H => t { D with nx := fun σ' H' => ∃ a o kvs, H' a = some (.frz o (.dK kvs)) /\ NF H0 a /\ D.nx σ' (upd H' a (.dK kvs)) } σ H
theorem aB4 {st : Stmt} {t : TS} (h : PS X st t) : PS X st (aDW X.H₀ t) := by
  intro pins s σ H D I q
  refine thn (h pins s σ H _ I q) fun f s1 z => ?_
  cases f with
  | next =>
    obtain ⟨σ', H', I', a, o, kvs, e, nf, k⟩ := z
    exact ⟨σ', _, I'.thaw e nf, k⟩
  | brk => exact z
  | cont => exact z
  | ret u => exact z
end
theorem aA0 {a : Addr} {o : Obj} {kvs : List (Key × V)} {g : TG} {tb : TS} {D : Ends} {σ : St} {H : Hp} (Pv : Nat -> St -> Hp -> Prop) (h0 : Pv 0 σ H) (hl : ∀ i σ H, i <= kvs.length -> Pv i σ H -> H a = some (.frz o (.dK kvs)))
    (hs : ∀ i p σ H, kvs[i]? = some p -> Pv i σ H -> g (kV p.1) σ H fun σ2 H2 => tb { D with nx := Pv (i + 1), ct := Pv (i + 1), bk := D.nx } σ2 H2) (hd : ∀ σ H, Pv kvs.length σ H -> D.nx σ H) :
    ∃ W : Nat -> Nat -> St -> Hp -> Prop, (∃ m, W 0 m σ H) /\ ∀ i m σ H, W i m σ H ->
      ((Itd a o kvs).stop i H /\ D.nx σ H) ∨ ((Itd a o kvs).go i H /\ ∃ N : St -> Hp -> Prop, (∀ σ' H', N σ' H' -> ∃ m', m' < m /\ W (i + 1) m' σ' H') /\ ∀ x H', (Itd a o kvs).yld i H x H' -> g x σ H' fun σ2 H2 => tb { D with nx := N, ct := N, bk := D.nx } σ2 H2) := by
  refine ⟨fun i m σ H => m = kvs.length - i /\ i <= kvs.length /\ Pv i σ H, ⟨kvs.length, by simp, Nat.zero_le _, h0⟩, ?_⟩
  rintro i m σ H ⟨rfl, hi, p⟩
  have q := hl i σ H hi p
  by_cases hlt : i < kvs.length
  · refine .inr ⟨⟨q, hlt⟩, Pv (i + 1), fun σ' H' p' => ⟨kvs.length - (i + 1), by omega, rfl, hlt, p'⟩, fun x H' y => ?_⟩
    obtain ⟨rfl, v, hv, rfl⟩ := y
    exact hs i v σ H' hv p
  · have e : i = kvs.length := by omega
    subst e
    exact .inl ⟨⟨q, rfl⟩, hd σ H p⟩
end L2
set_option Elab.async false
set_option linter.all false
set_option maxRecDepth 100000
namespace L2
open PySem PySem.Spec PyProof.Rows
def aC9 (tk tv : TE) : TE := fun σ H Q => ∀ p, H p = none -> tk σ (upd H p (.dK [])) fun x H1 => tv σ H1 fun y H2 => ∃ k, x = kV k /\ H2 p = some (.dK []) /\ Q (.ref p) (upd H2 p (.dK [(k, y)]))
section
variable {X : Cx} {pos : Pos} {ek ev : Expr} {tk tv : TE}
theorem aA1 (hk : PE X ek tk) (hv : PE X ev tv) (he : evalEachOpt [some ek] X.env = [some (eval ek X.env)] := by rfl) (he2 : evalEach [ev] X.env = [eval ev X.env] := by rfl) : PE X (.Dict [some ek] [ev] pos) (aC9 tk tv) := by
  intro pins s σ H Q I h
  have I0 : Inv X pins σ (upd H s.heap.objs.size (.dK [])) { s with heap := s.heap.push { cls := .type "dict", data := .dict #[] } } := I.laid (a := s.heap.objs.size) (o := .dK []) (t' := s.toks) (fun _ _ q => Heap.get?_push_of_some _ q) (Nat.le_refl _) (uM s.heap I.big)
  have h0 := h s.heap.objs.size (I.hok.fresh (Nat.le_refl _))
  refine wpAny_Dict_pairs (knd := bY X.prog X.w) (pairs := [(eval ek X.env, do let x <- eval ev X.env; standAt pos; pure x)]) (by rw [he, he2]; rfl) (by simp) (by simp) ?_
  refine evalPairs_cons (thn (hk pins _ σ _ _ I0 h0) fun kv s1 hx9 => ?_)
  obtain ⟨x, H1, I1, r1, q1⟩ := hx9
  refine wpAny_bind (thn (hv pins _ σ _ _ I1 q1) fun vv s2 hx9 => ?_)
  obtain ⟨y, H2, I2, r2, q2⟩ := hx9
  refine wpAny_bind (wpAny_standAt (wpAny_pure (evalPairs_nil ?_)))
  obtain ⟨k, rfl, hp, q⟩ := q2
  obtain ⟨hz, hs, vs, kv', dd⟩ : bO X.prog X.w H2 s2.heap s.heap.objs.size (.dK []) := I2.hok _ _ hp
  have ev0 : vs = [] := by
    have := kv'.length
    exact List.length_eq_zero_iff.mp this.symm
  subst ev0
  refine ⟨[(k, vv)], ⟨uJ r1, rfl, trivial⟩, dd, fun h' dd' sb => ?_⟩
  have em : merged ([] : List (Key × Value)) [(k, vv)] = [(k, vv)] := by simp [merged, stored]
  rw [em] at dd'
  obtain ⟨o', es', ep', ho', _⟩ := id dd'
  have mu : Mut (H2 s.heap.objs.size) := by rw [hp]; trivial
  refine ⟨.ref s.heap.objs.size, _, sF (t' := s2.toks + 1) I2 mu sb ⟨_, ho'⟩ (aAY (kvs := [(k, y)]) (by simp [sizeLine_eq]) hs (.cons ⟨rfl, r2⟩ .nil) dd'), rfl, q⟩
end
end L2
set_option Elab.async false
set_option linter.all false
set_option maxRecDepth 100000
namespace L2
open PySem PySem.Spec PyProof.Rows
section
variable {prog : Program} {w : World} {A : Around} {E : Value -> Shared -> Prop} {s : Shared}
def iC (h : Heap) (u : Value) (i : Int) (v : Value) : Prop := ∃ p, u = .ref p /\ ((∃ its : Array Value, h.IsTuple p its /\ 0 <= i /\ i < 1000 /\ its[i.toNat]? = some v) ∨ ∃ its : Array Value, h.IsList p its /\ 0 <= i /\ i < 1000 /\ its[i.toNat]? = some v)
theorem iC.keeps {h h' : Heap} {u : Value} {i : Int} {v : Value} (x : iC h u i v) (k : ∀ b o, h.get? b = some o -> h'.get? b = some o) : iC h' u i v := by
  obtain ⟨p, rfl, ⟨its, ⟨o, ho, r⟩, q⟩ | ⟨its, ⟨o, ho, r⟩, q⟩⟩ := x
  · exact ⟨p, rfl, .inl ⟨its, ⟨o, k _ _ ho, r⟩, q⟩⟩
  · exact ⟨p, rfl, .inr ⟨its, ⟨o, k _ _ ho, r⟩, q⟩⟩
theorem lJ {i : Int} {n : Nat} (h0 : 0 <= i) (h1 : i.toNat < n) : seqIndex? i n = some i.toNat := by
  unfold seqIndex?
  have e : ¬ (i < 0) := by omega
  simp only [e, if_false]
  have e2 : (decide (0 <= i) && decide (i < (n : Int))) = true := by simp; omega
  rw [if_pos e2]
theorem aB5 {env : Env} {vn xn : Str} {p1 p2 p3 : Pos} {m : Str -> Option Value} {c : Addr} {u v : Value} {i : Int} {t : Tok} {Q : Value -> Shared -> Prop} (hk : env.scope.kind = .function) (hv : env.kindOf vn = some .free) (hx : env.kindOf xn = some .local)
    (hc : env.cells.lookup vn = some c) (hC : s.heap.IsCell c (some u)) (hn : s.heap.Ns env.locals m) (hm : m xn = some (.int i t)) (hI : iC s.heap u i v) (h : Q v s)
    (d1 : (vn == ("__debug__" : Str)) = false) (d2 : (vn == ("__classdict__" : Str)) = false) (d3 : (xn == ("__debug__" : Str)) = false) :
    wpAny (model prog w) A (eval (.Subscript (.Name vn p1) (.Name xn p2) p3) env) Q E s := by
  refine Subscript_ (wpAny_Name (wpAny_loadName_free hk hv hc hC ?_ d2) d1)
  refine wpAny_Name (wpAny_loadName_local hk hx hn hm ?_) d3
  obtain ⟨p, rfl, ⟨its, hp, i0, i1, e⟩ | ⟨its, hp, i0, i1, e⟩⟩ := hI
  · have hlt : i.toNat < its.size := (Array.getElem?_eq_some_iff.mp e).1
    exact subscriptTail_builtinR (x := v) hp.typeIs slot_tuple_getitem.lookup
      (getItem_tuple (j := i.toNat) (Q := fun r s' => r = v /\ Q r s') hp (by omega) (by omega) (lJ i0 hlt) e ⟨rfl, h⟩)
  · have hlt : i.toNat < its.size := (Array.getElem?_eq_some_iff.mp e).1
    exact subscriptTail_builtinR (x := v) hp.typeIs slot_list_getitem.lookup
      (wpAny_getItem_list (Q := fun r s' => r = v /\ Q r s') hp (by omega) (by omega) e ⟨rfl, h⟩)
theorem aA2 {f c c' : Addr} {q nm vn xn : Str} {params : Arguments} {scope : Scope} {cl : List (Str × Addr)} {pm ctv u v : Value} {p1 p2 p3 : Pos} {i : Int} {t : Tok} {Q : Value -> Shared -> Prop} (hroom : A.depth < recursionLimit) (hlim : s.heap.NoLimit)
    (hf : s.heap.get? f = some { cls := .type "function", data := .func (PySem.W.kla_fn nm q params (.Subscript (.Name vn p1) (.Name xn p2) p3) scope cl pm (.ref c') ctv) }) (hcd : s.heap.CodeRec (.ref c') q)
    (hbind : bindArgs (PySem.W.kla_fn nm q params (.Subscript (.Name vn p1) (.Name xn p2) p3) scope cl pm (.ref c') ctv) ⟨[.int i t], []⟩ = pure [(xn, .int i t)])
    (hx : scope.names.lookup xn = some .local) (hv : scope.names.lookup vn = some .free) (hco : scope.isCoroutine = false) (hgen : scope.isGenerator = false) (hk : scope.kind = .function) (hcell : ∀ x ∈ scope.names, x.2 ≠ .cell)
    (hc : cl.lookup vn = some c) (hC : s.heap.IsCell c (some u)) (hI : iC s.heap u i v) (h : ∀ h' tk, (∀ b o, s.heap.get? b = some o -> h'.get? b = some o) -> Q v { s with heap := h', toks := tk })
    (d1 : (vn == ("__debug__" : Str)) = false) (d2 : (vn == ("__classdict__" : Str)) = false) (d3 : (xn == ("__debug__" : Str)) = false) :
    wpAny (model prog w) A (call (.ref f) [.int i t]) Q E s := by
  refine wpAny_call (PySem.W.kla_callFunE hroom hf rfl hco hgen rfl hcd ?_)
  rw [hbind]
  refine wpAny_pure (wpAny_newFunctionEnv hcell (fun y hy => by rw [List.mem_singleton.mp hy]; exact hx) (fun h₁ hns hsb => ⟨hlim.fresh _ hsb, ?_⟩) hk)
  have hk₁ : ∀ b o, s.heap.get? b = some o -> h₁.get? b = some o := fun b o e => hsb.extBut b o (Nat.ne_of_lt (Heap.lt_size e)) (Heap.get?_push_of_some _ e)
  obtain ⟨oc, hoc, hdc⟩ := hC
  refine PySem.W.kla_codeExpr (aB5 (env := newEnv scope s.heap.objs.size mainGlobals cl (q ++ ".<locals>.") (some f) (.ref c') none builtinsNs) (m := fun x => [(xn, Value.int i t)].reverse.lookup x) (t := t) hk hv hx hc ⟨oc, hk₁ _ _ hoc, hdc⟩ hns ?_ (hI.keeps hk₁) (h h₁ _ hk₁) d1 d2 d3)
  simp [List.lookup]
section
variable {R : Result -> Shared -> Prop} {I : Addr} {fp wr : List Addr} {n : Nat} {Pv : Nat -> Value -> Prop} {St : Nat -> Heap -> Prop} {f : Addr} {kf : Nat -> Int} {L : List (Addr × Obj)}
def aA3 (prog : Program) (w : World) (A : Around) (f : Addr) (L : List (Addr × Obj)) (n : Nat) (Pv : Nat -> Value -> Prop) (kf : Nat -> Int) : Prop :=
  ∀ i v (s : Shared) (Q : Value -> Shared -> Prop) (E : Value -> Shared -> Prop), i < n -> Pv i v -> (∀ p ∈ L, s.heap.get? p.1 = some p.2) ->
    (∀ h' tk t, (∀ b o, s.heap.get? b = some o -> h'.get? b = some o) -> Q (.int (kf i) t) { s with heap := h', toks := tk }) -> wpAny (model prog w) A (call (.ref f) [v]) Q E s
abbrev btK (kf : Nat -> Int) : Nat -> Nat -> Bool := fun i j => decide (kf i < kf j)
theorem sH (W : Walks prog w A.in1 I fp wr n Pv St) (hkey : aA3 prog w A.in1 f L n Pv kf) (S : Addr) (hSf : S ∉ fp) (hL : ∀ p ∈ L, p.1 ∉ wr /\ p.1 ≠ S) :
    ∀ (k j : Nat) (s : Shared) (vb : Value) (t : Tok) (c : Nat), n - (j + 1) = k -> j + 1 <= n -> St (j + 1) s.heap -> Pv (argBest (btK kf) j) vb ->
    s.heap.get? S = some { cls := .type "list", dict := none, data := .seq #[vb, .int (kf (argBest (btK kf) j)) t] c, slots := #[] } -> (∀ p ∈ L, s.heap.get? p.1 = some p.2) ->
    (∀ v h' tk, Pv (argBest (btK kf) (n - 1)) v -> (∀ b o, b ∉ wr -> b ≠ S -> s.heap.get? b = some o -> h'.get? b = some o) -> R (.ok (.ret v)) { s with heap := h', toks := tk }) ->
    codeAny (model prog w) A (.builtin "min.loop" ⟨[.ref I, .ref f, .ref S], []⟩) R s := by
  have hSw : S ∉ wr := fun h => hSf (W.sub _ h)
  have hname : (toString "min" ++ toString ".loop" : String) = "min.loop" := by decide
  intro k
  induction k with
  | zero =>
    intro j s vb t c hk hj hst hPb hS hLs hR
    have hin : j + 1 = n := by omega
    refine codeAny_builtin F.entry_min_loop ?_
    rw [Around.under_plainId F.plain_min_loop _]
    show wpAny _ A.in1 (seqItems? (.ref S) >>= _) _ _ s
    refine wpAny_bind (wpAny_seqItems hS rfl ?_)
    show wpAny _ A.in1 (tryCatch (pyNext (.ref I)) _ >>= _) _ _ s
    refine wpAny_bind (wpAny_tryCatch (W.done s _ _ (hin ▸ hst) fun h' tk kk => ?_))
    have hS' := kk S _ hSw hS
    show wpAny _ A.in1 (updateSeq S (fun _ => #[]) >>= _) _ _ _
    refine wpAny_bind ?_
    refine wpAny_updateSeq hS' rfl (wpAny_bind (wpAny_letGo (wpAny_pure ?_)))
    exact hR vb _ _ (by rw [<- hin]; exact hPb) fun b o hb hbS e => (Heap.get?_update_other _ _ (Ne.symm hbS)).trans (kk b o hb e)
  | succ k ih =>
    intro j s vb t c hk hj hst hPb hS hLs hR
    have hlt : j + 1 < n := by omega
    refine codeAny_builtin F.entry_min_loop ?_
    rw [Around.under_plainId F.plain_min_loop _]
    show wpAny _ A.in1 (seqItems? (.ref S) >>= _) _ _ s
    refine wpAny_bind (wpAny_seqItems hS rfl ?_)
    show wpAny _ A.in1 (tryCatch (pyNext (.ref I)) _ >>= _) _ _ s
    refine wpAny_bind (wpAny_tryCatch (W.item (j + 1) s _ _ hlt hst fun v h1 tk1 hP hst1 kk1 => ?_))
    have hS1 := kk1 S _ hSw hS
    show wpAny _ A.in1 (tryCatch (holding [v] (call (.ref f) [v])) _ >>= _) _ _ _
    refine wpAny_bind (wpAny_tryCatch (wpAny_holding (hkey (j + 1) v _ _ _ hlt hP (fun p hp => kk1 _ _ (hL p hp).1 (hLs p hp)) fun h2 tk2 t2 kk2 => ?_)))
    have hS2 := kk2 S _ hS1
    have hst2 : St (j + 1 + 1) h2 := W.frame _ _ _ hst1 fun b _ o e => kk2 b o e
    show wpAny _ A.in1 (tryCatch (holding [v, .int (kf (j + 1)) t2] (richCompare .Lt (.int (kf (j + 1)) t2) (.int (kf (argBest (btK kf) j)) t) >>= _)) _ >>= _) _ _ _
    have hcmp : CmpOf prog w A.in1 .Lt (fun i u => ∃ t, u = .int (kf i) t) (btK kf) := CmpOf.ints_lt kf fun i v h => h
    refine wpAny_bind (wpAny_tryCatch (wpAny_holding (wpAny_bind (hcmp (j + 1) (argBest (btK kf) j) _ _ _ _ _ ⟨_, rfl⟩ ⟨_, rfl⟩ ?_))))
    refine wpAny_bind (wpAny_holding (wpAny_truthy_bool ?_))
    refine wpAny_bind (wpAny_letGo (wpAny_pure ?_))
    have kk : ∀ b o, b ∉ wr -> s.heap.get? b = some o -> h2.get? b = some o := fun b o hb e => kk2 b o (kk1 b o hb e)
    cases hb : btK kf (j + 1) (argBest (btK kf) j) with
    | true =>
      simp only [if_true]
      refine wpAny_bind ?_
      refine wpAny_updateSeq hS2 rfl (wpAny_bind (wpAny_letGo ?_))
      rw [hname]
      have eb : argBest (btK kf) (j + 1) = j + 1 := by simp only [argBest, hb, if_true]
      refine wpAny_pure ⟨plainId_quiet F.plain_min_loop _, ih (j + 1) _ v t2 _ (by omega) hlt (W.frame _ _ _ hst2 fun b hbf o e => ?_) (by rw [eb]; exact hP) (by rw [eb]; exact Heap.get?_update_self _ hS2 rfl) (fun p hp => ?_) fun v' h' tk hP' kk' => ?_⟩
      · exact (Heap.get?_update_other _ _ (fun h : S = b => hSf (by rw [h]; exact hbf))).trans e
      · exact (Heap.get?_update_other _ _ (Ne.symm (hL p hp).2)).trans (kk _ _ (hL p hp).1 (hLs p hp))
      · exact hR v' h' tk hP' fun b o hb hbS e => kk' b o hb hbS ((Heap.get?_update_other _ _ (Ne.symm hbS)).trans (kk b o hb e))
    | false =>
      simp only [Bool.false_eq_true, if_false]
      refine wpAny_bind (wpAny_letGo ?_)
      rw [hname]
      have eb : argBest (btK kf) (j + 1) = argBest (btK kf) j := by simp only [argBest, hb, Bool.false_eq_true, if_false]
      refine wpAny_pure ⟨plainId_quiet F.plain_min_loop _, ih (j + 1) _ vb t c (by omega) hlt hst2 (by rw [eb]; exact hPb) (by rw [eb]; exact hS2) (fun p hp => kk _ _ (hL p hp).1 (hLs p hp)) fun v' h' tk hP' kk' => ?_⟩
      exact hR v' h' tk hP' fun b o hb hbS e => kk' b o hb hbS (kk b o hb e)
theorem pU (W : Walks prog w A.in1 I fp wr n Pv St) (hkey : aA3 prog w A.in1 f L n Pv kf) (S : Addr) (hSf : S ∉ fp) (hL : ∀ p ∈ L, p.1 ∉ wr /\ p.1 ≠ S) (hn : 0 < n) {s : Shared} {c : Nat} (hst : St 0 s.heap)
    (hS : s.heap.get? S = some { cls := .type "list", dict := none, data := .seq #[] c, slots := #[] }) (hLs : ∀ p ∈ L, s.heap.get? p.1 = some p.2)
    (hR : ∀ v h' tk, Pv (argBest (btK kf) (n - 1)) v -> (∀ b o, b ∉ wr -> b ≠ S -> s.heap.get? b = some o -> h'.get? b = some o) -> R (.ok (.ret v)) { s with heap := h', toks := tk }) :
    codeAny (model prog w) A (.builtin "min.loop" ⟨[.ref I, .ref f, .ref S], []⟩) R s := by
  have hSw : S ∉ wr := fun h => hSf (W.sub _ h)
  have hname : (toString "min" ++ toString ".loop" : String) = "min.loop" := by decide
  refine codeAny_builtin F.entry_min_loop ?_
  rw [Around.under_plainId F.plain_min_loop _]
  show wpAny _ A.in1 (seqItems? (.ref S) >>= _) _ _ s
  refine wpAny_bind (wpAny_seqItems hS rfl ?_)
  show wpAny _ A.in1 (tryCatch (pyNext (.ref I)) _ >>= _) _ _ s
  refine wpAny_bind (wpAny_tryCatch (W.item 0 s _ _ hn hst fun v h1 tk1 hP hst1 kk1 => ?_))
  have hS1 := kk1 S _ hSw hS
  show wpAny _ A.in1 (tryCatch (holding [v] (call (.ref f) [v])) _ >>= _) _ _ _
  refine wpAny_bind (wpAny_tryCatch (wpAny_holding (hkey 0 v _ _ _ hn hP (fun p hp => kk1 _ _ (hL p hp).1 (hLs p hp)) fun h2 tk2 t2 kk2 => ?_)))
  have hS2 := kk2 S _ hS1
  have hst2 : St (0 + 1) h2 := W.frame _ _ _ hst1 fun b _ o e => kk2 b o e
  show wpAny _ A.in1 (updateSeq S (fun _ => #[v, .int (kf 0) t2]) >>= _) _ _ _
  refine wpAny_bind ?_
  refine wpAny_updateSeq hS2 rfl ?_
  rw [hname]
  have kk : ∀ b o, b ∉ wr -> s.heap.get? b = some o -> h2.get? b = some o := fun b o hb e => kk2 b o (kk1 b o hb e)
  refine wpAny_pure ⟨plainId_quiet F.plain_min_loop _, sH W hkey S hSf hL _ 0 _ v t2 _ rfl hn (W.frame _ _ _ hst2 fun b hbf o e => ?_) hP (Heap.get?_update_self _ hS2 rfl) (fun p hp => ?_) fun v' h' tk hP' kk' => ?_⟩
  · exact (Heap.get?_update_other _ _ (fun h : S = b => hSf (by rw [h]; exact hbf))).trans e
  · exact (Heap.get?_update_other _ _ (Ne.symm (hL p hp).2)).trans (kk _ _ (hL p hp).1 (hLs p hp))
  · exact hR v' h' tk hP' fun b o hb hbS e => kk' b o hb hbS ((Heap.get?_update_other _ _ (Ne.symm hbS)).trans (kk b o hb e))
theorem sI (a k : Value) : argsOk "min" ⟨[a], [(Str.ofString "key", k)]⟩ := by unfold argsOk; kernel_rfl
theorem sJ {id : String} {b : Builtin} {args : List Value} {kw : List (Str × Value)} {Q : Value -> Shared -> Prop} (hk : builtinKind id = none) (hp : plainId id = true)
    (hb : entryFor table id = some b) (ha : argsOk id ⟨args, kw⟩)
    (hc : wpAny (model prog w) A.in1 (b ⟨args, kw⟩) (fun fin s' => match fin with
      | .done f => (match (Except.ok f : Result) with | .ok (.ret v) => Q v s' | .ok _ => False | .error e => E e s')
      | .again c' => c'.quiet = true /\ codeAny (model prog w) A c' (fun r s' => match r with | .ok (.ret v) => Q v s' | .ok _ => False | .error e => E e s') s') E s) :
    wpAny (model prog w) A (call (.builtin id) args kw) Q E s := by
  refine wpAny_call (codeAny_call_builtin hp hb ?_)
  simp only [checkBuiltinCall, hk]
  cases hsig : Manifest.signature? id with
  | none => exact wpAny_pure hc
  | some sig =>
    simp only [argsOk, hsig] at ha
    have h2 : Bind.checkArgs id sig ⟨args, kw⟩ = pure () := ha
    show wpAny _ A.in1 (Bind.checkArgs id sig ⟨args, kw⟩) _ _ s
    rw [h2]; exact wpAny_pure hc
theorem sK {x : Value} {Q : Value -> Shared -> Prop}
    (h : wpAny (model prog w) A.in1 (pyIter x) (fun it s₂ => ∃ I fp wr n Pv St kf L, it = .ref I /\ Walks prog w A.in1 I fp wr n Pv St /\ St 0 s₂.heap /\ (∀ b ∈ fp, b < s₂.heap.objs.size) /\ 0 < n /\ aA3 prog w A.in1 f L n Pv kf /\
      (∀ p ∈ L, p.1 ∉ wr) /\ (∀ p ∈ L, s₂.heap.get? p.1 = some p.2) /\
      ∀ v h' tk, Pv (argBest (btK kf) (n - 1)) v -> (∀ b o, b ∉ wr -> s₂.heap.get? b = some o -> h'.get? b = some o) -> Q v { s₂ with heap := h', toks := tk }) E s) :
    wpAny (model prog w) A (call (.builtin "min") [x] [(Str.ofString "key", .ref f)]) Q E s := by
  have hname : (toString "min" ++ toString ".loop" : String) = "min.loop" := by decide
  refine sJ F.kind_min F.plain_min F.entry_min (sI _ _) ?_
  show wpAny _ A.in1 (Builtin.Builtins.bindParams "min" ["key", "default"] 0 ⟨[], [(Str.ofString "key", .ref f)]⟩ >>= _) _ _ s
  refine wpAny_bind (wpAny_of_eq (show Builtin.Builtins.bindParams "min" ["key", "default"] 0 ⟨[], [(Str.ofString "key", .ref f)]⟩ = pure [some (.ref f), none] from rfl) ?_)
  refine wpAny_bind (wpAny_pure ?_)
  refine wpAny_bind (wpAny_mono h (fun it s₂ h₂ => ?_) fun _ _ e => e)
  obtain ⟨I, fp, wr, n, Pv, St, kf, L, rfl, W, hst, hfp, hn, hkey, hLw, hLs, hQ⟩ := h₂
  refine wpAny_bind (wpAny_newObj_type ?_)
  have hSf : s₂.heap.objs.size ∉ fp := fun hm => Nat.lt_irrefl _ (hfp _ hm)
  rw [hname]
  refine wpAny_pure ⟨plainId_quiet F.plain_min_loop _, pU W hkey s₂.heap.objs.size hSf (fun p hp => ⟨hLw p hp, Nat.ne_of_lt (Heap.lt_size (hLs p hp))⟩) hn (W.frame _ _ _ hst fun b _ o e => Heap.get?_push_of_some _ e) (Heap.get?_push_size _ rfl) (fun p hp => Heap.get?_push_of_some _ (hLs p hp)) fun v h' tk hP hk => ?_⟩
  exact hQ v h' tk hP fun b o hbw e => hk b o hbw (Nat.ne_of_lt (Heap.lt_size e)) (Heap.get?_push_of_some _ e)
end
end
end L2
set_option Elab.async false
set_option linter.all false
set_option maxRecDepth 100000
namespace L2
open PySem PySem.Spec PyProof.Rows
structure Lm (K : PySem.W.Frag) (mg : Str -> Option Value) (base : Heap) (c P : Addr) : Prop where
  hd : PySem.W.codeHdIn K c P = true
  gP : mainGlobals ≠ P
  bu : base.BuiltinsAt mg P
theorem kC {pos p0 : Pos} {c cv : Value} : ∀ {l : List Value}, TriplesOk l -> codeAmong pos (l ++ [rawInt p0.line, rawInt p0.col, c]) = some cv -> codeAmong pos l = some cv ∨ cv = c
  | [], _, e => by
    simp only [List.nil_append, rawInt, codeAmong] at e
    split at e
    · exact .inr (Option.some.inj e).symm
    · cases e
  | .int a t :: .int b u :: x :: r, h, e => by
    simp only [List.cons_append, codeAmong] at e ⊢
    split
    · rename_i hc
      rw [if_pos hc] at e
      exact .inl e
    · rename_i hc
      rw [if_neg hc] at e
      exact kC (show TriplesOk r from h) e
section
variable {X : Cx} {pins : List (Addr × Obj)} {σ : St} {H : Hp} {s : Shared} {c P c' : Addr} {q : Str} {ps : Array Value} {h' : Heap} {t' : Nat}
theorem Inv.grown {p0 : Pos} (I : Inv X pins σ H s) (hT : H P = some (.tab q)) (hx : Heap.ExtBut P s.heap h') (hge : s.heap.objs.size <= c') (hcr : h'.CodeRec (.ref c') q) (hP0 : s.heap.get? P = some (PySem.W.tabObj ps)) (hPt : h'.get? P = some (PySem.W.tabObj (ps ++ #[rawInt p0.line, rawInt p0.col, .ref c']))) :
    Inv X pins σ (upd H c' (.own P)) { s with heap := h', toks := t' } := by
  have hf : H c' = none := I.hok.fresh hge
  have hn : ∀ b, H b = none -> b ≠ P := fun b n z => by rw [z, hT] at n; cases n
  have hc : ∀ b u, H b = some u -> b ≠ c' := fun b u n z => by rw [z, hf] at n; cases n
  have hlt : ∀ b o, s.heap.get? b = some o -> b ≠ c' := fun b o e => Nat.ne_of_lt (Nat.lt_of_lt_of_le (Heap.lt_size e) hge)
  obtain ⟨c2, oc, vs, tq, ec, hoc, hdc, hv⟩ := hcr
  cases ec
  refine I.un ⟨fun b o e n _ _ => hx b o (hn b n) e, fun b o e n _ _ => ⟨o.slots, hx b o (hn b n) e⟩, fun b o e n _ => by rw [aI (hlt b o e)]; exact n, fun b o e _ => ?_, fun b xs e => by rw [aI (hc b _ e)]; exact e, fun b o u e => by rw [aI (hc b _ e)]; exact e, fun b ps e => ⟨#[], by rw [aI (hc b _ e), e]; simp⟩⟩ ?_
  · by_cases hb : b = P
    · subst hb; exact ⟨_, hPt⟩
    · exact ⟨o, hx b o hb e⟩
  · intro b u e
    by_cases hb : b = c'
    · subst hb
      rw [aB] at e; cases e
      exact ⟨oc, hoc⟩
    · rw [aI hb] at e
      by_cases hbP : b = P
      · subst hbP
        rw [hT] at e; cases e
        obtain ⟨ps0, e0, tr, r⟩ : ∃ ps : Array Value, s.heap.get? b = some { cls := .none, data := .fields ps } /\ TriplesOk ps.toList /\ ∀ (pos : Pos) (cv : Value), codeAmong pos ps.toList = some cv -> ∃ (c : Addr) (o : Obj) (vs : Array Value) (t : Tok), cv = .ref c /\ H c = some (.own b) /\ s.heap.get? c = some o /\ o.data = .fields vs /\ (vs[1]? : Option Value) = some (.str q t) := I.hok b _ hT
        rw [hP0] at e0
        cases e0
        have el : (ps ++ #[rawInt p0.line, rawInt p0.col, Value.ref c']).toList = ps.toList ++ [rawInt p0.line, rawInt p0.col, .ref c'] := by simp
        refine ⟨_, hPt, by rw [el]; exact TriplesOk_snoc _ _ _ _ tr, fun pos cv z => ?_⟩
        rw [el] at z
        rcases kC tr z with z | rfl
        · obtain ⟨c3, o3, vs3, t3, r1, r2, r3, r4⟩ := r pos cv z
          have n3 : c3 ≠ b := fun y => by rw [y, hT] at r2; cases r2
          exact ⟨c3, o3, vs3, t3, r1, by rw [aI (hc _ _ r2)]; exact r2, hx _ _ n3 r3, r4⟩
        · exact ⟨c', oc, vs, tq, rfl, aB, hoc, hdc, hv⟩
      · refine (I.hok b u e).stay (fun d v hd z => hx d v ?_ z) (fun d z => by rw [aI (hc _ _ z)]; exact z) fun d xs z => by rw [aI (hc _ _ z)]; exact z
        rcases hd with rfl | hd
        · exact hbP
        · intro z
          rw [z, hT] at hd; cases hd
theorem aA4 {params : Arguments} {body : Expr} {scope : Scope} {pos : Pos} {cl : List (Str × Addr)} {Q : Value -> Shared -> Prop} {E : Value -> Shared -> Prop} (I : Inv X pins σ H s) (Z : Lm X.K X.mg X.base c P) (hcode : X.env.code = .ref c) (hT : H P = some (.tab q)) (hq : X.env.qual ++ "<lambda>" = q)
    (hdef : defaultsOf params X.env = ([], [])) (hcl : closureFor scope X.env = pure cl)
    (h : ∀ f c' ctv pm s' H', Inv X pins σ H' s' -> aE H H' -> (∀ b o, b ≠ P -> s.heap.get? b = some o -> s'.heap.get? b = some o) ->
      s'.heap.get? f = some { cls := .type "function", data := .func (PySem.W.kla_fn "<lambda>" q params body scope cl pm (.ref c') ctv) } -> s'.heap.CodeRec (.ref c') q -> Q (.ref f) s') :
    wpAny (model X.prog X.w) X.A (eval (.Lambda params body scope pos) X.env) Q E s := by
  obtain ⟨ps, hP, tr, r⟩ : ∃ ps : Array Value, s.heap.get? P = some { cls := .none, data := .fields ps } /\ TriplesOk ps.toList /\ ∀ (pos : Pos) (cv : Value), codeAmong pos ps.toList = some cv -> ∃ (c : Addr) (o : Obj) (vs : Array Value) (t : Tok), cv = .ref c /\ H c = some (.own P) /\ s.heap.get? c = some o /\ o.data = .fields vs /\ (vs[1]? : Option Value) = some (.str q t) := I.hok P _ hT
  have hg : s.heap.Ns mainGlobals X.mg := I.mod.glob.keeps I.bk
  have C : PySem.W.CodeHd s.heap c P := PySem.W.codeHd_of_K I.kIn Z.hd
  have hb : s.heap.BuiltinsAt X.mg P := by
    obtain ⟨bm, o, e1, e2, e3, e4, e5, e6⟩ := Z.bu
    exact ⟨bm, o, e1, e2, e3, e4, I.bk _ _ e5, e6⟩
  refine PySem.W.kla_eval hdef ?_
  rw [hq]
  cases hf : codeAmong pos ps.toList with
  | none =>
    refine PySem.W.kla_makeFunction hcl I.ok.glob hg hcode C hP tr hf Z.gP hb fun c' ctv h' tk hx hge hlt hcr hPt => ?_
    have I1 : Inv X pins σ (upd H c' (.own P)) { s with heap := h', toks := tk } := I.grown hT hx hge hcr hP hPt
    have I2 := I1.kept (h' := h'.push (PySem.W.kla_obj "<lambda>" q params body scope cl ((X.mg "__name__").getD .none) c' ctv)) (t' := tk) fun b o e => Heap.get?_push_of_some _ e
    refine h _ c' ctv _ _ _ I2 (aE.new (I.hok.fresh hge)) (fun b o hbP e => Heap.get?_push_of_some _ (hx b o hbP e)) (Heap.get?_push_size _ rfl) ?_
    obtain ⟨c2, oc, vs, tq, ec, hoc, r⟩ := hcr
    exact ⟨c2, oc, vs, tq, ec, Heap.get?_push_of_some _ hoc, r⟩
  | some cv =>
    obtain ⟨c', o, vs, t, rfl, r2, r3, r4, r5⟩ := r pos cv hf
    refine PySem.W.kla_makeFunctionHit hcl I.ok.glob hg hcode C hP tr hf hb fun ctv h' tk kk hsz => ?_
    have I2 := I.kept (h' := h'.push { cls := .type "function", data := .func (PySem.W.kla_fn "<lambda>" q params body scope cl ((X.mg "__name__").getD .none) (.ref c') ctv) }) (t' := tk) fun b o e => Heap.get?_push_of_some _ (kk b o e)
    exact h _ c' ctv _ _ _ I2 (aE.refl H) (fun b o _ e => Heap.get?_push_of_some _ (kk b o e)) (Heap.get?_push_size _ rfl) ⟨c', o, vs, t, rfl, Heap.get?_push_of_some _ (kk _ _ r3), r4, r5⟩
end
end L2
set_option Elab.async false
set_option linter.all false
set_option maxRecDepth 100000
namespace L2
open PySem PySem.Spec PyProof.Rows
theorem kD (num : Nat -> Int) : ∀ k, ∀ l, l < argBest (btK num) k -> num (argBest (btK num) k) < num l
  | 0 => fun l hl => by simp [argBest] at hl
  | k + 1 => fun l hl => by
    have h2 := (argBest_lt num k).2
    simp only [argBest] at hl ⊢
    by_cases hc : num (k + 1) < num (argBest (btK num) k)
    · rw [if_pos (show btK num (k + 1) (argBest (btK num) k) = true from decide_eq_true hc)] at hl ⊢
      have := h2 l (by omega)
      show num (k + 1) < num l
      have e : num (argBest (fun i j => decide (num i < num j)) k) = num (argBest (btK num) k) := rfl
      omega
    · rw [if_neg (show ¬ btK num (k + 1) (argBest (btK num) k) = true from fun z => hc (of_decide_eq_true z))] at hl ⊢
      exact kD num k l hl
def yC (K : PySem.W.Frag) (H : Hp) (x : V) (ns : List Int) : Prop := ∃ a, x = .ref a /\ (SqL K H a (ns.map V.int) ∨ SqT K H a (ns.map V.int) ∨ ∃ kvs : List (Key × V), H a = some (.dK kvs) /\ kvs.map (·.1) = ns.map Sum.inl)
def yD (K : PySem.W.Frag) (H : Hp) (u : V) (n k : Int) : Prop := 0 <= n /\ n < 1000 /\ ∃ a xs, u = .ref a /\ (SqT K H a xs ∨ SqL K H a xs) /\ xs[n.toNat]? = some (.int k)
def aB6 (K : PySem.W.Frag) (P : Addr) (q : Str) (iv : Nat) (te : TE) : TE := fun σ H Q => te σ H fun x H1 => ∃ (ns : List Int) (kf : Int -> Int) (u : V), yC K H1 x ns /\ 0 < ns.length /\ H1 P = some (.tab q) /\ σ[iv]? = some (some u) /\ (∀ n ∈ ns, yD K H1 u n (kf n)) /\
  ∀ (j : Nat) (m : Int) (H2 : Hp), aE H1 H2 -> ns[j]? = some m -> (∀ n ∈ ns, kf m <= kf n) -> (∀ (l : Nat) (n : Int), l < j -> ns[l]? = some n -> kf m < kf n) -> Q (.int m) H2
section
variable {X : Cx} {pins : List (Addr × Obj)} {σ : St} {H : Hp} {s : Shared}
theorem wK {A : Around} {x : V} {u : Value} {ns : List Int} {Q : Value -> Shared -> Prop} {E : Value -> Shared -> Prop} (hh : A.handled = none) (I : Inv X pins σ H s) (hx : yC X.K H x ns) (r : bE x u)
    (h : ∀ (It : Addr) fp (Pv : Nat -> Value -> Prop) St s2, Walks X.prog X.w A It fp [It] ns.length Pv St -> (∀ i v, Pv i v -> ∃ n t, ns[i]? = some n /\ v = .int n t) -> St 0 s2.heap -> (∀ b ∈ fp, b < s2.heap.objs.size) -> s.heap.objs.size <= It ->
      (∀ b o, s.heap.get? b = some o -> s2.heap.get? b = some o) -> (∃ h2, s2 = { s with heap := h2 }) -> Q (.ref It) s2) : wpAny (model X.prog X.w) A (pyIter u) Q E s := by
  obtain ⟨a, rfl, hx⟩ := hx
  cases r
  rcases hx with hx | hx | ⟨kvs, hx, hk⟩
  · obtain ⟨its, rv, p, hz⟩ := I.list hx
    have hl := rv.length
    rw [List.length_map] at hl
    have ht := p.isList
    have hlt : a < s.heap.objs.size := by obtain ⟨o, e, _⟩ := ht; exact Heap.lt_size e
    have hne : a ≠ s.heap.objs.size := Nat.ne_of_lt hlt
    have W0 := Walks.list (prog := X.prog) (w := X.w) (A := A) hh s.heap.objs.size a hne its.toArray
    rw [show its.toArray.size = ns.length by rw [List.size_toArray, hl]] at W0
    refine wpAny_pyIter_list ht (h s.heap.objs.size [s.heap.objs.size, a] _ _ { s with heap := s.heap.push { cls := .type "list_iterator", data := .fields #[.ref a, .int 0 0] } } W0 (fun i v e => ?_) ⟨⟨_, Heap.get?_push_size _ rfl, rfl, rfl⟩, ht.push _⟩ (fun b hb => ?_) (Nat.le_refl _) (fun b o e => Heap.get?_push_of_some _ e) ⟨_, rfl⟩)
    · have e' : its[i]? = some v := by simpa using e
      obtain ⟨hi, _⟩ := List.getElem?_eq_some_iff.mp e'
      obtain ⟨w', ew, rw'⟩ := rv.get (i := i) (x := .int (ns[i]'(by omega))) (by rw [List.getElem?_map, List.getElem?_eq_getElem (show i < ns.length by omega)]; rfl)
      rw [e'] at ew; cases ew
      obtain ⟨t, rfl⟩ := rw'
      exact ⟨_, t, List.getElem?_eq_getElem (show i < ns.length by omega), rfl⟩
    · show b < (s.heap.push _).objs.size
      rw [Heap.size_push]
      simp only [List.mem_cons, List.not_mem_nil, or_false] at hb
      rcases hb with hb | hb
      · rw [hb]; exact Nat.lt_succ_self _
      · rw [hb]; exact Nat.lt_succ_of_lt hlt
  · obtain ⟨its, rv, p, hz⟩ := I.tuple hx
    have hl := rv.length
    rw [List.length_map] at hl
    have ht : s.heap.IsTuple a its.toArray := p
    have hlt : a < s.heap.objs.size := by obtain ⟨o, e, _⟩ := ht; exact Heap.lt_size e
    have hne : a ≠ s.heap.objs.size := Nat.ne_of_lt hlt
    have W0 := Walks.tuple (prog := X.prog) (w := X.w) (A := A) hh s.heap.objs.size a hne its.toArray
    rw [show its.toArray.size = ns.length by rw [List.size_toArray, hl]] at W0
    refine wpAny_pyIter_tuple ht (h s.heap.objs.size [s.heap.objs.size, a] _ _ { s with heap := s.heap.push { cls := .type "tuple_iterator", data := .fields #[.ref a, .int 0 0] } } W0 (fun i v e => ?_) ⟨⟨_, Heap.get?_push_size _ rfl, rfl, rfl⟩, ht.push _⟩ (fun b hb => ?_) (Nat.le_refl _) (fun b o e => Heap.get?_push_of_some _ e) ⟨_, rfl⟩)
    · have e' : its[i]? = some v := by simpa using e
      obtain ⟨hi, _⟩ := List.getElem?_eq_some_iff.mp e'
      obtain ⟨w', ew, rw'⟩ := rv.get (i := i) (x := .int (ns[i]'(by omega))) (by rw [List.getElem?_map, List.getElem?_eq_getElem (show i < ns.length by omega)]; rfl)
      rw [e'] at ew; cases ew
      obtain ⟨t, rfl⟩ := rw'
      exact ⟨_, t, List.getElem?_eq_getElem (show i < ns.length by omega), rfl⟩
    · show b < (s.heap.push _).objs.size
      rw [Heap.size_push]
      simp only [List.mem_cons, List.not_mem_nil, or_false] at hb
      rcases hb with hb | hb
      · rw [hb]; exact Nat.lt_succ_self _
      · rw [hb]; exact Nat.lt_succ_of_lt hlt
  · obtain ⟨hz, hs, vs, kv, dd⟩ : bO X.prog X.w H s.heap a (.dK kvs) := I.hok a _ hx
    obtain ⟨ep, da⟩ := dd.dictAt
    have hl : kvs.length = vs.length := kv.length
    have hln : vs.length = ns.length := by
      have := congrArg List.length hk
      rw [List.length_map, List.length_map] at this
      omega
    have hlt := da.lt_size
    have hne : a ≠ s.heap.objs.size := Nat.ne_of_lt hlt
    have W0 := Walks.dictKeys (prog := X.prog) (w := X.w) (A := A) (knd := bY X.prog X.w) hh s.heap.objs.size a hne vs ep
    rw [hln] at W0
    refine wpAny_pyIter_dict hs da (h s.heap.objs.size [s.heap.objs.size, a] _ _ { s with heap := s.heap.push { cls := .type "dict_keyiterator", data := .fields #[.ref a, .int 0 0, .int vs.length 0, .int ep 0] } } W0 (fun i v e => ?_) ⟨⟨_, Heap.get?_push_size _ rfl, rfl, by rw [hln]; rfl⟩, da.push _⟩ (fun b hb => ?_) (Nat.le_refl _) (fun b o e => Heap.get?_push_of_some _ e) ⟨_, rfl⟩)
    · obtain ⟨k, x, hi, hk2⟩ := e
      have e1 : (vs.map (·.1))[i]? = some k := by rw [List.getElem?_map, hi]; rfl
      rw [<- kv.keys, hk, List.getElem?_map] at e1
      cases q : ns[i]? with
      | none => rw [q] at e1; cases e1
      | some n =>
        rw [q] at e1
        have : k = Sum.inl n := (Option.some.inj e1).symm
        subst this
        obtain ⟨t, rfl⟩ : bE (.int n) v := uN hk2
        exact ⟨n, t, rfl, rfl⟩
    · show b < (s.heap.push _).objs.size
      rw [Heap.size_push]
      simp only [List.mem_cons, List.not_mem_nil, or_false] at hb
      rcases hb with hb | hb
      · rw [hb]; exact Nat.lt_succ_self _
      · rw [hb]; exact Nat.lt_succ_of_lt hlt
theorem yE {u : V} {uv : Value} {n k : Int} (I : Inv X pins σ H s) (hk : yD X.K H u n k) (r : bE u uv) : ∃ t, iC s.heap uv n (.int k t) := by
  obtain ⟨h0, h1, a, xs, rfl, hx | hx, he⟩ := hk
  · cases r
    obtain ⟨its, rv, p, hz⟩ := I.tuple hx
    obtain ⟨w', ew, t, rfl⟩ := rv.get he
    exact ⟨t, a, rfl, .inl ⟨its.toArray, p, h0, h1, by simpa using ew⟩⟩
  · cases r
    obtain ⟨its, rv, p, hz⟩ := I.list hx
    obtain ⟨w', ew, t, rfl⟩ := rv.get he
    exact ⟨t, a, rfl, .inr ⟨its.toArray, p.isList, h0, h1, by simpa using ew⟩⟩
theorem iC.obj {h : Heap} {u : Value} {i : Int} {v : Value} (x : iC h u i v) : ∃ p o, u = .ref p /\ h.get? p = some o /\ ∀ h' : Heap, h'.get? p = some o -> iC h' u i v := by
  obtain ⟨p, rfl, ⟨its, ⟨o, ho, r⟩, q⟩ | ⟨its, ⟨o, ho, r⟩, q⟩⟩ := x
  · exact ⟨p, o, rfl, ho, fun h' e => ⟨p, rfl, .inl ⟨its, ⟨o, e, r⟩, q⟩⟩⟩
  · exact ⟨p, o, rfl, ho, fun h' e => ⟨p, rfl, .inr ⟨its, ⟨o, e, r⟩, q⟩⟩⟩
theorem zV {e : Expr} {te : TE} {p kpos lpos p1 p2 p3 pos : Pos} {params : Arguments} {scope : Scope} {vn xn : Str} {c P : Addr} {q : Str} (iv : Nat) (hc : X.calm = true) (hr : Room 1 X.A) (hg : Gl X "min") (hm : X.mg "min" = none) (Z : Lm X.K X.mg X.base c P) (hcode : X.env.code = .ref c) (hq : X.env.qual ++ "<lambda>" = q)
    (he : PE X e te) (hN : X.N[iv]? = some vn) (hkv : X.env.kindOf vn = some .cell)
    (hdef : defaultsOf params X.env = ([], []) := by rfl) (hcl : cU X.env scope.names [] = (match X.env.cells.lookup vn with | some c => [(vn, c)] | none => []) := by rfl)
    (hfr : ∀ y ∈ scope.names, y.2 = .free -> y.1 = vn := by decide +kernel)
    (hbind : ∀ (cl : List (Str × Addr)) (pm cdv ctv : Value) (i : Int) (t : Tok), bindArgs (PySem.W.kla_fn "<lambda>" q params (.Subscript (.Name vn p1) (.Name xn p2) p3) scope cl pm cdv ctv) ⟨[.int i t], []⟩ = pure [(xn, .int i t)] := by intro _ _ _ _ _ _; rfl)
    (hx : scope.names.lookup xn = some .local := by rfl) (hv : scope.names.lookup vn = some .free := by rfl) (hco : scope.isCoroutine = false := by rfl) (hgen : scope.isGenerator = false := by rfl) (hk : scope.kind = .function := by rfl) (hcell : ∀ x ∈ scope.names, x.2 ≠ .cell := by decide +kernel)
    (d1 : (vn == ("__debug__" : Str)) = false := by decide) (d2 : (vn == ("__classdict__" : Str)) = false := by decide) (d3 : (xn == ("__debug__" : Str)) = false := by decide)
    (hs1 : starEach [e] X.env = [(false, eval e X.env)] := by rfl) :
    PE X (.Call (.Name "min" p) [e] [⟨some "key", .Lambda params (.Subscript (.Name vn p1) (.Name xn p2) p3) scope lpos, kpos⟩] pos) (aB6 X.K P q iv te) := by
  intro pins s σ H Q I h
  refine wpAny_Call_Name_kw (iM (u := .builtin "min") I hg hm (by decide +kernel) ?_)
  have hpa : PA X [e] (tO te aAu) := aA he aC hs1
  refine callWith_kw (thn (hpa pos pins s σ H (fun vs H1 => match vs with
      | [x] => ∃ (ns : List Int) (kf : Int -> Int) (u : V), yC X.K H1 x ns /\ 0 < ns.length /\ H1 P = some (.tab q) /\ σ[iv]? = some (some u) /\ (∀ n ∈ ns, yD X.K H1 u n (kf n)) /\
          ∀ (j : Nat) (m : Int) (H2 : Hp), aE H1 H2 -> ns[j]? = some m -> (∀ n ∈ ns, kf m <= kf n) -> (∀ (l : Nat) (n : Int), l < j -> ns[l]? = some n -> kf m < kf n) -> Q (.int m) H2
      | _ => False) I h) fun us s1 ⟨vs, H1, I1, r1, q1⟩ => ?_) (by rw [hs1]; rfl) (by rw [hs1]; rfl)
  match vs, r1, q1 with
  | [x], r1, q1 =>
    obtain ⟨ns, kf, u, hit, hpos, hT, hu, hkeys, k⟩ := q1
    obtain ⟨xv, rfl, rx⟩ := gF r1
    -- the cell of the name
    obtain ⟨m1, hns1, hl1⟩ := id I1.loc
    obtain ⟨uv, ru, lk⟩ := hl1 iv vn u hN hu (.inr (.inl hkv))
    obtain ⟨cc, hcc, hIc⟩ : ∃ cc, X.env.cells.lookup vn = some cc /\ s1.heap.IsCell cc (some uv) := by
      rcases lk with ⟨z, _⟩ | ⟨_, z⟩
      · rw [hkv] at z; cases z
      · exact z
    have hclo : closureFor scope X.env = pure [(vn, cc)] := by
      rw [wA fun y hy z => ⟨cc, by rw [hfr y hy z]; exact hcc⟩, hcl, hcc]
    refine kws_cons (aA4 I1 Z hcode hT hq hdef hclo fun f c' ctv pm s2 H2 I2 sm kk hf hcr => kws_nil ?_)
    show wpAny (model X.prog X.w) X.A (call (.builtin "min") [xv] [(Str.ofString "key", .ref f)]) _ _ _
    have hit2 : yC X.K H2 x ns := by
      obtain ⟨a, rfl, z | z | ⟨kvs, z, y⟩⟩ := hit
      · exact ⟨a, rfl, .inl (sm.seqL z)⟩
      · exact ⟨a, rfl, .inr (.inl (sm.seqT z))⟩
      · exact ⟨a, rfl, .inr (.inr ⟨kvs, sm _ _ z, y⟩)⟩
    have hkeys2 : ∀ n ∈ ns, yD X.K H2 u n (kf n) := fun n hn => by
      obtain ⟨h0, h1, a, xs, rfl, z | z, y⟩ := hkeys n hn
      · exact ⟨h0, h1, a, xs, rfl, .inl (sm.seqT z), y⟩
      · exact ⟨h0, h1, a, xs, rfl, .inr (sm.seqL z), y⟩
    -- what stays through the loop
    obtain ⟨fo, efo, hf⟩ : ∃ fo : Obj, fo = { cls := .type "function", data := .func (PySem.W.kla_fn "<lambda>" q params (.Subscript (.Name vn p1) (.Name xn p2) p3) scope [(vn, cc)] pm (.ref c') ctv) } /\ s2.heap.get? f = some fo := ⟨_, rfl, hf⟩
    obtain ⟨c2, oc, cvs, tq, ec, hoc, hdc, hcv⟩ := hcr
    cases ec
    obtain ⟨ocl, hocl, hdcl⟩ : s2.heap.IsCell cc (some uv) := by
      obtain ⟨o, ho, hd⟩ := hIc
      have nP : cc ≠ P := fun z => by rw [z] at hcc; have := I1.freeC _ _ hcc; rw [hT] at this; cases this
      exact ⟨o, kk _ _ nP ho, hd⟩
    obtain ⟨mc, ⟨oL, esL, epL, hoL, hdL, rL⟩, hlim⟩ := I2.nolimit
    have n0 : ns[0]? = some (ns[0]) := List.getElem?_eq_getElem hpos
    obtain ⟨t0, it0⟩ := yE I2 (hkeys2 _ (List.mem_of_getElem? n0)) ru
    obtain ⟨pu, ou, eu, hou, _⟩ := it0.obj
    refine sK (f := f) (wK (A := X.A.in1) (I2.ok.hd hc) I2 hit2 rx fun It fp Pv St s3 W hPv hst hfp hIt hk3 hx9 => ?_)
    obtain ⟨h3, e3⟩ := hx9
    subst e3
    refine ⟨It, fp, [It], ns.length, Pv, St, fun i => kf (ns.getD i 0), [(f, fo), (c', oc), (cc, ocl), (cStatics, oL), (pu, ou)], rfl, W, hst, hfp, hpos, ?_, ?_, ?_, fun v h' tk hP kk' => ?_⟩
    · intro i v s4 Q4 E4 hi hPi hL hQ4
      obtain ⟨n, t, hn, rfl⟩ := hPv i v hPi
      have eg : ns.getD i 0 = n := by rw [List.getD_eq_getElem?_getD, hn]; rfl
      obtain ⟨tk, itk⟩ := yE I2 (hkeys2 _ (List.mem_of_getElem? hn)) ru
      have it4 : iC s4.heap uv n (.int (kf n) tk) := by
        obtain ⟨p', o', e', ho', hh⟩ := itk.obj
        rw [eu] at e'; cases e'
        rw [hou] at ho'; cases ho'
        exact hh _ (hL (pu, ou) (by simp))
      have rm : X.A.in1.depth < recursionLimit := (Room.in1 hr).depth
      refine aA2 (cl := [(vn, cc)]) (c := cc) rm ⟨mc, ⟨oL, esL, epL, hL (cStatics, oL) (by simp), hdL, rL⟩, hlim⟩ (by rw [<- efo]; exact hL (f, fo) (by simp)) ⟨c', oc, cvs, tq, rfl, hL (c', oc) (by simp), hdc, hcv⟩ (hbind _ _ _ _ _ _) hx hv hco hgen hk hcell (by simp [List.lookup]) ⟨ocl, hL (cc, ocl) (by simp), hdcl⟩ it4 (fun h5 tk5 k5 => ?_) d1 d2 d3
      have := hQ4 h5 tk5 tk k5
      dsimp only at this
      rw [eg] at this
      exact this
    · intro pr hpr hz
      have hlt : ∀ b o, s2.heap.get? b = some o -> b ≠ It := fun b o e => Nat.ne_of_lt (Nat.lt_of_lt_of_le (Heap.lt_size e) hIt)
      simp only [List.mem_singleton] at hz
      simp only [List.mem_cons, List.not_mem_nil, or_false] at hpr
      rcases hpr with rfl | rfl | rfl | rfl | rfl
      · exact hlt _ _ hf hz
      · exact hlt _ _ hoc hz
      · exact hlt _ _ hocl hz
      · exact hlt _ _ hoL hz
      · exact hlt _ _ hou hz
    · intro pr hpr
      simp only [List.mem_cons, List.not_mem_nil, or_false] at hpr
      rcases hpr with rfl | rfl | rfl | rfl | rfl
      · exact hk3 _ _ hf
      · exact hk3 _ _ hoc
      · exact hk3 _ _ hocl
      · exact hk3 _ _ hoL
      · exact hk3 _ _ hou
    · obtain ⟨n, t, hn, rfl⟩ := hPv _ v hP
      have I3 : Inv X pins σ H2 { s2 with heap := h', toks := tk } := I2.kept fun b o e => kk' b o (by simp; exact Nat.ne_of_lt (Nat.lt_of_lt_of_le (Heap.lt_size e) hIt)) (hk3 b o e)
      have b1 := argBest_lt (fun i => kf (ns.getD i 0)) (ns.length - 1)
      have b2 := kD (fun i => kf (ns.getD i 0)) (ns.length - 1)
      have hat : ∀ i y, ns[i]? = some y -> ns.getD i 0 = y := fun i y e => by rw [List.getD_eq_getElem?_getD, e]; rfl
      refine ⟨.int n, H2, I3, ⟨t, rfl⟩, k _ n H2 sm hn (fun y hy => ?_) (fun l y hl hy => ?_)⟩
      · obtain ⟨i, hi⟩ := List.mem_iff_getElem?.mp hy
        have := b1.2 i (by have := (List.getElem?_eq_some_iff.mp hi).1; omega)
        have e1 := hat _ _ hn
        have e2 := hat _ _ hi
        show kf n <= kf y
        rw [<- e1, <- e2]; exact this
      · have := b2 l hl
        have e1 := hat _ _ hn
        have e2 := hat _ _ hy
        rw [<- e1, <- e2]; exact this
end
end L2
set_option Elab.async false
set_option linter.all false
set_option maxRecDepth 100000
namespace L2
open PySem PySem.Spec PyProof.Rows
def aA5 (ts : List (Addr × Str)) (H : Hp) : Prop := (∀ b, H b = none ∨ (∃ o xs, H b = some (.frz o (.lst xs))) ∨ ∃ q, H b = some (.tab q) /\ (b, q) ∈ ts) /\ ∀ p ∈ ts, H p.1 = some (.tab p.2)
theorem oF {h : Heap} {c P : Addr} (C : PySem.W.CodeHd h c P) (e : h.get? P = some (PySem.W.tabObj #[])) : isCodeTable h P := (C.tab e).isCodeTable
theorem zW {P : Program} {w : World} {K : PySem.W.Frag} {mg mb : Str -> Option Value} {CX : CXT} {k : Nat} {fa a : Addr} {fd : FuncData} {x : Str} {sp : Sp} {s₁ : Shared} {vs : List Value} {ns : List Int} {ts : List (Addr × Str)}
    (KX : K.In s₁.heap) (hns : s₁.heap.Ns mainGlobals mg) (hb : s₁.heap.Ns builtinsNs mb) (hbb : ∀ x : Str, x ≠ "__name__" -> mb x = bootBuiltins x) (hlim : s₁.heap.NoLimit) (hmod : ∃ mm, s₁.heap.Ns sysModules mm) (hg : s₁.gens = #[])
    (hbm : ∃ bm ob, mg "__builtins__" = some (.ref bm) /\ bm ≠ builtinsNs /\ s₁.heap.get? bm = some ob /\ ob.cls = .type "module" /\ ob.dict = some builtinsNs /\ ob.data = .plain)
    (hts : ∀ p ∈ ts, s₁.heap.get? p.1 = some (PySem.W.tabObj #[]) /\ K.lookup p.1 = none /\ ∃ c, PySem.W.CodeHd s₁.heap c p.1) (hnd : (ts.map (·.1)).Nodup)
    (ha : s₁.heap.get? a = some { cls := .type "list", data := .seq vs.toArray }) (hi : IntsAre vs ns) (hl : ns.length <= sizeLine) (hr : Room k callerA)
    (F : ∀ base : Heap, K.In base -> base.Ns mainGlobals mg -> (∀ p ∈ ts, base.BuiltinsAt mg p.1) -> FnOk P w K mg base CX k fa fd [x] sp) (hbind : ∀ (s : Shared) (u : Value), BindsTo s fd ⟨[u], []⟩ [(x, u)])
    (hsp : ∀ H : Hp, aA5 ts H -> SqL K H a (ns.map V.int) -> sp [.ref a] H (fun v H' => v = .bl true /\ ∀ p ∈ ts, H' p.1 = some (.tab p.2)) fun _ _ _ => False)
    (hCX : ∀ H e s', CX [] H s₁ (fun _ _ _ => False) e s' -> False) :
    codeAny (model P w) callerA (.call (.ref fa) ⟨[.ref a], []⟩) (fun r s' => r = .ok (.ret (.bool true)) /\ OldK s₁.heap s'.heap /\ s'.os = s₁.os /\ AllBare s'.gens) s₁ := by
  have rv := iG hi
  have lenV := hi.length
  have na : ∀ p ∈ ts, p.1 ≠ a := fun p hp z => by
    have := (hts p hp).1
    rw [z, ha] at this; cases this
  -- from an abstract heap in which nothing but the script and the tables may be tracked
  have core : ∀ H : Hp, aA5 ts H -> SqL K H a (ns.map V.int) -> HOk P w H s₁.heap -> (∀ b, H b ≠ none -> b = a ∨ ∃ q, (b, q) ∈ ts) -> (H a ≠ none -> K.lookup a = none) ->
      codeAny (model P w) callerA (.call (.ref fa) ⟨[.ref a], []⟩) (fun r s' => r = .ok (.ret (.bool true)) /\ OldK s₁.heap s'.heap /\ s'.os = s₁.os /\ AllBare s'.gens) s₁ := by
    intro H hO hS hok hA hK
    have base_of : ∀ {b : Addr} {o : Obj}, s₁.heap.get? b = some o -> H b = none -> (pI s₁.heap H).get? b = some o := fun e n => aAi e n
    have noA : ∀ {b : Addr} {o : Obj} {es : Array DictEntry} {ep : Nat}, s₁.heap.get? b = some o -> o.data = .dict es ep -> H b = none := fun {b o es ep} e d => by
      cases q : H b with
      | none => rfl
      | some u =>
        rcases hA b (by rw [q]; simp) with e' | ⟨q', e'⟩
        · subst e'
          rw [ha] at e; cases e
          have d' : Data.seq vs.toArray _ = Data.dict es ep := d
          cases d'
        · have := (hts _ e').1
          have e2 : s₁.heap.get? b = some (PySem.W.tabObj #[]) := this
          rw [e] at e2; cases e2
          have d' : Data.fields _ = Data.dict es ep := d
          cases d'
    have nsK : ∀ {b : Addr} {m : Str -> Option Value}, s₁.heap.Ns b m -> (pI s₁.heap H).Ns b m := fun {b m} ⟨o, es, ep, e, d, r⟩ => ⟨o, es, ep, base_of e (noA e d), d, r⟩
    have hKb : K.In (pI s₁.heap H) := fun b o e => base_of (KX b o e) (by
      cases q : H b with
      | none => rfl
      | some u =>
        rcases hA b (by rw [q]; simp) with e' | ⟨q', e'⟩
        · subst e'
          rw [hK (by rw [q]; simp)] at e; cases e
        · have := (hts _ e').2.1
          have e2 : K.lookup b = none := this
          rw [e] at e2; cases e2)
    have hBu : ∀ p ∈ ts, (pI s₁.heap H).BuiltinsAt mg p.1 := fun p hp => by
      obtain ⟨bm, ob, b1, b2, b3, b4, b5, b6⟩ := hbm
      have hn : H bm = none := by
        cases q : H bm with
        | none => rfl
        | some u =>
          rcases hA bm (by rw [q]; simp) with e' | ⟨q', e'⟩
          · subst e'
            rw [ha] at b3; cases b3
            have d' : Data.seq vs.toArray _ = Data.plain := b6
            cases d'
          · have e2 : s₁.heap.get? bm = some (PySem.W.tabObj #[]) := (hts _ e').1
            rw [b3] at e2; cases e2
            have d' : Data.fields _ = Data.plain := b6
            cases d'
      refine ⟨bm, ob, b1, b2, fun z => ?_, fun z => ?_, base_of b3 hn, b4, b5, b6⟩
      · obtain ⟨o, es, ep, e, d, r⟩ := hns
        rw [<- z, b3] at e; cases e
        rw [b6] at d; cases d
      · have e2 : s₁.heap.get? p.1 = some (PySem.W.tabObj #[]) := (hts _ hp).1
        rw [<- z, b3] at e2; cases e2
        have d' : Data.fields _ = Data.plain := b6
        cases d'
    have hM : Mod K mg (pI s₁.heap H) := ⟨hKb, nsK hns, ⟨mb, nsK hb, hbb⟩, let ⟨mc, h1, h2⟩ := hlim; ⟨mc, nsK h1, h2⟩, let ⟨mm, h1⟩ := hmod; ⟨mm, nsK h1⟩⟩
    have e0 : Env0 P w K mg (pI s₁.heap H) callerA [] s₁ H := ⟨rfl, hM, fun b o e => aBL e, Nat.le_of_eq (zC _ _), trivial, fun b hb => absurd (show b ∈ ([] : List Addr) from hb) (by simp), hok, .of_eq hg⟩
    refine codeAny_mono ((F _ hKb (nsK hns) hBu).run callerA [] s₁ H ⟨[.ref a], []⟩ [.ref a] [.ref a] _ _ hr e0 (hbind s₁ (.ref a)) (.cons rfl .nil) (hsp H hO hS)) fun r s' h => ?_
    cases r with
    | error e => exact (hCX H e s' h).elim
    | ok fl =>
      cases fl with
      | next => exact False.elim h
      | brk => exact False.elim h
      | cont => exact False.elim h
      | ret u =>
        obtain ⟨v, H', os, bare, un, hok', r', q, qt⟩ := h
        have q' : v = .bl true := q
        subst q'
        obtain rfl : u = Value.bool true := r'
        have keep : ∀ b o, (∀ q, (b, q) ∉ ts) -> s₁.heap.get? b = some o -> s'.heap.get? b = some o := fun b o hb e => by
          cases q : H b with
          | none => exact un.keep b o e q (by intro z; exact absurd (show b ∈ ([] : List Addr) from z) (by simp)) (by simp)
          | some u =>
            rcases hO.1 b with z | ⟨ob, xs, z⟩ | ⟨q', z, zm⟩
            · rw [q] at z; cases z
            · have z2 := un.frzs b ob _ z
              obtain ⟨e1, _⟩ := hok b _ z
              obtain ⟨e2, _⟩ := hok' b _ z2
              rw [e] at e1; cases e1
              exact e2
            · exact absurd zm (hb q')
        have grown : ∀ b o q, (b, q) ∈ ts -> s₁.heap.get? b = some o -> isCodeTable s₁.heap b /\ o = PySem.W.tabObj #[] /\ ∃ ps, s'.heap.get? b = some (PySem.W.tabObj ps) := fun b o q hm e => by
          obtain ⟨h1, h2, c, h3⟩ := hts _ hm
          have h1' : s₁.heap.get? b = some (PySem.W.tabObj #[]) := h1
          rw [e] at h1'
          obtain ⟨ps, hps, _⟩ : bO P w H' s'.heap b (.tab q) := hok' b _ (qt _ hm)
          exact ⟨oF h3 h1, Option.some.inj h1', ps, hps⟩
        refine ⟨rfl, ⟨fun b o e => ?_, fun b o e => ?_⟩, os, bare⟩
        · by_cases hb : ∃ q, (b, q) ∈ ts
          · obtain ⟨q, hm⟩ := hb
            obtain ⟨ht, rfl, ps, hP⟩ := grown b o q hm e
            exact .inr (.inl ⟨ht, rfl, #[], ps, rfl, by rw [Array.empty_append]; exact hP⟩)
          · exact .inl (keep b o (fun q z => hb ⟨q, z⟩) e)
        · by_cases hb : ∃ q, (b, q) ∈ ts
          · obtain ⟨q, hm⟩ := hb
            obtain ⟨_, _, ps, hP⟩ := grown b o q hm e
            exact ⟨_, hP⟩
          · exact ⟨o, keep b o (fun q z => hb ⟨q, z⟩) e⟩
  -- the tables
  have look : ∀ {b : Addr} {q : Str}, ts.lookup b = some q -> (b, q) ∈ ts := fun {b q} e => by
    clear hts hnd hsp core na F
    induction ts with
    | nil => cases e
    | cons p r ih =>
      rw [List.lookup_cons] at e
      cases hb : b == p.1 with
      | true => rw [hb] at e; cases e; rw [eq_of_beq hb]; exact .head _
      | false => rw [hb] at e; exact .tail _ (ih e)
  have look2 : ∀ {b : Addr} {q : Str}, (b, q) ∈ ts -> ts.lookup b = some q := fun {b q} e => by
    clear hts hsp core na look F
    induction ts with
    | nil => cases e
    | cons p r ih =>
      rw [List.lookup_cons]
      rw [List.map_cons, List.nodup_cons] at hnd
      rcases List.mem_cons.mp e with rfl | e
      · simp
      · have : (b == p.1) = false := by
          rw [beq_eq_false_iff_ne]
          intro z
          exact hnd.1 (List.mem_map.mpr ⟨(b, q), e, z⟩)
        rw [this]
        exact ih hnd.2 e
  have tabOk : ∀ (H : Hp) (b : Addr) (q : Str), (b, q) ∈ ts -> bO P w H s₁.heap b (.tab q) := fun H b q hm => ⟨#[], (hts _ hm).1, trivial, fun pos cv z => by simp [codeAmong] at z⟩
  cases hk : K.lookup a with
  | some o =>
    have e := KX a o hk
    rw [ha] at e
    cases e
    refine core (fun b => (ts.lookup b).map HO.tab) ⟨fun b => ?_, fun p hp => by show (ts.lookup p.1).map HO.tab = _; rw [look2 (q := p.2) hp]; rfl⟩ (.inr ⟨_, vs.toArray, _, hk, rfl, rfl, rfl, by rw [List.size_toArray, lenV]; exact hl, by simpa using rv⟩) (fun b u z => ?_) (fun b z => ?_) fun z => ?_
    · cases q : ts.lookup b with
      | none => exact .inl (by show (ts.lookup b).map HO.tab = none; rw [q]; rfl)
      | some y => exact .inr (.inr ⟨y, by show (ts.lookup b).map HO.tab = _; rw [q]; rfl, look q⟩)
    · have z' : (ts.lookup b).map HO.tab = some u := z
      cases q : ts.lookup b with
      | none => rw [q] at z'; cases z'
      | some y => rw [q] at z'; cases z'; exact tabOk _ _ _ (look q)
    · have z' : (ts.lookup b).map HO.tab ≠ none := z
      cases q : ts.lookup b with
      | none => rw [q] at z'; exact absurd rfl z'
      | some y => exact .inr ⟨y, look q⟩
    · exfalso
      have z' : (ts.lookup a).map HO.tab ≠ none := z
      cases q : ts.lookup a with
      | none => rw [q] at z'; exact absurd rfl z'
      | some y => exact na _ (look q) rfl
  | none =>
    have noa : ts.lookup a = none := by
      cases q : ts.lookup a with
      | none => rfl
      | some y => exact absurd rfl (na _ (look q))
    refine core (fun b => if b = a then some (.frz { cls := .type "list", data := .seq vs.toArray } (.lst (ns.map V.int))) else (ts.lookup b).map HO.tab) ⟨fun b => ?_, fun p hp => ?_⟩ (.inl (.inr ⟨{ cls := .type "list", data := .seq vs.toArray }, if_pos rfl⟩)) (fun b u z => ?_) (fun b z => ?_) fun _ => hk
    · by_cases hb : b = a
      · exact .inr (.inl ⟨_, _, if_pos hb⟩)
      · cases q : ts.lookup b with
        | none => exact .inl ((if_neg hb).trans (by rw [q]; rfl))
        | some y => exact .inr (.inr ⟨y, (if_neg hb).trans (by rw [q]; rfl), look q⟩)
    · exact (if_neg (na p hp)).trans (by rw [look2 (q := p.2) hp]; rfl)
    · by_cases hb : b = a
      · have z' := (if_pos hb).symm.trans z
        cases z'
        subst hb
        exact ⟨ha, by rw [List.length_map]; exact hl, vs, _, rv, ha⟩
      · have z' := (if_neg hb).symm.trans z
        cases q : ts.lookup b with
        | none => rw [q] at z'; cases z'
        | some y => rw [q] at z'; cases z'; exact tabOk _ _ _ (look q)
    · by_cases hb : b = a
      · exact .inl hb
      · cases q : ts.lookup b with
        | none => exact absurd ((if_neg hb).trans (by rw [q]; rfl)) z
        | some y => exact .inr ⟨y, look q⟩
theorem aA6 {l : PySem.W.OpenLaw} {n k : Nat} {q : Program} {loose : List Str} {XP : (Str -> Option Value) -> Heap -> Prop} {YP : World -> Heap -> Prop} {d : DefRec} {K : Params -> PySem.W.Frag} {CX : World -> CXT} {sp : World -> Sp} {x : Str} {ts : List (Addr × Str)}
    (hn : l.most = some n) (hn2 : n <= sizeLine) (hdf : d.params.defaults = []) (hr : Room k callerA) (hq : importsNone q = true)
    (hY : ∀ (w : World) (h : Heap), YP w h -> (K w.params).In h)
    (hts : ∀ (w : World) (h : Heap), YP w h -> ∀ p ∈ ts, h.get? p.1 = some (PySem.W.tabObj #[]) /\ (K w.params).lookup p.1 = none /\ ∃ c, PySem.W.CodeHd h c p.1) (hnd : (ts.map (·.1)).Nodup)
    (F : ∀ (w : World) (mg : Str -> Option Value) (fa : Addr) (h : Heap), (K w.params).In h -> h.Ns mainGlobals mg -> mg d.name = some (.ref fa) ->
      ∃ fd : FuncData, (∀ (s : Shared) (u : Value), BindsTo s fd ⟨[u], []⟩ [(x, u)]) /\
        ∀ base : Heap, (K w.params).In base -> base.Ns mainGlobals mg -> (∀ p ∈ ts, base.BuiltinsAt mg p.1) -> FnOk l.prog w (K w.params) mg base (CX w) k fa fd [x] (sp w))
    (hsp : ∀ (w : World) (H : Hp) (a : Addr) (ns : List Int), ns.length <= n -> aA5 ts H -> SqL (K w.params) H a (ns.map V.int) -> sp w [.ref a] H (fun v H' => v = .bl true /\ ∀ p ∈ ts, H' p.1 = some (.tab p.2)) fun _ _ _ => False)
    (hCX : ∀ (w : World) (H : Hp) (s : Shared) (e : Value) (s' : Shared), CX w [] H s (fun _ _ _ => False) e s' -> False) :
    PySem.W.WalkO q loose XP YP l.row.toRowW d [] (fun f vs => PySem.call f vs) := by
  refine Att.attach_call hn hdf fun w s₀ s₁ mg mb fa o pm cd doc a vs ns G Y ho hd hcd hmg hobj hints hlen hg => ?_
  have KX := hY w _ Y
  obtain ⟨fd, hb, hF⟩ := F w mg fa _ KX G.T.g hmg
  exact zW KX G.T.g G.T.b G.T.builtins G.T.nolimit (let ⟨mm, h1, _⟩ := (G.T.seer hq).mods; ⟨mm, h1⟩) hg G.T.bmain (hts w _ Y) hnd hobj hints (Nat.le_trans hlen hn2) hr hF hb (fun H hO hS => hsp w H a ns hlen hO hS) fun H e s' => hCX w H s₁ e s'
end L2
namespace L2
open PySem PySem.Spec PyProof.Rows
section
variable {P : Program} {w : World} {K : PySem.W.Frag} {mg : Str -> Option Value} {base : Heap}
theorem Fun.okC {x qual : Str} {st : Stmt} {f c : Addr} {fd : FuncData} {N ps : List Str} {k : Nat} {sp : Sp} (F : Fun K x qual st f fd) (hc : fd.code = .ref c) (S : FnScope N ps (aH st)) (len : ∀ vs H Q E, sp vs H Q E -> vs.length = ps.length)
    (hbody : ∀ (A : Around) (outer : List Env) (s : Shared) (H : Hp) (vs : List V) (Q : VK) (E : XK), Room k (A.deeper (envOfC qual (aH st) s.heap.objs.size f (.ref c))) -> sp vs H Q E ->
      ∃ t, PSs (vY CX0 P w K mg base N qual (aH st) f (.ref c) A outer s H E).nox (gA st) t /\ t { nx := fun _ H' => Q .non H', rt := Q } (lC N vs) H) : FnOk P w K mg base CX0 (k + 1) f fd ps sp := by
  obtain ⟨oc, od, kV, doc, pm, an, cdv, ct, osl, rfl, lk, hcd⟩ := F.ex
  have e : cdv = .ref c := hc
  subst e
  refine aCy lk hcd S len fun A outer s H vs Q E hr hsp => ?_
  obtain ⟨t, h, q⟩ := hbody A outer s H vs Q E hr hsp
  exact ⟨t, h.nox, q⟩
end
end L2
set_option Elab.async false
set_option linter.all false
set_option maxRecDepth 100000
namespace L2
open PySem PySem.Spec PyProof.Rows
abbrev fI (h : Heap) (z TI TO : Addr) (f0 : Value) (f1 : Bool) : Prop :=
  h.get? z = some { cls := .type "zip", dict := none, data := .fields #[f0, .bool f1, .bool false, .ref TI, .ref TO], slots := #[] }
def F0 (f : Value) : Prop := f = .none ∨ ∃ a t, f = .int a t
theorem uO {M : Model} {A : Around} {E : Value -> Shared -> Prop} {s : Shared} {a : Addr} {Q : Option Obj -> Shared -> Prop} (h : Q (s.heap.get? a) s) : wpAny M A (loadIfAlive a) Q E s := fun Γ p _ => by
  show Sem.wp M Γ (.loadIfAlive a .pure) _ _ p s
  rw [Sem.wp_loadIfAlive]
  exact (Sem.wp_pure ..).mpr h
section
variable {prog : Program} {w : World} {A : Around} {E : Value -> Shared -> Prop} {s : Shared} {z TI TO i1 i2 l1 l2 : Addr} {n1 n2 : Nat} {P1 P2 : Nat -> Value -> Prop} {st1 st2 : Nat -> Heap -> Prop}
theorem aA7 {f0 : Value} {f1 : Bool} {Q : Bool -> Shared -> Prop} (hz : fI s.heap z TI TO f0 f1) (hf : F0 f0) (h1 : Q true s) (h2 : ∀ h' b, fI h' z TI TO f0 b -> Heap.SameBut z s.heap h' -> Q false { s with heap := h' }) :
    wpAny (model prog w) A (Builtin.SmallTypes.ownedTupleIsFree (.ref z)) Q E s := by
  unfold Builtin.SmallTypes.ownedTupleIsFree
  rcases hf with rfl | ⟨a, t, rfl⟩
  · exact wpAny_bind (wpAny_field hz rfl (x := .none) rfl (wpAny_pure h1))
  · refine wpAny_bind (wpAny_field hz rfl (x := .int a t) rfl ?_)
    show wpAny (model prog w) A (loadIfAlive a.toNat >>= _) Q E s
    refine wpAny_bind (uO ?_)
    cases hq : s.heap.get? a.toNat with
    | none => exact wpAny_pure h1
    | some o =>
      show wpAny (model prog w) A (field (.ref z) 1 >>= _) Q E s
      refine wpAny_bind (wpAny_field hz rfl (x := .bool f1) rfl ?_)
      cases f1 with
      | true => exact wpAny_pure (h2 s.heap true hz (Heap.SameBut.refl _ _))
      | false =>
        show wpAny (model prog w) A (setField (.ref z) 1 (.bool true) >>= _) Q E s
        refine wpAny_bind (wpAny_setField_rec hz (by simp) fun g hg b => wpAny_pure (h2 g true hg b))
theorem aA8 {k : Nat} {a b f0 : Value} {f1 : Bool} {Q : Value -> Shared -> Prop} (D : ZipApart z TI TO i1 i2 l1 l2) (S1 : Sub prog w i1 l1 n1 P1 st1) (S2 : Sub prog w i2 l2 n2 P2 st2)
    (hz : fI s.heap z TI TO f0 f1) (hf : F0 f0) (hTI : IsPair s.heap TI (.ref i1) (.ref i2)) (hTO : IsPair s.heap TO a b) (h1 : st1 k s.heap) (h2 : st2 k s.heap) (k1 : k < n1) (k2 : k < n2)
    (hQ : ∀ h' x y f0' f1', P1 k x -> P2 k y -> F0 f0' -> fI h' z TI TO f0' f1' -> (∃ a b, IsPair h' TO a b) -> st1 (k + 1) h' -> st2 (k + 1) h' -> IsPair h' s.heap.objs.size x y -> h'.objs.size = s.heap.objs.size + 1 ->
      (∀ c o, c ≠ z -> c ≠ TO -> c ≠ i1 -> c ≠ i2 -> s.heap.get? c = some o -> h'.get? c = some o) -> Q (.ref s.heap.objs.size) { s with heap := h' }) :
    wpAny (model prog w) A (Builtin.«zip.__next__» ⟨[.ref z], []⟩) (fun fin s' => ∃ v, fin = .done (.ret v) /\ Q v s') E s := by
  refine wpAny_bind (m := field (.ref z) 2) (wpAny_field hz rfl (x := .bool false) rfl ?_)
  refine wpAny_bind (m := field (.ref z) 3) (wpAny_field hz rfl (x := .ref TI) rfl ?_)
  refine wpAny_bind (wpAny_seqItems hTI rfl ?_)
  refine wpAny_bind (m := Builtin.SmallTypes.ownedTupleIsFree (.ref z)) (aA7 hz hf ?_ fun h0 fb hz0 b0 => ?_)
  · simp only [if_true]
    refine wpAny_bind (wpAny_rule ?_)
    refine wpAny_bind (wpAny_field hz rfl (x := .ref TO) rfl ?_)
    refine wpAny_bind (wpAny_setField_rec hz (by simp) fun g1 hz1 b1 => ?_)
    have hz1' : fI g1 z TI TO .ellipsis f1 := hz1
    refine wpAny_bind ?_
    simp only [List.zipIdx_cons, List.zipIdx_nil, List.forIn_cons, List.forIn_nil]
    have s1 : st1 k g1 := S1.keep _ _ _ h1 fun c hc o e => b1.extBut c o (by rcases hc with r | r <;> rw [r]; exact D.i1z; exact D.l1z) e
    refine wpAny_bind (wpAny_bind (wpAny_onRaise ?_))
    refine wpAny_bind (m := Builtin.SmallTypes.nextOf (.ref i1)) (S1.item _ k _ _ _ k1 s1 fun x g2 px t1 b2 => wpAny_pure ?_)
    have o2 : IsPair g2 TO a b := b2.extBut _ _ D.TOi1 (b1.extBut _ _ D.TOz hTO)
    refine wpAny_bind (wpAny_seqItems o2 rfl ?_)
    refine wpAny_bind (wpAny_updateSeq_pair o2 fun g3 o3 b3 => ?_)
    have o3' : IsPair g3 TO x b := o3
    refine wpAny_bind (wpAny_letGo (wpAny_pure ?_))
    have s2 : st2 k g3 := S2.keep _ _ _ h2 fun c hc o e => by
      rcases hc with r | r
      · rw [r] at e ⊢; exact b3.extBut _ _ D.TOi2.symm (b2.extBut _ _ D.i12.symm (b1.extBut _ _ D.i2z e))
      · rw [r] at e ⊢; exact b3.extBut _ _ D.l2TO (b2.extBut _ _ D.l2i1 (b1.extBut _ _ D.l2z e))
    refine wpAny_bind (wpAny_bind (wpAny_onRaise ?_))
    refine wpAny_bind (m := Builtin.SmallTypes.nextOf (.ref i2)) (S2.item _ k _ _ _ k2 s2 fun y g4 py t2 b4 => wpAny_pure ?_)
    have o4 : IsPair g4 TO x b := b4.extBut _ _ D.TOi2 o3'
    refine wpAny_bind (wpAny_seqItems o4 rfl ?_)
    refine wpAny_bind (wpAny_updateSeq_pair o4 fun g5 o5 b5 => ?_)
    have o5' : IsPair g5 TO x y := o5
    refine wpAny_bind (wpAny_letGo (wpAny_pure (wpAny_pure ?_)))
    refine wpAny_bind (wpAny_seqItems o5' rfl ?_)
    refine wpAny_bind (wpAny_newTuple ?_)
    have sz : g5.objs.size = s.heap.objs.size := by rw [b5.1, b4.1, b3.1, b2.1, b1.1]
    have z5 : fI g5 z TI TO .ellipsis f1 := b5.extBut _ _ D.TOz.symm (b4.extBut _ _ D.i2z.symm (b3.extBut _ _ D.TOz.symm (b2.extBut _ _ D.i1z.symm hz1')))
    have kp5 : ∀ c o, c ≠ z -> c ≠ TO -> c ≠ i1 -> c ≠ i2 -> s.heap.get? c = some o -> g5.get? c = some o := fun c o c1 c2 c3 c4 e =>
      b5.extBut _ _ c2 (b4.extBut _ _ c4 (b3.extBut _ _ c2 (b2.extBut _ _ c3 (b1.extBut _ _ c1 e))))
    have t1' : st1 (k + 1) g5 := S1.keep _ _ _ t1 fun c hc o e => by
      rcases hc with r | r
      · rw [r] at e ⊢; exact b5.extBut _ _ D.TOi1.symm (b4.extBut _ _ D.i12 (b3.extBut _ _ D.TOi1.symm e))
      · rw [r] at e ⊢; exact b5.extBut _ _ D.l1TO (b4.extBut _ _ D.l1i2 (b3.extBut _ _ D.l1TO e))
    have t2' : st2 (k + 1) g5 := S2.keep _ _ _ t2 fun c hc o e => by
      rcases hc with r | r
      · rw [r] at e ⊢; exact b5.extBut _ _ D.TOi2.symm e
      · rw [r] at e ⊢; exact b5.extBut _ _ D.l2TO e
    have zlt : g5.objs.size ≠ z := Nat.ne_of_gt (Heap.lt_size z5)
    refine wpAny_bind (m := Builtin.SmallTypes.ownedTupleHandOut (.ref z) (.ref g5.objs.size)) ?_
    unfold Builtin.SmallTypes.ownedTupleHandOut
    have z6 : fI (g5.push { cls := .type "tuple", data := .seq #[x, y] }) z TI TO .ellipsis f1 := Heap.get?_push_of_some _ z5
    refine wpAny_bind (wpAny_setField_rec z6 (by simp) fun g7 z7 b7 => ?_)
    have z7' : fI g7 z TI TO (rawInt g5.objs.size) f1 := z7
    refine wpAny_setField_rec z7' (by simp) fun g8 z8 b8 => ?_
    have z8' : fI g8 z TI TO (rawInt g5.objs.size) false := z8
    have up : ∀ c o, c ≠ z -> g5.get? c = some o -> g8.get? c = some o := fun c o c1 e => b8.extBut _ _ c1 (b7.extBut _ _ c1 (Heap.get?_push_of_some _ e))
    have T8 : IsPair g8 g5.objs.size x y := b8.extBut _ _ zlt (b7.extBut _ _ zlt (Heap.get?_push_size _ rfl))
    have sz8 : g8.objs.size = s.heap.objs.size + 1 := by rw [b8.1, b7.1, Heap.size_push, sz]
    rw [sz] at z8' T8
    refine wpAny_pure ⟨_, rfl, ?_⟩
    show Q (.ref g5.objs.size) _
    rw [sz]
    refine hQ g8 x y _ _ px py (.inr ⟨_, _, rfl⟩) z8' ⟨_, _, up _ _ D.TOz o5'⟩ (S1.keep _ _ _ t1' fun c hc o e => up c o (by rcases hc with r | r <;> rw [r]; exact D.i1z; exact D.l1z) e) (S2.keep _ _ _ t2' fun c hc o e => up c o (by rcases hc with r | r <;> rw [r]; exact D.i2z; exact D.l2z) e) T8 sz8 fun c o c1 c2 c3 c4 e => up c o c1 (kp5 c o c1 c2 c3 c4 e)
  · simp only [Bool.false_eq_true, if_false]
    have s1 : st1 k h0 := S1.keep _ _ _ h1 fun c hc o e => b0.extBut c o (by rcases hc with r | r <;> rw [r]; exact D.i1z; exact D.l1z) e
    rw [<- Array.forIn_toList]
    simp only [List.forIn_cons, List.forIn_nil]
    refine wpAny_bind (wpAny_bind (wpAny_bind (wpAny_holding ?_)))
    refine wpAny_bind (m := Builtin.SmallTypes.nextOf (.ref i1)) (S1.item _ k _ _ _ k1 s1 fun x g2 px t1 b2 => wpAny_pure ?_)
    refine wpAny_pure ?_
    have s2 : st2 k g2 := S2.keep _ _ _ h2 fun c hc o e => by
      rcases hc with r | r
      · rw [r] at e ⊢; exact b2.extBut _ _ D.i12.symm (b0.extBut _ _ D.i2z e)
      · rw [r] at e ⊢; exact b2.extBut _ _ D.l2i1 (b0.extBut _ _ D.l2z e)
    refine wpAny_bind (wpAny_bind (wpAny_holding ?_))
    refine wpAny_bind (m := Builtin.SmallTypes.nextOf (.ref i2)) (S2.item _ k _ _ _ k2 s2 fun y g4 py t2 b4 => wpAny_pure ?_)
    refine wpAny_pure (wpAny_pure ?_)
    refine wpAny_bind (wpAny_newTuple ?_ (by show 2 <= sizeLine; rw [sizeLine_eq]; decide))
    have sz : g4.objs.size = s.heap.objs.size := by rw [b4.1, b2.1, b0.1]
    have z4 : fI g4 z TI TO f0 fb := b4.extBut _ _ D.i2z.symm (b2.extBut _ _ D.i1z.symm hz0)
    have kp4 : ∀ c o, c ≠ z -> c ≠ i1 -> c ≠ i2 -> s.heap.get? c = some o -> g4.get? c = some o := fun c o c1 c3 c4 e => b4.extBut _ _ c4 (b2.extBut _ _ c3 (b0.extBut _ _ c1 e))
    have t1' : st1 (k + 1) g4 := S1.keep _ _ _ t1 fun c hc o e => by
      rcases hc with r | r
      · rw [r] at e ⊢; exact b4.extBut _ _ D.i12 e
      · rw [r] at e ⊢; exact b4.extBut _ _ D.l1i2 e
    refine wpAny_pure ⟨_, rfl, ?_⟩
    show Q (.ref g4.objs.size) _
    have T8 : IsPair (g4.push { cls := .type "tuple", data := .seq #[x, y] }) g4.objs.size x y := Heap.get?_push_size _ rfl
    rw [sz] at T8 ⊢
    refine hQ _ x y _ _ px py hf (Heap.get?_push_of_some _ z4) ⟨_, _, Heap.get?_push_of_some _ (kp4 _ _ D.TOz D.TOi1 D.TOi2 hTO)⟩ (S1.keep _ _ _ t1' fun c hc o e => Heap.get?_push_of_some _ e) (S2.keep _ _ _ t2 fun c hc o e => Heap.get?_push_of_some _ e) T8 (by rw [Heap.size_push, sz]) fun c o c1 c2 c3 c4 e => Heap.get?_push_of_some _ (kp4 c o c1 c3 c4 e)
theorem aB7 {k : Nat} {a b f0 : Value} {f1 : Bool} {Q : Fin -> Shared -> Prop} (hh : A.handled = none) (D : ZipApart z TI TO i1 i2 l1 l2) (S1 : Sub prog w i1 l1 n1 P1 st1) (S2 : Sub prog w i2 l2 n2 P2 st2)
    (hz : fI s.heap z TI TO f0 f1) (hf : F0 f0) (hTI : IsPair s.heap TI (.ref i1) (.ref i2)) (hTO : IsPair s.heap TO a b) (h1 : st1 k s.heap) (h2 : st2 k s.heap) (hend : k = n1 /\ k <= n2 ∨ k = n2 /\ k < n1)
    (hE : ∀ h' e, (∀ c o, c ≠ z -> c ≠ TO -> c ≠ i1 -> c ≠ i2 -> s.heap.get? c = some o -> h'.get? c = some o) -> (∃ o, h'.get? e = some o /\ o.cls = .type "StopIteration") -> E (.ref e) { s with heap := h' }) :
    wpAny (model prog w) A (Builtin.«zip.__next__» ⟨[.ref z], []⟩) Q E s := by
  refine wpAny_bind (m := field (.ref z) 2) (wpAny_field hz rfl (x := .bool false) rfl ?_)
  refine wpAny_bind (m := field (.ref z) 3) (wpAny_field hz rfl (x := .ref TI) rfl ?_)
  refine wpAny_bind (wpAny_seqItems hTI rfl ?_)
  refine wpAny_bind (m := Builtin.SmallTypes.ownedTupleIsFree (.ref z)) (aA7 hz hf ?_ fun h0 fb hz0 b0 => ?_)
  · simp only [if_true]
    refine wpAny_bind (wpAny_rule ?_)
    refine wpAny_bind (wpAny_field hz rfl (x := .ref TO) rfl ?_)
    refine wpAny_bind (wpAny_setField_rec hz (by simp) fun g1 hz1 b1 => ?_)
    have hz1' : fI g1 z TI TO .ellipsis f1 := hz1
    refine wpAny_bind ?_
    simp only [List.zipIdx_cons, List.zipIdx_nil, List.forIn_cons, List.forIn_nil]
    have s1 : st1 k g1 := S1.keep _ _ _ h1 fun c hc o e => b1.extBut c o (by rcases hc with r | r <;> rw [r]; exact D.i1z; exact D.l1z) e
    refine wpAny_bind (wpAny_bind (wpAny_onRaise ?_))
    have fin : ∀ (g : Heap) (e : Addr) (g0 : Heap), (∃ o, g.get? e = some o /\ o.cls = .type "StopIteration") -> fI g z TI TO .ellipsis f1 -> (∀ c o, c ≠ z -> c ≠ TO -> c ≠ i1 -> c ≠ i2 -> s.heap.get? c = some o -> g.get? c = some o) ->
        wpAny (model prog w) A (setField (.ref z) 0 .none) (fun _ s' => E (.ref e) s') E { s with heap := g } := fun g e g0 ⟨oe, hoe, hce⟩ hzz kp => by
      have hez : e ≠ z := fun q => by rw [q, hzz] at hoe; cases hoe; simp at hce
      exact wpAny_setField_rec hzz (by simp) fun g' _ b' => hE g' e (fun c o c1 c2 c3 c4 q => b'.extBut _ _ c1 (kp c o c1 c2 c3 c4 q)) ⟨oe, b'.extBut _ _ hez hoe, hce⟩
    rcases hend with ⟨e1, _⟩ | ⟨e2, k1⟩
    · rw [e1] at s1
      refine wpAny_bind (m := Builtin.SmallTypes.nextOf (.ref i1)) (S1.done _ _ _ _ hh s1 fun g2 e b2 he => ?_)
      exact fin g2 e g1 he (b2 _ _ D.i1z.symm hz1') fun c o c1 _ c3 _ q => b2 _ _ c3 (b1.extBut _ _ c1 q)
    · refine wpAny_bind (m := Builtin.SmallTypes.nextOf (.ref i1)) (S1.item _ k _ _ _ k1 s1 fun x g2 px t1 b2 => wpAny_pure ?_)
      have o2 : IsPair g2 TO a b := b2.extBut _ _ D.TOi1 (b1.extBut _ _ D.TOz hTO)
      refine wpAny_bind (wpAny_seqItems o2 rfl ?_)
      refine wpAny_bind (wpAny_updateSeq_pair o2 fun g3 o3 b3 => ?_)
      refine wpAny_bind (wpAny_letGo (wpAny_pure ?_))
      have s2 : st2 n2 g3 := by
        rw [<- e2]
        exact S2.keep _ _ _ h2 fun c hc o e => by
          rcases hc with r | r
          · rw [r] at e ⊢; exact b3.extBut _ _ D.TOi2.symm (b2.extBut _ _ D.i12.symm (b1.extBut _ _ D.i2z e))
          · rw [r] at e ⊢; exact b3.extBut _ _ D.l2TO (b2.extBut _ _ D.l2i1 (b1.extBut _ _ D.l2z e))
      refine wpAny_bind (wpAny_bind (wpAny_onRaise ?_))
      refine wpAny_bind (m := Builtin.SmallTypes.nextOf (.ref i2)) (S2.done _ _ _ _ hh s2 fun g4 e b4 he => ?_)
      exact fin g4 e g3 he (b4 _ _ D.i2z.symm (b3.extBut _ _ D.TOz.symm (b2.extBut _ _ D.i1z.symm hz1'))) fun c o c1 c2 c3 c4 q => b4 _ _ c4 (b3.extBut _ _ c2 (b2.extBut _ _ c3 (b1.extBut _ _ c1 q)))
  · simp only [Bool.false_eq_true, if_false]
    have s1 : st1 k h0 := S1.keep _ _ _ h1 fun c hc o e => b0.extBut c o (by rcases hc with r | r <;> rw [r]; exact D.i1z; exact D.l1z) e
    rw [<- Array.forIn_toList]
    simp only [List.forIn_cons, List.forIn_nil]
    refine wpAny_bind (wpAny_bind (wpAny_bind (wpAny_holding ?_)))
    rcases hend with ⟨e1, _⟩ | ⟨e2, k1⟩
    · rw [e1] at s1
      refine wpAny_bind (m := Builtin.SmallTypes.nextOf (.ref i1)) (S1.done _ _ _ _ hh s1 fun g2 e b2 he => ?_)
      exact hE g2 e (fun c o c1 _ c3 _ q => b2 _ _ c3 (b0.extBut _ _ c1 q)) he
    · refine wpAny_bind (m := Builtin.SmallTypes.nextOf (.ref i1)) (S1.item _ k _ _ _ k1 s1 fun x g2 px t1 b2 => wpAny_pure ?_)
      refine wpAny_pure ?_
      have s2 : st2 n2 g2 := by
        rw [<- e2]
        exact S2.keep _ _ _ h2 fun c hc o e => by
          rcases hc with r | r
          · rw [r] at e ⊢; exact b2.extBut _ _ D.i12.symm (b0.extBut _ _ D.i2z e)
          · rw [r] at e ⊢; exact b2.extBut _ _ D.l2i1 (b0.extBut _ _ D.l2z e)
      refine wpAny_bind (wpAny_bind (wpAny_holding ?_))
      refine wpAny_bind (m := Builtin.SmallTypes.nextOf (.ref i2)) (S2.done _ _ _ _ hh s2 fun g4 e b4 he => ?_)
      exact hE g4 e (fun c o c1 c2 c3 c4 q => b4 _ _ c4 (b2.extBut _ _ c3 (b0.extBut _ _ c1 q))) he
structure ZipSt (h : Heap) (z TI TO i1 i2 : Addr) : Prop where
  hz : ∃ f0 f1, F0 f0 /\ fI h z TI TO f0 f1
  ti : IsPair h TI (.ref i1) (.ref i2)
  to : ∃ a b, IsPair h TO a b
theorem uP {e : Addr} {i : Nat} {old : Value} {Q : Value -> Shared -> Prop} (D : ZipApart z TI TO i1 i2 l1 l2) (S1 : Sub prog w i1 l1 n1 P1 st1) (S2 : Sub prog w i2 l2 n2 P2 st2) (he : IsEnum s.heap e z i old) (Z : ZipSt s.heap z TI TO i1 i2)
    (h1 : st1 i s.heap) (h2 : st2 i s.heap) (k1 : i < n1) (k2 : i < n2) (ne : e ≠ z /\ e ≠ TI /\ e ≠ TO /\ e ≠ i1 /\ e ≠ i2 /\ e ≠ l1 /\ e ≠ l2)
    (hQ : ∀ h' x y tk, P1 i x -> P2 i y -> IsEnumOut h' e z ((i : Int) + 1) (.ref s.heap.objs.size) (s.heap.objs.size + 1) -> ZipSt h' z TI TO i1 i2 -> st1 (i + 1) h' -> st2 (i + 1) h' -> IsPair h' s.heap.objs.size x y ->
      h'.get? (s.heap.objs.size + 1) = some { cls := .type "tuple", data := .seq #[.int i tk, .ref s.heap.objs.size] } ->
      (∀ c o, c ≠ e -> c ≠ z -> c ≠ TO -> c ≠ i1 -> c ≠ i2 -> s.heap.get? c = some o -> h'.get? c = some o) -> Q (.ref (s.heap.objs.size + 1)) { s with heap := h', toks := s.toks + 1 }) :
    wpAny (model prog w) A (Builtin.«enumerate.__next__» ⟨[.ref e], []⟩) (fun fin s' => ∃ v, fin = .done (.ret v) /\ Q v s') E s := by
  obtain ⟨⟨f0, f1, hf, hz⟩, hTI, ⟨a, b, hTO⟩⟩ := Z
  obtain ⟨ne1, ne2, ne3, ne4, ne5, ne6, ne7⟩ := ne
  have hTz : s.TypeIs (.ref z) "zip" := ⟨_, hz, rfl⟩
  refine wpAny_bind (m := field (.ref e) 2) (wpAny_field he rfl (x := .ref z) rfl ?_)
  refine wpAny_bind (m := Builtin.SmallTypes.nextOf (.ref z)) ?_
  unfold Builtin.SmallTypes.nextOf
  refine wpAny_bind (wpAny_callSpecial?_slot (name := Str.ofString "__next__") hTz PySem.F.slot_zip_next (wpAny_call_entry PySem.F.slot_zip_next hTz PySem.F.entry_zip_next
    (aA8 D S1 S2 hz hf hTI hTO h1 h2 k1 k2 fun g1 x y f0' f1' px py hf' hz' hTO' t1 t2 hp hsz kp => ?_) (PySem.F.args_zip_next_1 _)))
  refine wpAny_pure ?_
  have e1 : IsEnum g1 e z i old := kp _ _ ne1 ne3 ne4 ne5 he
  refine wpAny_bind (m := field (.ref e) 3) (wpAny_field e1 rfl (x := rawInt i) rfl ?_)
  refine wpAny_bind (m := field (.ref e) 4) (wpAny_field e1 rfl (x := .none) rfl ?_)
  refine wpAny_bind (m := mkInt i) (wpAny_mkInt ?_)
  refine wpAny_bind (m := setField (.ref e) 3 (rawInt ((i : Int) + 1))) (wpAny_setField_rec e1 (by simp) fun g2 e2 b2 => ?_)
  have e2' : IsEnum g2 e z ((i : Int) + 1) old := e2
  refine wpAny_bind (m := setField (.ref e) 4 .none) (wpAny_setField_rec e2' (by simp) fun g3 e3 b3 => ?_)
  have e3' : IsEnum g3 e z ((i : Int) + 1) old := e3
  refine wpAny_bind (m := newTuple [.int i s.toks, .ref s.heap.objs.size]) (wpAny_newTuple ?_)
  have sz : g3.objs.size = s.heap.objs.size + 1 := by rw [b3.1, b2.1, hsz]
  have e4 : IsEnum (g3.push { cls := .type "tuple", data := .seq #[.int i s.toks, .ref s.heap.objs.size] }) e z ((i : Int) + 1) old := Heap.get?_push_of_some _ e3'
  have T4 : (g3.push { cls := .type "tuple", data := .seq #[.int i s.toks, .ref s.heap.objs.size] }).get? (s.heap.objs.size + 1) = some { cls := .type "tuple", data := .seq #[.int i s.toks, .ref s.heap.objs.size] } := by rw [<- sz]; exact Heap.get?_push_size _ rfl
  have up4 : ∀ c o, c ≠ e -> g1.get? c = some o -> (g3.push { cls := .type "tuple", data := .seq #[.int i s.toks, .ref s.heap.objs.size] }).get? c = some o := fun c o c1 q => Heap.get?_push_of_some _ (b3.extBut _ _ c1 (b2.extBut _ _ c1 q))
  have elt : s.heap.objs.size + 1 ≠ e := Nat.ne_of_gt (Nat.lt_succ_of_lt (Heap.lt_size he))
  have elt0 : s.heap.objs.size ≠ e := Nat.ne_of_gt (Heap.lt_size he)
  rw [sz]
  generalize g3.push { cls := .type "tuple", data := .seq #[.int i s.toks, .ref s.heap.objs.size] } = g4 at e4 T4 up4 ⊢
  refine wpAny_bind (m := Builtin.SmallTypes.ownedTupleIsFree (.ref e)) ?_
  unfold Builtin.SmallTypes.ownedTupleIsFree
  refine wpAny_bind (wpAny_field e4 rfl (x := .none) rfl (wpAny_pure ?_))
  simp only [if_true]
  refine wpAny_bind (wpAny_rule ?_)
  refine wpAny_bind (wpAny_field e4 rfl (x := old) rfl ?_)
  refine wpAny_bind (wpAny_setField_rec e4 (by simp) fun g5 e5 b5 => ?_)
  have e5' : IsEnum g5 e z ((i : Int) + 1) (.ref s.heap.objs.size) := e5
  refine wpAny_bind (m := Builtin.SmallTypes.ownedTupleHandOut (.ref e) (.ref (s.heap.objs.size + 1))) ?_
  unfold Builtin.SmallTypes.ownedTupleHandOut
  refine wpAny_bind (wpAny_setField_rec e5' (by simp) fun g6 e6 b6 => ?_)
  have e6' : IsEnumOut g6 e z ((i : Int) + 1) (.ref s.heap.objs.size) (s.heap.objs.size + 1) := e6
  refine wpAny_setField_rec e6' (by simp) fun g7 e7 b7 => ?_
  have e7' : IsEnumOut g7 e z ((i : Int) + 1) (.ref s.heap.objs.size) (s.heap.objs.size + 1) := e7
  have up : ∀ c o, c ≠ e -> g4.get? c = some o -> g7.get? c = some o := fun c o c1 q => b7.extBut _ _ c1 (b6.extBut _ _ c1 (b5.extBut _ _ c1 q))
  have all : ∀ c o, c ≠ e -> g1.get? c = some o -> g7.get? c = some o := fun c o c1 q => up c o c1 (up4 c o c1 q)
  obtain ⟨a', b', hTO'⟩ := hTO'
  refine wpAny_bind (wpAny_letGo (wpAny_pure ⟨_, rfl, hQ g7 x y s.toks px py e7' ⟨⟨_, _, hf', all _ _ ne1.symm hz'⟩, all _ _ ne2.symm (kp _ _ D.TIz D.TITO D.TIi1 D.TIi2 hTI), ⟨_, _, all _ _ ne3.symm hTO'⟩⟩ (S1.keep _ _ _ t1 fun c hc o q => all c o ?_ q) (S2.keep _ _ _ t2 fun c hc o q => all c o ?_ q) (all _ _ elt0 hp) (up _ _ elt T4) fun c o c0 c1 c2 c3 c4 q => all c o c0 (kp c o c1 c2 c3 c4 q)⟩))
  · rcases hc with r | r <;> rw [r]
    · exact ne4.symm
    · exact ne6.symm
  · rcases hc with r | r <;> rw [r]
    · exact ne5.symm
    · exact ne7.symm
theorem wL {e : Addr} {i : Nat} {old : Value} {Q : Fin -> Shared -> Prop} (hh : A.handled = none) (D : ZipApart z TI TO i1 i2 l1 l2) (S1 : Sub prog w i1 l1 n1 P1 st1) (S2 : Sub prog w i2 l2 n2 P2 st2) (he : IsEnum s.heap e z i old) (Z : ZipSt s.heap z TI TO i1 i2)
    (h1 : st1 i s.heap) (h2 : st2 i s.heap) (hend : i = n1 /\ i <= n2 ∨ i = n2 /\ i < n1)
    (hE : ∀ h' x, (∀ c o, c ≠ z -> c ≠ TO -> c ≠ i1 -> c ≠ i2 -> s.heap.get? c = some o -> h'.get? c = some o) -> (∃ o, h'.get? x = some o /\ o.cls = .type "StopIteration") -> E (.ref x) { s with heap := h' }) :
    wpAny (model prog w) A (Builtin.«enumerate.__next__» ⟨[.ref e], []⟩) Q E s := by
  obtain ⟨⟨f0, f1, hf, hz⟩, hTI, ⟨a, b, hTO⟩⟩ := Z
  have hTz : s.TypeIs (.ref z) "zip" := ⟨_, hz, rfl⟩
  refine wpAny_bind (m := field (.ref e) 2) (wpAny_field he rfl (x := .ref z) rfl ?_)
  refine wpAny_bind (m := Builtin.SmallTypes.nextOf (.ref z)) ?_
  unfold Builtin.SmallTypes.nextOf
  exact wpAny_bind (wpAny_callSpecial?_slot (name := Str.ofString "__next__") hTz PySem.F.slot_zip_next (wpAny_call_entry PySem.F.slot_zip_next hTz PySem.F.entry_zip_next
    (aB7 hh D S1 S2 hz hf hTI hTO h1 h2 hend fun h' x kp hx => hE h' x kp hx) (PySem.F.args_zip_next_1 _)))
end
end L2
set_option Elab.async false
set_option linter.all false
set_option maxRecDepth 100000
namespace L2
open PySem PySem.Spec PyProof.Rows
def aA9 (K : PySem.W.Frag) (k1 k2 : Sk) (a b : Addr) : It :=
  ⟨fun i H => ∃ xs ys x y, SqK k1 K H a xs /\ SqK k2 K H b ys /\ xs[i]? = some x /\ ys[i]? = some y,
   fun i H v H' => ∃ p q, H p = none /\ H q = none /\ q ≠ p /\ v = .ref q /\ ∀ xs ys, SqK k1 K H a xs -> SqK k2 K H b ys -> ∃ x y, xs[i]? = some x /\ ys[i]? = some y /\ H' = upd (upd H p (.tup [x, y])) q (.tup [.int (i : Nat), .ref p]),
   fun i H => ∃ xs ys, SqK k1 K H a xs /\ SqK k2 K H b ys /\ min xs.length ys.length = i⟩
theorem sL {P : Program} {w : World} {K : PySem.W.Frag} {es : List Expr} {x1} {pos : Pos} (k1 k2 : Sk) (a b e z TI TO i1 i2 : Addr) (D : ∀ l1 l2 : Addr, (∀ c ∈ [e, z, TI, TO, i1, i2], l1 ≠ c) -> (∀ c ∈ [e, z, TI, TO, i1, i2], l2 ≠ c) -> ZipApart z TI TO i1 i2 l1 l2)
    (ne : e ≠ z /\ e ≠ TI /\ e ≠ TO /\ e ≠ i1 /\ e ≠ i2) :
    Turn P w K (.Tuple es x1 pos) (aA9 K k1 k2 a b) [e, z, TI, TO, i1, i2] e (fun i h => (∃ old, IsEnum h e z i old) /\ ZipSt h z TI TO i1 i2 /\ ItK k1 h i1 a i /\ ItK k2 h i2 b i) where
  mem := by simp
  obj := fun i h st c hc => by
    obtain ⟨⟨old, he⟩, ⟨⟨f0, f1, hf, hz⟩, hTI, ⟨x, y, hTO⟩⟩, h1, h2⟩ := st
    simp only [List.mem_cons, List.not_mem_nil, or_false] at hc
    rcases hc with rfl | rfl | rfl | rfl | rfl | rfl
    · exact ⟨_, he, fun v q => by cases q⟩
    · exact ⟨_, hz, fun v q => by cases q⟩
    · exact ⟨_, hTI, fun v q => by cases q⟩
    · exact ⟨_, hTO, fun v q => by cases q⟩
    · exact h1.obj
    · exact h2.obj
  keep := fun i h h' st k => by
    obtain ⟨⟨old, he⟩, ⟨⟨f0, f1, hf, hz⟩, hTI, ⟨x, y, hTO⟩⟩, h1, h2⟩ := st
    exact ⟨⟨old, k e (by simp) _ he⟩, ⟨⟨f0, f1, hf, k z (by simp) _ hz⟩, k TI (by simp) _ hTI, ⟨x, y, k TO (by simp) _ hTO⟩⟩, h1.at fun o e => k i1 (by simp) o e, h2.at fun o e => k i2 (by simp) o e⟩
  item := by
    intro X hP hw hK hc i pins s σ H E I hf st hg
    subst hP hw hK
    obtain ⟨⟨old, he⟩, Z, h1, h2⟩ := st
    obtain ⟨xs, ys, x, y, ha, hb, hx, hy⟩ := hg
    obtain ⟨its, rv, pa⟩ := I.seqK ha
    obtain ⟨jts, rw', pb⟩ := I.seqK hb
    obtain ⟨u, hu, ru⟩ := rv.get hx
    obtain ⟨v, hv, rv2⟩ := rw'.get hy
    have na : ∀ c ∈ [e, z, TI, TO, i1, i2], a ≠ c := fun c hc' => I.seq_ne ha (hf c hc')
    have nb : ∀ c ∈ [e, z, TI, TO, i1, i2], b ≠ c := fun c hc' => I.seq_ne hb (hf c hc')
    have DD := D a b na nb
    have hT : s.TypeIs (.ref e) "enumerate" := ⟨_, he, rfl⟩
    have hi1 : i < its.toArray.size := by rw [List.size_toArray]; exact (List.getElem?_eq_some_iff.mp hu).1
    have hi2 : i < jts.toArray.size := by rw [List.size_toArray]; exact (List.getElem?_eq_some_iff.mp hv).1
    unfold pyNext
    refine wpAny_bind (wpAny_attempt (wpAny_callSpecial?_slot (name := Str.ofString "__next__") hT PySem.F.slot_enumerate_next (wpAny_call_entry PySem.F.slot_enumerate_next hT PySem.F.entry_enumerate_next
      (uP DD (uB k1 X.prog X.w i1 a its.toArray (na i1 (by simp))) (uB k2 X.prog X.w i2 b jts.toArray (nb i2 (by simp))) he Z ⟨h1, pa⟩ ⟨h2, pb⟩ hi1 hi2
        ⟨ne.1, ne.2.1, ne.2.2.1, ne.2.2.2.1, ne.2.2.2.2, (na e (by simp)).symm, (nb e (by simp)).symm⟩ fun h' u' v' tk pu pv he' Z' s1 s2 hp1 hp2 kp => wpAny_pure ?_) (PySem.F.args_enumerate_next_1 _))))
    have eu : u' = u := by
      have q : its[i]? = some u' := by simpa using pu
      rw [hu] at q
      exact (Option.some.inj q).symm
    have ev : v' = v := by
      have q : jts[i]? = some v' := by simpa using pv
      rw [hv] at q
      exact (Option.some.inj q).symm
    subst eu ev
    refine ⟨_, rfl, wpAny_letOwnedTupleGo_enum he' fun h2' he2 sb2 => ?_⟩
    have T0 : s.heap.objs.size ≠ e := Nat.ne_of_gt (Heap.lt_size he)
    have T1 : s.heap.objs.size + 1 ≠ e := Nat.ne_of_gt (Nat.lt_succ_of_lt (Heap.lt_size he))
    have hp1' : IsPair h2' s.heap.objs.size u' v' := sb2.extBut _ _ T0 hp1
    have hp2' : h2'.get? (s.heap.objs.size + 1) = some { cls := .type "tuple", data := .seq #[.int i tk, .ref s.heap.objs.size] } := sb2.extBut _ _ T1 hp2
    have hf0 := I.hok.fresh (Nat.le_refl s.heap.objs.size)
    have hf1 := I.hok.fresh (Nat.le_succ s.heap.objs.size)
    have fz := I.fpOk (Nat.le_refl s.heap.objs.size) hf0
    have fz1 := I.fpOk (Nat.le_succ s.heap.objs.size) hf1
    have I2 : Inv X pins σ H { s with heap := h2', toks := s.toks + 1 } := by
      refine I.turnedL (t' := s.toks + 1) [e, z, TO, i1, i2] (fun c o hc' q => ?_) (fun c hc' => hf c ?_)
      · simp only [List.mem_cons, List.not_mem_nil, or_false, not_or] at hc'
        exact sb2.extBut _ _ hc'.1 (kp c o hc'.1 hc'.2.1 hc'.2.2.1 hc'.2.2.2.1 hc'.2.2.2.2 q)
      · simp only [List.mem_cons, List.not_mem_nil, or_false] at hc' ⊢
        rcases hc' with r | r | r | r | r
        · exact .inl r
        · exact .inr (.inl r)
        · exact .inr (.inr (.inr (.inl r)))
        · exact .inr (.inr (.inr (.inr (.inl r))))
        · exact .inr (.inr (.inr (.inr (.inr r))))
    have I3 : Inv X pins σ (upd H s.heap.objs.size (.tup [x, y])) { s with heap := h2', toks := s.toks + 1 } := by
      refine I2.trackO (show bO X.prog X.w _ _ _ (.tup [x, y]) from ⟨by show 2 <= sizeLine; rw [sizeLine_eq]; decide, [u', v'], 0, .cons ru (.cons rv2 .nil), hp1'⟩) hf0 fz.2.1 I.sz fz.2.2.2.2.1 fz.2.2.2.2.2
    have nn : s.heap.objs.size + 1 ≠ s.heap.objs.size := Nat.succ_ne_self _
    have I4 : Inv X pins σ (upd (upd H s.heap.objs.size (.tup [x, y])) (s.heap.objs.size + 1) (.tup [.int (i : Nat), .ref s.heap.objs.size])) { s with heap := h2', toks := s.toks + 1 } := by
      refine I3.trackO (show bO X.prog X.w _ _ _ (.tup [.int (i : Nat), .ref s.heap.objs.size]) from ⟨by show 2 <= sizeLine; rw [sizeLine_eq]; decide, [.int i tk, .ref s.heap.objs.size], 0, .cons ⟨tk, rfl⟩ (.cons rfl .nil), hp2'⟩) (by rw [aI nn]; exact hf1) fz1.2.1 (Nat.le_trans I.sz (Nat.le_succ _)) fz1.2.2.2.2.1 fz1.2.2.2.2.2
    obtain ⟨⟨g0, g1, hg, hz'⟩, hTI', ⟨a', b', hTO'⟩⟩ := Z'
    refine ⟨.ref (s.heap.objs.size + 1), _, I4, rfl, ⟨s.heap.objs.size, s.heap.objs.size + 1, hf0, hf1, nn, rfl, fun xs' ys' ha' hb' => ?_⟩, ⟨⟨_, by simpa using he2⟩, ⟨⟨g0, g1, hg, sb2.extBut _ _ ne.1.symm hz'⟩, sb2.extBut _ _ ne.2.1.symm hTI', ⟨_, _, sb2.extBut _ _ ne.2.2.1.symm hTO'⟩⟩, s1.1.at fun o q => sb2.extBut _ _ ne.2.2.2.1.symm q, s2.1.at fun o q => sb2.extBut _ _ ne.2.2.2.2.symm q⟩, fun c hc' => ?_⟩
    · rw [I.seqK_inj ha' ha, I.seqK_inj hb' hb]
      exact ⟨x, y, hx, hy, rfl⟩
    · have cl : c < s.heap.objs.size := by
        obtain ⟨o, q⟩ : ∃ o, s.heap.get? c = some o := by
          obtain ⟨⟨f0, f1, hf', hz⟩, hTI, ⟨x', y', hTO⟩⟩ := Z
          simp only [List.mem_cons, List.not_mem_nil, or_false] at hc'
          rcases hc' with rfl | rfl | rfl | rfl | rfl | rfl
          · exact ⟨_, he⟩
          · exact ⟨_, hz⟩
          · exact ⟨_, hTI⟩
          · exact ⟨_, hTO⟩
          · obtain ⟨o, q, _⟩ := h1.obj; exact ⟨o, q⟩
          · obtain ⟨o, q, _⟩ := h2.obj; exact ⟨o, q⟩
        exact Heap.lt_size q
      rw [aI (Nat.ne_of_lt (Nat.lt_succ_of_lt cl)), aI (Nat.ne_of_lt cl)]
      exact (hf c hc').1
  done := by
    intro X hP hw hK hc i pins s σ H E I hf st hg
    subst hP hw hK
    obtain ⟨⟨old, he⟩, Z, h1, h2⟩ := st
    obtain ⟨xs, ys, ha, hb, hmin⟩ := hg
    obtain ⟨its, rv, pa⟩ := I.seqK ha
    obtain ⟨jts, rw', pb⟩ := I.seqK hb
    have la := rv.length
    have lb := rw'.length
    have na : ∀ c ∈ [e, z, TI, TO, i1, i2], a ≠ c := fun c hc' => I.seq_ne ha (hf c hc')
    have nb : ∀ c ∈ [e, z, TI, TO, i1, i2], b ≠ c := fun c hc' => I.seq_ne hb (hf c hc')
    have DD := D a b na nb
    have hT : s.TypeIs (.ref e) "enumerate" := ⟨_, he, rfl⟩
    unfold pyNext
    refine wpAny_bind (wpAny_attempt (wpAny_callSpecial?_slot (name := Str.ofString "__next__") hT PySem.F.slot_enumerate_next (wpAny_call_entry PySem.F.slot_enumerate_next hT PySem.F.entry_enumerate_next
      (wL (I.ok.hd hc) DD (uB k1 X.prog X.w i1 a its.toArray (na i1 (by simp))) (uB k2 X.prog X.w i2 b jts.toArray (nb i2 (by simp))) he Z ⟨h1, pa⟩ ⟨h2, pb⟩ (by rw [List.size_toArray, List.size_toArray]; omega) fun h' x kp hx => ?_) (PySem.F.args_enumerate_next_1 _))))
    obtain ⟨oe, hoe, hce⟩ := hx
    refine wpAny_bind (wpAny_isInstance (T := "StopIteration") (b := true) ⟨oe, hoe, hce⟩ isSubtype_stop (wpAny_pure ⟨rfl, ?_⟩))
    refine I.turnedL (t' := s.toks) [z, TO, i1, i2] (fun c o hc' q => ?_) (fun c hc' => hf c ?_)
    · simp only [List.mem_cons, List.not_mem_nil, or_false, not_or] at hc'
      exact kp c o hc'.1 hc'.2.1 hc'.2.2.1 hc'.2.2.2 q
    · simp only [List.mem_cons, List.not_mem_nil, or_false] at hc' ⊢
      rcases hc' with r | r | r | r
      · exact .inr (.inl r)
      · exact .inr (.inr (.inr (.inl r)))
      · exact .inr (.inr (.inr (.inr (.inl r))))
      · exact .inr (.inr (.inr (.inr (.inr r))))
  self := fun _ _ _ _ _ st h => by
    obtain ⟨⟨old, he⟩, _⟩ := st
    exact wpAny_pyIter_enum he h
theorem pV (z TI TO : Addr) :
    Meets (Builtin.«enumerate.__new__» ⟨[.type "enumerate", .ref z], []⟩) (fun _ R s => IsZip s.heap z TI TO .none /\
      R (.ok (.ret (.ref s.heap.objs.size))) { s with heap := s.heap.push { cls := .type "enumerate", data := .fields #[.none, .bool false, .ref z, rawInt 0, .none, .none] } }) :=
  .of_wp fun prog w A R s h => by
    obtain ⟨hp, g, d, tk, os⟩ := s
    obtain ⟨hl, h⟩ := h
    have hsub := sub_enumerate
    have hZ : IsZip (Shared.heap ⟨hp, g, d, tk, os⟩) z TI TO .none := hl
    wp_walk using AutoSeq1.wpAny_loadPart' hZ
    refine wpAny_stack_any fun st => wpAny_pure ?_
    split
    · rename_i c _ _ _ _ _
      cases (c == Value.type "enumerate")
      · wp_walk using AutoSeq1.wpAny_loadPart' hZ, wpAny_pyIter_zip hZ
        exact ⟨_, rfl, h⟩
      · wp_walk using AutoSeq1.wpAny_loadPart' hZ, wpAny_pyIter_zip hZ
        exact ⟨_, rfl, h⟩
    · wp_walk using AutoSeq1.wpAny_loadPart' hZ, wpAny_pyIter_zip hZ
      exact ⟨_, rfl, h⟩
section
variable {X : Cx} {es : List Expr} {x1 : Nat} {tpos : Pos}
def aBa (K : PySem.W.Frag) (k1 k2 : Sk) (ta : TA) : TI := fun σ H R => ta σ H fun vs H1 => ∃ a b xs ys, vs = [.ref a, .ref b] /\ SqK k1 K H1 a xs /\ SqK k2 K H1 b ys /\ R (aA9 K k1 k2 a b) H1
theorem wM (k1 k2 : Sk) {a b : Expr} {ta : TA} {p pos p' pos' : Pos} (hg : Gl X "enumerate") (hm : X.mg "enumerate" = none) (hg2 : Gl X "zip") (hm2 : X.mg "zip" = none) (ha : PA X [a, b] ta)
    (hs : starEach [a, b] X.env = [(false, eval a X.env), (false, eval b X.env)] := by rfl) (hs2 : starEach [b] X.env = [(false, eval b X.env)] := by rfl)
    (hs3 : starEach [Expr.Call (.Name "zip" p') [a, b] [] pos'] X.env = [(false, eval (.Call (.Name "zip" p') [a, b] [] pos') X.env)] := by rfl) :
    PI X (.Tuple es x1 tpos) (.Call (.Name "enumerate" p) [.Call (.Name "zip" p') [a, b] [] pos'] [] pos) (aBa X.K k1 k2 ta) := by
  intro pins s σ H R I h
  refine Call_ (iM (u := .type "enumerate") I hg hm (by decide +kernel) (PyProof.Rows.callWith_type1 ?_ hs3 rfl))
  rw [hs3]
  show wpAny _ _ (spliced ((false, eval (.Call (.Name "zip" p') [a, b] [] pos') X.env) :: [])) _ _ s
  refine Calls.spliced_cons ?_
  refine Call_ (iM (u := .type "zip") I hg2 hm2 (by decide +kernel) (PyProof.Rows.callWith_type1 (thn (ha pos' pins s σ H _ I h) fun us s1 hx9 => ?_) (by rw [hs, hs2]) (by rw [hs2]; rfl)))
  obtain ⟨vs, H1, I1, r1, q1⟩ := hx9
  obtain ⟨l1, l2, xs, ys, rfl, hA, hB, q⟩ := q1
  obtain ⟨u1, u2, rfl, r1', r2'⟩ := mS r1
  cases r1'
  cases r2'
  obtain ⟨its, rv, pa⟩ := I1.seqK hA
  obtain ⟨jts, rw', pb⟩ := I1.seqK hB
  refine callType_new PySem.F.called_zip (by decide) (PySem.F.typeCall_zip_2 _ _) (PySem.F.newCall_zip_2 _ _) (fun obj => PySem.F.args_object_init_3 obj _ _) PySem.F.entry_zip_new (uC k1 k2 l1 l2 its.toArray jts.toArray) ⟨pa, pb, ?_⟩
  have n1 : (zh1 k1 s1.heap l1).objs.size = s1.heap.objs.size + 1 := Heap.size_push ..
  have n2 : (zh2 k1 k2 s1.heap l1 l2).objs.size = s1.heap.objs.size + 2 := by rw [Heap.size_push, n1]
  have n3 : (zh3 k1 k2 s1.heap l1 l2).objs.size = s1.heap.objs.size + 3 := by rw [Heap.size_push, n2]
  have n4 : (zh4 k1 k2 s1.heap l1 l2).objs.size = s1.heap.objs.size + 4 := by rw [Heap.size_push, n3]
  have n5 : (zh5 k1 k2 s1.heap l1 l2).objs.size = s1.heap.objs.size + 5 := by rw [Heap.size_push, n4]
  have g5 : IsZip (zh5 k1 k2 s1.heap l1 l2) (zh4 k1 k2 s1.heap l1 l2).objs.size (zh2 k1 k2 s1.heap l1 l2).objs.size (zh3 k1 k2 s1.heap l1 l2).objs.size .none := Heap.get?_push_size _ rfl
  have g4 : IsPair (zh5 k1 k2 s1.heap l1 l2) (zh3 k1 k2 s1.heap l1 l2).objs.size .none .none := Heap.get?_push_of_some _ (Heap.get?_push_size _ rfl)
  have g3 : IsPair (zh5 k1 k2 s1.heap l1 l2) (zh2 k1 k2 s1.heap l1 l2).objs.size (.ref s1.heap.objs.size) (.ref (zh1 k1 s1.heap l1).objs.size) := Heap.get?_push_of_some _ (Heap.get?_push_of_some _ (Heap.get?_push_size _ rfl))
  have g2 : ItK k2 (zh5 k1 k2 s1.heap l1 l2) (zh1 k1 s1.heap l1).objs.size l2 0 := (ItK.new k2 (zh1 k1 s1.heap l1) l2).at fun o e => Heap.get?_push_of_some _ (Heap.get?_push_of_some _ (Heap.get?_push_of_some _ e))
  have g1 : ItK k1 (zh5 k1 k2 s1.heap l1 l2) s1.heap.objs.size l1 0 := (ItK.new k1 s1.heap l1).at fun o e => Heap.get?_push_of_some _ (Heap.get?_push_of_some _ (Heap.get?_push_of_some _ (Heap.get?_push_of_some _ e)))
  have kp : ∀ c o, s1.heap.get? c = some o -> (zh5 k1 k2 s1.heap l1 l2).get? c = some o := fun c o e => Heap.get?_push_of_some _ (Heap.get?_push_of_some _ (Heap.get?_push_of_some _ (Heap.get?_push_of_some _ (Heap.get?_push_of_some _ e))))
  refine ⟨⟨_, g5, rfl⟩, Calls.spliced_nil ?_⟩
  rw [n1, n2, n3, n4] at *
  generalize zh5 k1 k2 s1.heap l1 l2 = hz5 at *
  refine callType_new PySem.F.called_enumerate (by decide) (PySem.F.typeCall_enumerate_1 _) (PySem.F.newCall_enumerate_1 _) (fun obj => PySem.F.args_object_init_2 obj _) PySem.F.entry_enumerate_new (pV (s1.heap.objs.size + 4) (s1.heap.objs.size + 2) (s1.heap.objs.size + 3)) ⟨g5, ?_⟩
  have ge : IsEnum (hz5.push { cls := .type "enumerate", data := .fields #[.none, .bool false, .ref (s1.heap.objs.size + 4), rawInt 0, .none, .none] }) hz5.objs.size (s1.heap.objs.size + 4) 0 .none := Heap.get?_push_size _ rfl
  have kp6 : ∀ c o, hz5.get? c = some o -> (hz5.push { cls := .type "enumerate", data := .fields #[.none, .bool false, .ref (s1.heap.objs.size + 4), rawInt 0, .none, .none] }).get? c = some o := fun c o e => Heap.get?_push_of_some _ e
  rw [n5] at ge
  show (∃ _, _) /\ _
  rw [n5]
  generalize hz5.push { cls := .type "enumerate", data := .fields #[.none, .bool false, .ref (s1.heap.objs.size + 4), rawInt 0, .none, .none] } = h6 at ge kp6 ⊢
  refine ⟨⟨_, ge, rfl⟩, wpAny_pyIter_enum ge ?_⟩
  have I2 : Inv X pins σ H1 { s1 with heap := h6 } := I1.kept (t' := s1.toks) fun c o e => kp6 c o (kp c o e)
  have d : ∀ i j : Nat, i ≠ j -> s1.heap.objs.size + i ≠ s1.heap.objs.size + j := fun i j h => by omega
  refine ⟨s1.heap.objs.size + 5, [s1.heap.objs.size + 5, s1.heap.objs.size + 4, s1.heap.objs.size + 2, s1.heap.objs.size + 3, s1.heap.objs.size, s1.heap.objs.size + 1], _, _, H1, rfl, I2, sL k1 k2 l1 l2 _ _ _ _ _ _ ?_ ⟨d 5 4 (by decide), d 5 2 (by decide), d 5 3 (by decide), d 5 0 (by decide), d 5 1 (by decide)⟩, ⟨⟨_, ge⟩, ⟨⟨_, _, .inl rfl, kp6 _ _ g5⟩, kp6 _ _ g3, ⟨_, _, kp6 _ _ g4⟩⟩, g1.at fun o e => kp6 _ _ e, g2.at fun o e => kp6 _ _ e⟩, fun c hc => ?_, q⟩
  · intro m1 m2 h1 h2
    exact ⟨d 2 4 (by decide), d 3 4 (by decide), d 0 4 (by decide), d 1 4 (by decide), d 2 3 (by decide), d 2 0 (by decide), d 2 1 (by decide), d 3 0 (by decide), d 3 1 (by decide), d 0 1 (by decide),
      h1 _ (by simp), h1 _ (by simp), h1 _ (by simp), h1 _ (by simp), h2 _ (by simp), h2 _ (by simp), h2 _ (by simp), h2 _ (by simp)⟩
  · have hc' : s1.heap.objs.size <= c := by
      simp only [List.mem_cons, List.not_mem_nil, or_false] at hc
      rcases hc with r | r | r | r | r | r <;> rw [r]
      all_goals first | exact Nat.le_refl _ | exact Nat.le_add_right _ _
    exact I1.fpOk hc' (I1.hok.fresh hc')
end
theorem uQ {K : PySem.W.Frag} {k1 k2 : Sk} {a b : Addr} {xs ys : List V} {g : TG} {tb : TS} {D : Ends} {σ : St} {H : Hp} (Pv : Nat -> St -> Hp -> Prop) (heq : xs.length = ys.length) (h0 : Pv 0 σ H) (hl : ∀ i σ H, i <= xs.length -> Pv i σ H -> SqK k1 K H a xs /\ SqK k2 K H b ys)
    (hs : ∀ i x y p q σ H, xs[i]? = some x -> ys[i]? = some y -> Pv i σ H -> H p = none -> H q = none -> q ≠ p -> g (.ref q) σ (upd (upd H p (.tup [x, y])) q (.tup [.int (i : Nat), .ref p])) fun σ2 H2 => tb { D with nx := Pv (i + 1), ct := Pv (i + 1), bk := D.nx } σ2 H2) (hd : ∀ σ H, Pv xs.length σ H -> D.nx σ H) :
    ∃ W : Nat -> Nat -> St -> Hp -> Prop, (∃ m, W 0 m σ H) /\ ∀ i m σ H, W i m σ H ->
      ((aA9 K k1 k2 a b).stop i H /\ D.nx σ H) ∨ ((aA9 K k1 k2 a b).go i H /\ ∃ N : St -> Hp -> Prop, (∀ σ' H', N σ' H' -> ∃ m', m' < m /\ W (i + 1) m' σ' H') /\ ∀ x H', (aA9 K k1 k2 a b).yld i H x H' -> g x σ H' fun σ2 H2 => tb { D with nx := N, ct := N, bk := D.nx } σ2 H2) := by
  refine ⟨fun i m σ H => m = xs.length - i /\ i <= xs.length /\ Pv i σ H, ⟨xs.length, by simp, Nat.zero_le _, h0⟩, ?_⟩
  rintro i m σ H ⟨rfl, hi, p⟩
  obtain ⟨q1, q2⟩ := hl i σ H hi p
  by_cases hlt : i < xs.length
  · refine .inr ⟨⟨xs, ys, xs[i], ys[i]'(by omega), q1, q2, List.getElem?_eq_getElem hlt, List.getElem?_eq_getElem (by omega)⟩, Pv (i + 1), fun σ' H' p' => ⟨xs.length - (i + 1), by omega, rfl, hlt, p'⟩, fun x H' y => ?_⟩
    obtain ⟨p1, q1', hp1, hq1, hne, rfl, hy⟩ := y
    obtain ⟨x, y, h1, h2, rfl⟩ := hy xs ys q1 q2
    exact hs i x y p1 q1' σ H h1 h2 p hp1 hq1 hne
  · have e : i = xs.length := by omega
    subst e
    exact .inl ⟨⟨xs, ys, q1, q2, by rw [<- heq, Nat.min_self]⟩, hd σ H p⟩
end L2
set_option Elab.async false
set_option linter.all false
namespace L2
open PySem
end L2
set_option Elab.async false
set_option linter.all false
namespace L2
open PySem
section
variable {X : Cx} {K : PySem.W.Frag} {pos : Pos}
theorem kIn (hK : X.K = K) : OpR X (compareOp .In) (rIn K false) := by subst hK; exact mB
end
section
variable {α β γ δ ε ζ η θ ι κ : Type}
end
end L2
set_option Elab.async false
set_option linter.all false
set_option maxRecDepth 100000
namespace L2
open PySem PySem.Spec PyProof.Rows
section
variable {X : Cx}
end
section
variable {K : PySem.W.Frag} {own : Nat} {fr : List Nat} {g : TG} {te : TE} {σ : St} {H : Hp} {Qf : Hp -> List V -> Prop}
end
end L2
set_option Elab.async false
set_option linter.all false
set_option maxRecDepth 100000
namespace L2
open PySem PySem.Spec PyProof.Rows
structure Tb (L : Bool) (t : SetTable) (n m : Nat) : Prop where
  mask : (t.mask = 7 /\ n <= m) ∨ (t.mask = 31 /\ n <= 12)
  dums : t.dummies = #[]
  plain : t.plain = true
  led : t.led = L
  size : t.place.size = n
  rise : t.place.toList.Pairwise (· < ·)
theorem Tb.fits {L : Bool} {t : SetTable} {n m : Nat} (T : Tb L t n m) (hm : m <= 6) : t.fits n = true := by
  unfold SetTable.fits SetTable.fill
  rw [T.size, T.dums]
  have : n + (#[] : Array Nat).size <= t.mask := by
    show n + 0 <= _
    rcases T.mask with ⟨a, b⟩ | ⟨a, b⟩ <;> omega
  rw [decide_eq_true this, beq_self_eq_true]
  rfl
end L2
set_option Elab.async false
set_option linter.all false
set_option maxRecDepth 100000
namespace L2
open PySem PySem.Spec PyProof.Rows
end L2
set_option Elab.async false
set_option linter.all false
set_option maxRecDepth 100000
namespace L2
open PySem PySem.Spec PyProof.Rows
def ent (p : Int × Tok) : Int × Value := (hashInt p.1, .int p.1 p.2)
def SG (L : Bool) (h : Heap) (a : Addr) (ks : List (Int × Tok)) : Prop := ∃ o ep es t, h.get? a = some o /\ o.ExactSet /\ o.data = .set es ep t /\ es.toList.Perm (ks.map ent) /\ Tb L t es.size 4
theorem SG.keep {L : Bool} {h h' : Heap} {a : Addr} {l : List (Int × Tok)} (x : SG L h a l) (k : ∀ o, h.get? a = some o -> h'.get? a = some o) : SG L h' a l := by
  obtain ⟨o, ep, es, t, e, r⟩ := x
  exact ⟨o, ep, es, t, k o e, r⟩
section
variable {prog : Program} {w : World} {A : Around} {E : Value -> Shared -> Prop} {s : Shared} {L : Bool} {a : Addr}
structure KsOf (ks : List (Int × Tok)) (ns : List Int) : Prop where
  nd : (ks.map (·.1)).Nodup
  mem : ∀ k, k ∈ ks.map (·.1) ↔ k ∈ ns
  len : ks.length <= ns.length
end
end L2
set_option Elab.async false
set_option linter.all false
set_option maxRecDepth 100000
namespace L2
open PySem PySem.Spec PyProof.Rows
section
variable {prog : Program} {w : World} {A : Around} {E : Value -> Shared -> Prop} {s : Shared} {S : Addr} {o : Obj} {ep : Nat} {es : Array (Int × Value)} {t : SetTable}
end
section
variable {X : Cx}
end
end L2
set_option Elab.async false
set_option linter.all false
set_option maxRecDepth 100000
namespace L2
open PySem PySem.Spec PyProof.Rows
open PySem.AutoSeq1 (wpAny_loadPart')
end L2
set_option Elab.async false
set_option linter.all false
set_option maxRecDepth 100000
namespace L2
open PySem PySem.Spec PyProof.Rows
structure Zip3Apart (z TI TO i1 i2 i3 l1 l2 l3 : Addr) : Prop where
  TIz : TI ≠ z
  TOz : TO ≠ z
  i1z : i1 ≠ z
  i2z : i2 ≠ z
  i3z : i3 ≠ z
  TITO : TI ≠ TO
  TIi1 : TI ≠ i1
  TIi2 : TI ≠ i2
  TIi3 : TI ≠ i3
  TOi1 : TO ≠ i1
  TOi2 : TO ≠ i2
  TOi3 : TO ≠ i3
  i12 : i1 ≠ i2
  i13 : i1 ≠ i3
  i23 : i2 ≠ i3
  l1 : ∀ c ∈ [z, TO, i1, i2, i3], l1 ≠ c
  l2 : ∀ c ∈ [z, TO, i1, i2, i3], l2 ≠ c
  l3 : ∀ c ∈ [z, TO, i1, i2, i3], l3 ≠ c
section
variable {prog : Program} {w : World} {A : Around} {E : Value -> Shared -> Prop} {s : Shared} {z TI TO i1 i2 i3 l1 l2 l3 : Addr} {n n2 n3 : Nat} {P1 P2 P3 : Nat -> Value -> Prop} {st1 st2 st3 : Nat -> Heap -> Prop}
end
end L2
set_option Elab.async false
set_option linter.all false
set_option maxRecDepth 100000
namespace L2
open PySem PySem.Spec PyProof.Rows
section
variable (k1 k2 k3 : Sk) (h : Heap) (a b d : Addr)
end
section
variable {X : Cx} {es : List Expr} {x1 : Nat} {tpos : Pos}
end
end L2
set_option Elab.async false
set_option linter.all false
set_option maxRecDepth 100000
namespace L2
open PySem PySem.Spec PyProof.Rows
section
variable {K : PySem.W.Frag} {own : Nat} {fr : List Nat} {g : TG} {te : TE} {σ : St} {H : Hp} {Qf : Hp -> List V -> Prop}
end
end L2
set_option Elab.async false
set_option linter.all false
set_option maxRecDepth 100000
namespace L2
open PySem PySem.Spec PyProof.Rows
section
variable {X : Cx} {K : PySem.W.Frag}
end
end L2
set_option Elab.async false
set_option linter.all false
set_option maxRecDepth 100000
namespace L2
open PySem PySem.Spec PyProof.Rows
section
variable {X : Cx} {scope : Scope} {own frn : List Str} {fr : List Nat} {kx vx tg iter : Expr} {ifs : List Expr} {pos : Pos} {wi : TI} {g : TG} {tt : TT} {tk tv : TE}
end
end L2
set_option Elab.async false
set_option linter.all false
set_option maxRecDepth 100000
namespace L2
open PySem PySem.Spec PyProof.Rows
section
variable {X : Cx} {scope : Scope} {own frn : List Str} {fr : List Nat} {e elt tg d : Expr} {ifs : List Expr} {pos : Pos} {t td : TE} {g : TG} {tt : TT} {te : TE}
end
end L2
set_option Elab.async false
set_option linter.all false
set_option maxRecDepth 100000
namespace L2
open PySem PySem.Spec PyProof.Rows
def aB8 : V -> List V -> Hp -> VK -> Prop := fun x vs H Q => ∃ l xs i y, x = .ref l /\ vs = [.int i, y] /\ H l = some (.lst xs) /\ 0 <= i /\ i <= xs.length /\ xs.length < sizeLine /\ Q .non (upd H l (.lst (xs.take i.toNat ++ y :: xs.drop i.toNat)))
section
variable {X : Cx}
theorem qO : MtM X "list.insert" aB8 := by
  intro pins s σ H x vs v us Q I rx rv h
  obtain ⟨l, xs, i, y, rfl, rfl, hH, h0, h1, hz, q⟩ := h
  cases rx
  obtain ⟨u, u2, rfl, ru, ry⟩ := rv.two
  obtain ⟨t, rfl⟩ := ru
  obtain ⟨z, its, n, r, hl, e⟩ := I.lstM hH
  have hil : i.toNat <= its.length := by omega
  have hsz : sizeLine < 2 ^ 62 := by rw [sizeLine_eq]; decide
  refine call_meets F.slot_list_insert ⟨_, e, rfl⟩ F.entry_list_insert (F.args_list_insert_3 _ _ _)
    (AutoSeq1.list_insert_list_int_val_1 l its.toArray n i t u2 (by rw [fitsIndex_both (by omega) (by omega)]; decide) (by rw [List.size_toArray]; omega)) ⟨e, ?_⟩
  refine ⟨.non, _, I.lset (its' := its.take i.toNat ++ u2 :: its.drop i.toNat) hH e ?_ ((r.take _).append (.cons ry (r.drop _))) ?_, rfl, q⟩
  · have e1 : ¬ i < 0 := by omega
    have e2 : min i.toNat its.length = i.toNat := by omega
    simp only [e1, if_false, List.size_toArray, e2]
    apply Array.ext'
    simp
    exact List.take_of_length_le (by rw [List.length_drop]; exact Nat.le_refl _)
  · rw [List.length_append, List.length_cons, List.length_take, List.length_drop]
    omega
end
end L2
set_option Elab.async false
set_option linter.all false
set_option maxRecDepth 100000
namespace L2
open PySem PySem.Spec PyProof.Rows
structure Fn (K : PySem.W.Frag) (mg : Str -> Option Value) (x : Str) (st : Stmt) (ps : List Str) (f : Addr) (fd : FuncData) : Prop where
  fn : Fun K x x st f fd
  mgx : mg x = some (.ref f)
  kp : PySem.W.keepIn K (.ref f) = true
  bd : qC K fd ps []
theorem aQ {X : Cx} {x : Str} {st : Stmt} {ps : List Str} {f : Addr} {fd : FuncData} {k : Nat} {sp : Sp} {p pos : Pos} {e : Expr} {es : List Expr} {t : TA} (G : Fn X.K X.mg x st ps f fd) (ok : FnOk X.prog X.w X.K X.mg X.base CX0 k f fd ps sp) (hr : Room k X.A) (hg : Gl X x) (ha : PA X (e :: es) t)
    (hdb : (x == ("__debug__" : Str)) = false := by decide) (he : starEach (e :: es) X.env = (false, eval e X.env) :: starEach es X.env := by rfl) (hpl : (backTo pos (starEach es X.env)).any (·.1) = false := by rfl) :
    PE X (.Call (.Name x p) (e :: es) [] pos) (aCx sp [] E0 t) := aBQ ok hr hg G.mgx G.kp G.bd .nil aDL ha hdb he hpl
structure Bl (mg : Str -> Option Value) : Prop where
  isinstance : mg "isinstance" = none
  int : mg "int" = none
  bool : mg "bool" = none
  tuple : mg "tuple" = none
  list : mg "list" = none
  len : mg "len" = none
  all : mg "all" = none
  zip : mg "zip" = none
  range : mg "range" = none
  sorted : mg "sorted" = none
  set : mg "set" = none
  sum : mg "sum" = none
  repr : mg "repr" = none
  enumerate : mg "enumerate" = none
  min : mg "min" = none
  any : mg "any" = none
  hands : ∃ t, mg "MOST_HANDS" = some (.int 6 t)
  works : ∃ t, mg "MOST_WORKS" = some (.int 12 t)
theorem lK : bootBuiltins "isinstance" = some (.builtin "isinstance") := by decide +kernel
theorem aDX : bootBuiltins "int" = some (.type "int") := by decide +kernel
theorem aDa : bootBuiltins "bool" = some (.type "bool") := by decide +kernel
theorem cH : bootBuiltins "tuple" = some (.type "tuple") := by decide +kernel
theorem aBb : bootBuiltins "list" = some (.type "list") := by decide +kernel
theorem fP : bootBuiltins "len" = some (.builtin "len") := by decide +kernel
theorem qP : bootBuiltins "all" = some (.builtin "all") := by decide +kernel
theorem aB9 : bootBuiltins "range" = some (.type "range") := by decide +kernel
theorem uR : bootBuiltins "sorted" = some (.builtin "sorted") := by decide +kernel
theorem aCE : bootBuiltins "set" = some (.type "set") := by decide +kernel
theorem aDY : bootBuiltins "sum" = some (.builtin "sum") := by decide +kernel
end L2
namespace Ab
open PySem L2
def top (i : Nat) : Stmt := PySem.Challenge.pw_ablehands_k12_whole_by_every_measure.main.body.getD i (.Pass ⟨0, 0, 0, 0⟩)
abbrev kP : Stmt := top 8
abbrev oG : Stmt := top 9
abbrev oH : Stmt := top 10
abbrev oI : Stmt := top 11
abbrev sM : Stmt := top 12
abbrev wN : Stmt := top 13
abbrev wO : Stmt := top 14
abbrev jG : Stmt := top 16
abbrev wP : Stmt := top 17
abbrev gX : Stmt := top 18
abbrev aBc : Stmt := top 19
abbrev kQ : Stmt := top 20
abbrev jH : Stmt := top 22
abbrev lL : Stmt := top 23
abbrev sN : Stmt := top 24
abbrev oJ : Stmt := top 26
abbrev uS : Stmt := top 27
abbrev mH : Stmt := top 28
abbrev uT : Stmt := top 29
abbrev lM : Stmt := top 30
abbrev jQ : Stmt := top 32
abbrev wQ : Stmt := top 33
abbrev gO : Stmt := top 34
abbrev jI : Stmt := top 35
abbrev yF : Stmt := top 37
abbrev kR : Stmt := top 38
abbrev qQ : Stmt := top 39
abbrev yG : Stmt := top 40
abbrev uU : Stmt := top 41
abbrev nF : Stmt := top 42
abbrev yH : Stmt := top 43
abbrev oK : Stmt := top 44
abbrev aDb : Stmt := top 45
def gC : PyData -> Bool
  | .int _ => true
  | _ => false
def gY : PyData -> Bool
  | .int i => decide (1 <= i) && decide (i <= 6)
  | _ => false
def cY (hands : Int) : Int -> List PyData -> Bool
  | _, [] => true
  | last, .int i :: r => decide (last < i) && decide (i < hands) && cY hands i r
  | _, _ :: _ => false
def cA (hands : Int) : PyData -> Bool
  | .tuple ds => !ds.isEmpty && cY hands (-1) ds
  | _ => false
def aDc : PyData -> PyData -> Bool
  | .int h, .tuple ws => decide (1 <= h) && decide (h <= 6) && decide (ws.length <= 12) && ws.all (cA h)
  | _, _ => false
def cI : PyData -> Bool
  | .tuple [dh, dw] => aDc dh dw
  | _ => false
section
variable {P : Program} {w : World} {K : PySem.W.Frag} {mg : Str -> Option Value} {base : Heap}
def jR (K : PySem.W.Frag) : Sp := fun vs H Q _ => ∃ x d, vs = [x] /\ Den K H d x /\ Q (.bl (gC d)) H
theorem aCa : FnScope ["thing"] ["thing"] (aH kP) := ⟨rfl, rfl, rfl, by decide +kernel, rfl, by decide +kernel, by decide +kernel⟩
theorem jJ {f : Addr} {fd : FuncData} (G : Fn K mg "is_whole" kP ["thing"] f fd) (B : Bl mg) : FnOk P w K mg base CX0 1 f fd ["thing"] (jR K) := by
  refine G.fn.ok aCa (fun vs H Q E h => ?_) (fun cdv A outer s H vs Q E hr h => ?_)
  · obtain ⟨x, d, rfl, _⟩ := h
    rfl
  · obtain ⟨x, d, rfl, hd, k⟩ := h
    refine ⟨_, aF (aM (kK (aP sA rfl B.isinstance lK (aA (pv 0) (aA (gL (v := .ty "int") rfl B.int aDX rfl) aC)))
      (lY (aCL (aP pJ rfl B.isinstance lK (aA (pv 0) (aA (gL (v := .ty "bool") rfl B.bool aDa rfl) aC))))))), ?_⟩
    refine ⟨_, rfl, x, iV d, rfl, hd.kd, _, rfl, ?_⟩
    refine cN (fun c => ?_) (fun c => ?_)
    · refine ⟨_, rfl, x, iV d, rfl, hd.kd, _, rfl, ?_⟩
      have e : (!decide (iV d = Kd.bl)) = gC d := by
        cases d <;> first | rfl | (exfalso; simp [iV] at c)
      rw [e]
      exact k
    · have e : false = gC d := by
        cases d <;> first | rfl | (exfalso; simp [iV] at c)
      rw [e]
      exact k
def yI (K : PySem.W.Frag) : Sp := fun vs H Q _ => ∃ x d, vs = [x] /\ Den K H d x /\ Q (.bl (gY d)) H
theorem aCb : FnScope ["thing"] ["thing"] (aH oG) := ⟨rfl, rfl, rfl, by decide +kernel, rfl, by decide +kernel, by decide +kernel⟩
theorem aBd {f fW : Addr} {fd fdW : FuncData} (G : Fn K mg "are_hands" oG ["thing"] f fd) (B : Bl mg) (W : Fn K mg "is_whole" kP ["thing"] fW fdW) : FnOk P w K mg base CX0 2 f fd ["thing"] (yI K) := by
  have GW : FnOk P w K mg base CX0 1 fW fdW ["thing"] (jR K) := jJ W B
  obtain ⟨t6, h6⟩ := B.hands
  refine G.fn.ok aCb (fun vs H Q E h => ?_) (fun cdv A outer s H vs Q E hr h => ?_)
  · obtain ⟨x, d, rfl, _⟩ := h
    rfl
  · obtain ⟨x, d, rfl, hd, k⟩ := h
    refine ⟨_, aF (aM (kK (aQ W GW hr rfl (aA (pv 0) aC))
      (lY (aAq tM tM aG (pv 0) (xO (v := .int 6) rfl h6 ⟨t6, rfl⟩))))), ?_⟩
    refine ⟨_, rfl, x, d, rfl, hd, _, rfl, ?_⟩
    refine cN (fun c => ?_) (fun c => ?_)
    · obtain ⟨i, rfl⟩ : ∃ i, d = .int i := by cases d <;> first | exact ⟨_, rfl⟩ | (exfalso; simp [gC] at c)
      obtain rfl := eE.mp hd
      refine ⟨_, rfl, _, _, rfl, rfl, _, rfl, ?_⟩
      refine cN (fun c1 => ?_) (fun c1 => ?_)
      · refine ⟨_, _, rfl, rfl, ?_⟩
        have e : decide (i <= 6) = gY (.int i) := by
          show _ = (decide (1 <= i) && decide (i <= 6))
          rw [c1, Bool.true_and]
        show Q (.bl (decide (i <= 6))) H
        rw [e]; exact k
      · have e : false = gY (.int i) := by
          show _ = (decide (1 <= i) && decide (i <= 6))
          have c2 : decide (1 <= i) = false := by simpa using c1
          rw [c2, Bool.false_and]
        rw [e]; exact k
    · have e : false = gY d := by cases d <;> first | rfl | (exfalso; simp [gC] at c)
      rw [e]; exact k
theorem gJ (h l i : Int) (r : List PyData) : cY h l (.int i :: r) = (decide (l < i) && decide (i < h) && cY h i r) := by rw [cY]
theorem oM (h l : Int) (d : PyData) (r : List PyData) (n : gC d = false) : cY h l (d :: r) = false := by
  cases d <;> first | rfl | (simp [gC] at n)
def yJ (K : PySem.W.Frag) : Sp := fun vs H Q _ => ∃ n x d, vs = [.int n, x] /\ Den K H d x /\ Q (.bl (cA n d)) H
theorem nG : FnScope ["hands", "thing", "last", "hand"] ["hands", "thing"] (aH oH) := ⟨rfl, rfl, rfl, by decide +kernel, rfl, by decide +kernel, by decide +kernel⟩
theorem aBe {f fW : Addr} {fd fdW : FuncData} (G : Fn K mg "is_work" oH ["hands", "thing"] f fd) (B : Bl mg) (W : Fn K mg "is_whole" kP ["thing"] fW fdW) : FnOk P w K mg base CX0 2 f fd ["hands", "thing"] (yJ K) := by
  have GW : FnOk P w K mg base CX0 1 fW fdW ["thing"] (jR K) := jJ W B
  refine G.fn.ok nG (fun vs H Q E h => ?_) (fun cdv A outer s H vs Q E hr h => ?_)
  · obtain ⟨n, x, d, rfl, _⟩ := h
    rfl
  · obtain ⟨n, x, d, rfl, hd, k⟩ := h
    refine ⟨_, aD (bR (PW.pt (gE (dM (eG (aP cO rfl B.isinstance lK (aA (pv 1) (aA (gL (v := .ty "tuple") rfl B.tuple cH rfl) aC)))))
        (eI (aN hJ (aP bA rfl B.len fP (aA (pv 1) aC)) aG (aS _))))) (aF (aM cF)) aW)
      (aD (aU (i := 2) nG.nd rfl (Or.inl rfl) (aAn vV aG))
      (aD (eW PassesOwn.never rfl (gS (pv 1)) (aK (i := 3) nG.nd rfl (Or.inl rfl))
        (aD (bR (PW.pt (gE (dM (eG (aQ W GW hr rfl (aA (pv 3) aC)))) (gE (aN tM (pv 3) (pv 2) (aS _)) (eI (aN qB (pv 3) (pv 0) (aS _)))))) (aF (aM cF)) aW)
        (aF (aU (i := 2) nG.nd rfl (Or.inl rfl) (pv 3)))))
      (aF (aM cF)))), ?_⟩
    refine ⟨_, rfl, x, iV d, rfl, hd.kd, _, rfl, ?_⟩
    refine cN (fun c => ?_) (fun c => ?_)
    · -- not a tuple
      refine iA ?_
      have e : false = cA n d := by
        cases d <;> first | rfl | (exfalso; simp [iV] at c)
      rw [e]; exact k
    · obtain ⟨ds, rfl⟩ : ∃ ds, d = .tuple ds := by cases d <;> first | exact ⟨_, rfl⟩ | (exfalso; simp [iV] at c)
      obtain ⟨a, xs, rfl, ha, hds⟩ := cJ.mp hd
      have hl := aR hds
      refine ⟨_, rfl, a, xs, rfl, .inr ha, rfl, _, rfl, ?_⟩
      refine cN (fun c2 => ?_) (fun c2 => ?_)
      · have e : false = cA n (.tuple ds) := by
          have e1 : ds = [] := by
            have : (xs.length : Int) = 0 := by simpa using c2
            exact List.length_eq_zero_iff.mp (by omega)
          rw [e1]; rfl
        rw [e]; exact k
      · have hne : ds ≠ [] := by
          intro z
          apply c2
          rw [z] at hl
          simp [hl]
        have e0 : cA n (.tuple ds) = cY n (-1) ds := by
          show (!ds.isEmpty && cY n (-1) ds) = _
          cases ds with
          | nil => exact absurd rfl hne
          | cons _ _ => rfl
        rw [e0] at k
        refine ⟨_, rfl, ?_⟩
        refine ⟨_, rfl, a, rfl, ⟨xs, ha⟩, rV (K := K) (a := a) (xs := xs) (fun i σ H2 => ∃ (last : Int) (v : Option V), σ = [some (.int n), some (.ref a), some (.int last), v] /\ H2 = H /\ cY n (-1) ds = cY n last (ds.drop i))
          ⟨-1, none, rfl, rfl, rfl⟩ (fun i σ H2 _ ⟨_, _, _, e, _⟩ => by rw [e]; exact ha) ?_ ?_⟩
        · rintro i y σ H2 hi ⟨last, v, rfl, rfl, hr2⟩
          obtain ⟨dy, hdy, hden⟩ := cX hds hi
          have hdrop : ds.drop i = dy :: ds.drop (i + 1) := by
            obtain ⟨hlt, e⟩ := List.getElem?_eq_some_iff.mp hdy
            rw [List.drop_eq_getElem_cons hlt, e]
          rw [hdrop] at hr2
          refine ⟨_, rfl, y, dy, rfl, hden, _, rfl, ?_⟩
          refine cN (fun c3 => ?_) (fun c3 => ?_)
          · refine iA ?_
            have e : false = cY n (-1) ds := by rw [hr2, oM]; simpa using c3
            rw [e]; exact k
          · obtain ⟨j, rfl⟩ : ∃ j, dy = .int j := by cases dy <;> first | exact ⟨_, rfl⟩ | (exfalso; simp [gC] at c3)
            obtain rfl := eE.mp hden
            rw [gJ] at hr2
            refine ⟨_, rfl, _, rfl, _, _, rfl, rfl, _, rfl, ?_⟩
            refine cN (fun c4 => ?_) (fun c4 => ?_)
            · refine iA ?_
              have c4' : j <= last := of_decide_eq_true c4
              have e : false = cY n (-1) ds := by rw [hr2, decide_eq_false (by omega : ¬ last < j)]; rfl
              rw [e]; exact k
            · have c4' : ¬ j <= last := fun z => c4 (decide_eq_true z)
              refine ⟨_, rfl, _, rfl, _, _, rfl, rfl, _, rfl, ?_⟩
              refine cN (fun c5 => ?_) (fun c5 => ?_)
              · have c5' : n <= j := of_decide_eq_true c5
                have e : false = cY n (-1) ds := by rw [hr2, decide_eq_false (by omega : ¬ j < n), Bool.and_false]; rfl
                rw [e]; exact k
              · have c5' : ¬ n <= j := fun z => c5 (decide_eq_true z)
                refine ⟨_, rfl, j, some (.int j), rfl, rfl, ?_⟩
                rw [hr2, decide_eq_true (by omega : last < j), decide_eq_true (by omega : j < n)]
                rfl
        · rintro σ H2 ⟨last, v, rfl, rfl, hr2⟩
          have e : true = cY n (-1) ds := by
            rw [hr2, hl, List.drop_length]
            rfl
          show Q (.bl true) _
          rw [e]; exact k
end
end Ab
set_option Elab.async false
set_option linter.all false
set_option maxRecDepth 100000
namespace Ab
open PySem L2
theorem aCc {σ : St} {H : Hp} {A B : Hp -> Prop} (h : A H) : wC σ H fun b H3 => if b = true then A H3 else B H3 := by
  show if true = true then A H else B H
  exact iA h
theorem dX {i : Nat} {x : V} {σ : St} {H : Hp} {A B : St -> Hp -> Prop} (h : A (σ.set i (some x)) H) : xP i x σ H fun σ2 H2 => wC σ2 H2 fun b H3 => if b = true then A σ2 H3 else B σ2 H3 := by
  show if true = true then A (σ.set i (some x)) H else B (σ.set i (some x)) H
  exact iA h
section
variable {P : Program} {w : World} {K : PySem.W.Frag} {mg : Str -> Option Value} {base : Heap}
def yK (K : PySem.W.Frag) : Sp := fun vs H Q _ => ∃ x d, vs = [x] /\ Den K H d x /\ ∀ H', aE H H' -> Q (.bl (cI d)) H'
theorem sO : FnScope ["thing", "hands", "works"] ["thing"] (aH oI) := ⟨rfl, rfl, rfl, by decide +kernel, rfl, by decide +kernel, by decide +kernel⟩
theorem aBf {f fW fH fK : Addr} {fd fdW fdH fdK : FuncData} (G : Fn K mg "is_book" oI ["thing"] f fd) (B : Bl mg) (W : Fn K mg "is_whole" kP ["thing"] fW fdW) (GH : Fn K mg "are_hands" oG ["thing"] fH fdH) (GK : Fn K mg "is_work" oH ["hands", "thing"] fK fdK) : FnOk P w K mg base CX0 3 f fd ["thing"] (yK K) := by
  have OH : FnOk P w K mg base CX0 2 fH fdH ["thing"] (yI K) := aBd GH B W
  have OK : FnOk P w K mg base CX0 2 fK fdK ["hands", "thing"] (yJ K) := aBe GK B W
  obtain ⟨t12, h12⟩ := B.works
  refine G.fn.ok sO (fun vs H Q E h => ?_) (fun cdv A outer s H vs Q E hr h => ?_)
  · obtain ⟨x, d, rfl, _⟩ := h
    rfl
  · obtain ⟨x, d, rfl, hd, k⟩ := h
    refine ⟨_, aD (bR (PW.pt (gE (dM (eG (aP cO rfl B.isinstance lK (aA (pv 0) (aA (gL (v := .ty "tuple") rfl B.tuple cH rfl) aC)))))
        (eI (aN lB (aP bA rfl B.len fP (aA (pv 0) aC)) aG (aS _))))) (aF (aM cF)) aW)
      (aD (gR (pv 0) (fU rfl (aT (aK (i := 1) sO.nd rfl (Or.inr rfl)) (aT (aK (i := 2) sO.nd rfl (Or.inl rfl)) cT))))
      (aD (bR (dM (eG (aQ GH OH hr rfl (aA (pv 1) aC)))) (aF (aM cF)) aW)
      (aD (bR (PW.pt (gE (dM (eG (aP cO rfl B.isinstance lK (aA (pv 2) (aA (gL (v := .ty "tuple") rfl B.tuple cH rfl) aC)))))
        (eI (aN tN (aP bA rfl B.len fP (aA (pv 2) aC)) (xO (v := .int 12) rfl h12 ⟨t12, rfl⟩) (aS _))))) (aF (aM cF)) aW)
      (aF (aM (aP (iI rfl) rfl B.all qP (aA
        (dJ (own := ["work"]) (fr := [1]) (frn := ["hands"]) (bU (aH oI) ["thing", "hands", "works"] rfl rfl (by decide +kernel)) rfl (gS (pv 2))
          (fun _ _ _ _ => aK (i := 0) (show (["work", "hands"] : List Str).Nodup by decide +kernel) rfl (Or.inl rfl)) (fun _ _ _ _ => fV) (fun _ _ _ _ => aQ GK OK hr rfl (aA (pv 1) (aA (pv 0) aC)))) aC))))))), ?_⟩
    refine ⟨_, rfl, x, iV d, rfl, hd.kd, _, rfl, ?_⟩
    refine cN (fun c => ?_) (fun c => ?_)
    · refine iA ?_
      have e : false = cI d := by
        cases d <;> first | rfl | (exfalso; simp [iV] at c)
      rw [e]; exact k H (aE.refl H)
    · obtain ⟨ds, rfl⟩ : ∃ ds, d = .tuple ds := by cases d <;> first | exact ⟨_, rfl⟩ | (exfalso; simp [iV] at c)
      obtain ⟨a, xs, rfl, ha, hds⟩ := cJ.mp hd
      have hl := aR hds
      refine ⟨_, rfl, a, xs, rfl, .inr ha, rfl, _, rfl, ?_⟩
      refine cN (fun c2 => ?_) (fun c2 => ?_)
      · have e : false = cI (.tuple ds) := by
          match ds, hl, c2 with
          | [], _, _ => rfl
          | [_], _, _ => rfl
          | [_, _], hl, c2 => exfalso; rw [hl] at c2; simp at c2
          | _ :: _ :: _ :: _, _, _ => rfl
        rw [e]; exact k H (aE.refl H)
      · obtain ⟨dh, dw, rfl⟩ : ∃ dh dw, ds = [dh, dw] := by
          match ds, hl, c2 with
          | [], hl, c2 => exfalso; rw [hl] at c2; simp at c2
          | [_], hl, c2 => exfalso; rw [hl] at c2; simp at c2
          | [p, q], _, _ => exact ⟨p, q, rfl⟩
          | p :: q :: r :: t, hl, c2 => exfalso; apply c2; rw [hl]; simp; omega
        obtain ⟨xh, r1, rfl, hh, h2⟩ := aX.mp hds
        obtain ⟨xw, r2, rfl, hw, h3⟩ := aX.mp h2
        obtain rfl := bD.mp h3
        -- hands, works = thing
        refine ⟨_, rfl, a, _, rfl, ha, rfl, _, _, rfl, _, _, rfl, rfl, ?_⟩
        -- are_hands(hands)
        refine ⟨_, rfl, xh, dh, rfl, hh, _, rfl, ?_⟩
        refine cN (fun c3 => ?_) (fun c3 => ?_)
        · have e : false = cI (.tuple [dh, dw]) := by
            have c3' : gY dh = false := by simpa using c3
            cases dh with
            | int n =>
              cases dw with
              | tuple ws =>
                have c4 : (decide (1 <= n) && decide (n <= 6)) = false := c3'
                show _ = (decide (1 <= n) && decide (n <= 6) && decide (ws.length <= 12) && ws.all (cA n))
                rw [c4]; rfl
              | _ => rfl
            | _ => rfl
          rw [e]; exact k H (aE.refl H)
        · obtain ⟨n, rfl, hn⟩ : ∃ n, dh = .int n /\ (decide (1 <= n) && decide (n <= 6)) = true := by
            cases dh <;> first | exact ⟨_, rfl, by simpa [gY] using c3⟩ | (exfalso; simp [gY] at c3)
          obtain rfl := eE.mp hh
          refine ⟨_, rfl, xw, iV dw, rfl, hw.kd, _, rfl, ?_⟩
          refine cN (fun c5 => ?_) (fun c5 => ?_)
          · refine iA ?_
            have e : false = cI (.tuple [.int n, dw]) := by
              cases dw <;> first | rfl | (exfalso; simp [iV] at c5)
            rw [e]; exact k H (aE.refl H)
          · obtain ⟨ws, rfl⟩ : ∃ ws, dw = .tuple ws := by cases dw <;> first | exact ⟨_, rfl⟩ | (exfalso; simp [iV] at c5)
            obtain ⟨b, ys, rfl, hb, hws⟩ := cJ.mp hw
            have hlw := aR hws
            have eB : cI (.tuple [.int n, .tuple ws]) = (decide (ws.length <= 12) && ws.all (cA n)) := by
              show (decide (1 <= n) && decide (n <= 6) && decide (ws.length <= 12) && ws.all (cA n)) = _
              rw [hn, Bool.true_and]
            rw [eB] at k
            refine ⟨_, rfl, b, ys, rfl, .inr hb, _, _, rfl, rfl, _, rfl, ?_⟩
            refine cN (fun c6 => ?_) (fun c6 => ?_)
            · have c6' : (12 : Int) < ys.length := of_decide_eq_true c6
              have e : false = (decide (ws.length <= 12) && ws.all (cA n)) := by rw [decide_eq_false (by omega : ¬ ws.length <= 12)]; rfl
              rw [e]; exact k H (aE.refl H)
            · have c6' : ¬ (12 : Int) < ys.length := fun z => c6 (decide_eq_true z)
              have e1 : decide (ws.length <= 12) = true := decide_eq_true (by omega)
              rw [e1, Bool.true_and] at k
              refine ⟨_, rfl, b, rfl, ⟨ys, hb⟩, iK (K := K) (a := b) (xs := ys) (fun σ => ∃ v, σ = [v, some (.int n)]) (fun i zs H2 => H2 = H /\ zs = ((ws.take i).map (cA n)).map V.bl) ?_ ⟨none, rfl⟩ ⟨rfl, rfl⟩ ?_ ?_ ?_ ?_⟩
              · rw [sizeLine_eq]; omega
              · rintro i zs H2 ⟨_, rfl⟩
                rw [List.length_map, List.length_map, List.length_take]; omega
              · rintro i zs H2 ⟨rfl, _⟩
                exact hb
              · rintro i zs σ x H2 hx ⟨v, rfl⟩ ⟨rfl, rfl⟩ hz
                obtain ⟨dx, hdx, hden⟩ := cX hws hx
                refine dX ?_
                refine ⟨_, rfl, _, rfl, n, x, dx, rfl, hden, hz, ⟨some x, rfl⟩, rfl, ?_⟩
                rw [List.take_succ, hdx]
                simp
              · rintro zs H2 ⟨rfl, rfl⟩ p hp
                refine ⟨p, _, rfl, SqL.of aB, ?_⟩
                have e2 : ((ws.take ys.length).map (cA n)).all id = ws.all (cA n) := by
                  rw [hlw, List.take_length, List.all_map]
                  rfl
                rw [e2]
                exact k _ (aE.new hp)
end
end Ab
set_option Elab.async false
set_option linter.all false
set_option maxRecDepth 100000
namespace Ab
open PySem L2
def bX (l : List Int) : PyData := .tuple (l.map .int)
def cK (n : Int) (ws : List (List Int)) : PyData := .tuple [.int n, .tuple (ws.map bX)]
def cG (hs : List Int) : PyData := .tuple (hs.map .int)
def fJ : PyData -> List Int -> Bool
  | .int i, l => l.any (· == i)
  | _, _ => false
def cW (ws : List (List Int)) : PyData -> Bool
  | .tuple hs => decide (hs.length = ws.length) && (hs.zip ws).all fun p => fJ p.1 p.2
  | _ => false
theorem qR (l : List Int) : (l.map V.int).all lE = true := by
  rw [List.all_map]
  exact List.all_eq_true.mpr fun _ _ => rfl
theorem sP (i : Int) (l : List Int) : inV (.int i) (l.map V.int) = l.any (· == i) := by
  unfold inV
  rw [List.any_map]
  rfl
theorem fM {K : PySem.W.Frag} {H : Hp} {n : Int} {ws : List (List Int)} {x : V} (h : Den K H (cK n ws) x) : ∃ a b ys, x = .ref a /\ SqT K H a [.int n, .ref b] /\ SqT K H b ys /\ aV K H (ws.map bX) ys := by
  obtain ⟨a, xs, rfl, ha, hds⟩ := cJ.mp h
  obtain ⟨xh, r1, rfl, hh, h2⟩ := aX.mp hds
  obtain ⟨xw, r2, rfl, hw, h3⟩ := aX.mp h2
  obtain rfl := bD.mp h3
  obtain rfl := eE.mp hh
  obtain ⟨b, ys, rfl, hb, hys⟩ := cJ.mp hw
  exact ⟨a, b, ys, rfl, ha, hb, hys⟩
theorem bS {n : Int} {ws : List (List Int)} (h : cI (cK n ws) = true) : 1 <= n /\ n <= 6 /\ ws.length <= 12 /\ ∀ l ∈ ws, cA n (bX l) = true := by
  have h' : (decide (1 <= n) && decide (n <= 6) && decide ((ws.map bX).length <= 12) && (ws.map bX).all (cA n)) = true := h
  simp only [Bool.and_eq_true, decide_eq_true_eq, List.length_map, List.all_eq_true] at h'
  exact ⟨h'.1.1.1, h'.1.1.2, h'.1.2, fun l hl => h'.2 _ (List.mem_map.mpr ⟨l, hl, rfl⟩)⟩
theorem sQ {X : Cx} {pos : Pos} {es : List Expr} {k : Nat} {t : TGs} {n : Nat} {K : PySem.W.Frag} (hK : X.K = K) (hc : X.calm = true) (h : PGs X es t)
    (hn : (assignEach es X.env).length = n := by rfl) (hst : (assignEach es X.env).findIdx? (·.1) = none := by rfl) : PG X (.Tuple es k pos) (aDB K n t) := by
  subst hK
  exact fU hc h hn hst
section
variable {X : Cx} {K : PySem.W.Frag}
theorem wR (hK : X.K = K) : OpR X (compareOp .In) (rIn K false) := by subst hK; exact mB
theorem jS (hK : X.K = K) : IxR X (aDJ K) := by subst hK; exact bP
theorem pW (hK : X.K = K) : eX X (.builtin "len") (fun xs H Q => ∃ p ys, xs = [.ref p] /\ (SqL K H p ys ∨ SqT K H p ys) /\ Q (.int ys.length) H) := by subst hK; exact bA
theorem wS (hK : X.K = K) : MtR X "tuple.count" (fun x vs H Q => ∃ (a : Addr) (ns : List Int) (n : Int), x = .ref a /\ vs = [.int n] /\ SqT K H a (ns.map V.int) /\ Q (.int (ns.count n : Nat)) H) := by subst hK; exact zJ
end
section
variable {P : Program} {w : World} {K : PySem.W.Frag} {mg : Str -> Option Value} {base : Heap}
structure Pr (K : PySem.W.Frag) (mg : Str -> Option Value) (fW fH fK fB fNB fD fND fL : Addr) (dW dH dK dB dNB dD dND dL : FuncData) : Prop where
  W : Fn K mg "is_whole" kP ["thing"] fW dW
  H : Fn K mg "are_hands" oG ["thing"] fH dH
  Kw : Fn K mg "is_work" oH ["hands", "thing"] fK dK
  B : Fn K mg "is_book" oI ["thing"] fB dB
  NB : Fn K mg "need_book" wN ["book"] fNB dNB
  D : Fn K mg "is_deal" sM ["book", "thing"] fD dD
  ND : Fn K mg "need_deal" wO ["book", "deal"] fND dND
  C : ∃ f d, Fn K mg "counted" jG ["hands", "deal"] f d
  L : Fn K mg "loads" wP ["book", "deal"] fL dL
variable {fW fH fK fB fNB fD fND fL : Addr} {dW dH dK dB dNB dD dND dL : FuncData}
def sR (K : PySem.W.Frag) : Sp := fun vs H Q _ => ∃ x d, vs = [x] /\ Den K H d x /\ cI d = true /\ ∀ H', aE H H' -> Q .non H'
theorem aCd : FnScope ["book"] ["book"] (aH wN) := ⟨rfl, rfl, rfl, by decide +kernel, rfl, by decide +kernel, by decide +kernel⟩
theorem uV (B : Bl mg) (R : Pr K mg fW fH fK fB fNB fD fND fL dW dH dK dB dNB dD dND dL) : FnOk P w K mg base CX0 4 fNB dNB ["book"] (sR K) := by
  have OB : FnOk P w K mg base CX0 3 fB dB ["thing"] (yK K) := aBf R.B B R.W R.H R.Kw
  refine R.NB.fn.ok aCd (fun vs H Q E h => ?_) (fun cdv A outer s H vs Q E hr h => ?_)
  · obtain ⟨x, d, rfl, _⟩ := h
    rfl
  · obtain ⟨x, d, rfl, hd, hb, k⟩ := h
    refine ⟨_, aF (bR (dM (eG (aQ R.B OB hr rfl (aA (pv 0) aC)))) lZ aW), ?_⟩
    refine ⟨_, rfl, x, d, rfl, hd, fun H' hs => ⟨_, rfl, ?_⟩⟩
    rw [hb]
    refine eD ?_
    exact k H' hs
def yL (K : PySem.W.Frag) : Sp := fun vs H Q _ => ∃ x y n ws d, vs = [x, y] /\ Den K H (cK n ws) x /\ cI (cK n ws) = true /\ Den K H d y /\ ∀ H', aE H H' -> Q (.bl (cW ws d)) H'
theorem yM : FnScope ["book", "thing", "works"] ["book", "thing"] (aH sM) := ⟨rfl, rfl, rfl, by decide +kernel, rfl, by decide +kernel, by decide +kernel⟩
theorem aBg (B : Bl mg) (R : Pr K mg fW fH fK fB fNB fD fND fL dW dH dK dB dNB dD dND dL) : FnOk P w K mg base CX0 5 fD dD ["book", "thing"] (yL K) := by
  have ON : FnOk P w K mg base CX0 4 fNB dNB ["book"] (sR K) := uV B R
  have OW : FnOk P w K mg base CX0 1 fW dW ["thing"] (jR K) := jJ R.W B
  refine R.D.fn.ok yM (fun vs H Q E h => ?_) (fun cdv A outer s H vs Q E hr h => ?_)
  · obtain ⟨x, y, n, ws, d, rfl, _⟩ := h
    rfl
  · obtain ⟨x, y, n, ws, d, rfl, hx, hb, hd, k⟩ := h
    have hr1 : Room 1 _ := hr.mono (by decide)
    refine ⟨_, aD (eA (aQ R.NB ON hr rfl (aA (pv 0) aC)))
      (aD (aU (i := 2) yM.nd rfl (Or.inl rfl) (bC bP (pv 0) aG (fun _ _ => rfl)))
      (aD (bR (PW.pt (gE (dM (eG (aP cO rfl B.isinstance lK (aA (pv 1) (aA (gL (v := .ty "tuple") rfl B.tuple cH rfl) aC)))))
        (eI (aN lB (aP bA rfl B.len fP (aA (pv 1) aC)) (aP bA rfl B.len fP (aA (pv 2) aC)) (aS _))))) (aF (aM cF)) aW)
      (aF (aM (aP (iI rfl) rfl B.all qP (aA
        (dJ (own := ["hand", "able"]) (fr := []) (frn := []) (bU (aH sM) ["book", "thing", "works"] rfl rfl (by decide +kernel)) rfl (oB .t .t rfl B.zip (aA (pv 1) (aA (pv 2) aC)))
          (fun _ _ _ _ => sQ (K := K) (n := 2) rfl rfl (aT (aK (i := 0) (show (["hand", "able"] : List Str).Nodup by decide +kernel) rfl (Or.inl rfl)) (aT (aK (i := 1) (show (["hand", "able"] : List Str).Nodup by decide +kernel) rfl (Or.inl rfl)) cT)))
          (fun _ _ _ _ => fV) (fun _ _ _ _ => kK (aQ R.W OW hr1 rfl (aA (pv 0) aC)) (lY (eY (wR (K := K) rfl) (pv 0) (pv 1) (by with_unfolding_all rfl))))) aC)))))), ?_⟩
    refine ⟨_, rfl, x, cK n ws, rfl, hx, hb, fun H1 s1 => ?_⟩
    have hx1 := s1.den _ _ hx
    have hd1 := s1.den _ _ hd
    obtain ⟨a, b, ys, rfl, ha, hb2, hys⟩ := fM hx1
    have hlw := aR hys
    rw [List.length_map] at hlw
    refine ⟨_, rfl, a, _, 1, .ref b, rfl, rfl, ha, rfl, ?_⟩
    refine ⟨_, rfl, y, iV d, rfl, hd1.kd, _, rfl, ?_⟩
    refine cN (fun c => ?_) (fun c => ?_)
    · refine iA ?_
      have e : false = cW ws d := by
        cases d <;> first | rfl | (exfalso; simp [iV] at c)
      rw [e]; exact k H1 s1
    · obtain ⟨hs, rfl⟩ : ∃ hs, d = .tuple hs := by cases d <;> first | exact ⟨_, rfl⟩ | (exfalso; simp [iV] at c)
      obtain ⟨a2, xs, rfl, ha2, hxs⟩ := cJ.mp hd1
      have hlx := aR hxs
      refine ⟨_, rfl, a2, xs, rfl, .inr ha2, _, rfl, b, ys, rfl, .inr hb2, rfl, _, rfl, ?_⟩
      refine cN (fun c2 => ?_) (fun c2 => ?_)
      · have e : false = cW ws (.tuple hs) := by
          show _ = (decide (hs.length = ws.length) && (hs.zip ws).all fun p => fJ p.1 p.2)
          rw [decide_eq_false]
          · rfl
          · intro z
            have : (V.int (xs.length : Int) = V.int (ys.length : Int)) := by rw [hlx, hlw, z]
            simp [this] at c2
        rw [e]; exact k H1 s1
      · have heq : xs.length = ys.length := by
          have : V.int (xs.length : Int) = V.int (ys.length : Int) := by simpa using c2
          injection this with this
          omega
        have e0 : cW ws (.tuple hs) = (hs.zip ws).all fun p => fJ p.1 p.2 := by
          show (decide (hs.length = ws.length) && _) = _
          rw [decide_eq_true (by omega : hs.length = ws.length), Bool.true_and]
        rw [e0] at k
        obtain ⟨_, _, h12, _⟩ := bS hb
        refine ⟨_, rfl, _, rfl, a2, b, xs, ys, rfl, ha2, hb2, aAK (K := K) (k1 := .t) (k2 := .t) (a := a2) (b := b) (xs := xs) (ys := ys) (fun σ => ∃ u v, σ = [u, v]) (fun i zs H2 => aE H1 H2 /\ zs = (((hs.zip ws).take i).map fun p => fJ p.1 p.2).map V.bl) ?_ heq ⟨none, none, rfl⟩ ⟨aE.refl H1, rfl⟩ ?_ ?_ ?_ ?_⟩
        · rw [sizeLine_eq]; omega
        · rintro i zs H2 ⟨_, rfl⟩
          rw [List.length_map, List.length_map, List.length_take]; omega
        · rintro i zs H2 ⟨s2, _⟩
          exact ⟨s2.seqT ha2, s2.seqT hb2⟩
        · rintro i zs σ u v p H2 hu hv ⟨u0, v0, rfl⟩ ⟨s2, rfl⟩ hp hz
          obtain ⟨du, hdu, denu⟩ := cX hxs hu
          obtain ⟨dv, hdv, denv⟩ := cX hys hv
          rw [List.getElem?_map] at hdv
          obtain ⟨l, hl, rfl⟩ : ∃ l, ws[i]? = some l /\ bX l = dv := by
            cases q : ws[i]? with
            | none => rw [q] at hdv; cases hdv
            | some l => rw [q] at hdv; exact ⟨l, rfl, Option.some.inj hdv⟩
          have s3 : aE H1 (upd H2 p (.tup [u, v])) := s2.trans (aE.new hp)
          have hzip : (hs.zip ws)[i]? = some (du, l) := by rw [List.getElem?_zip_eq_some]; exact ⟨hdu, hl⟩
          have enext : (((hs.zip ws).take (i + 1)).map fun p => fJ p.1 p.2).map V.bl = (((hs.zip ws).take i).map fun p => fJ p.1 p.2).map V.bl ++ [V.bl (fJ du l)] := by
            rw [List.take_succ, hzip]; simp
          refine ⟨p, _, rfl, SqT.of aB, rfl, _, _, rfl, _, _, rfl, rfl, ?_⟩
          refine aCc ?_
          refine ⟨_, rfl, u, du, rfl, s3.den _ _ denu, _, rfl, ?_⟩
          refine cN (fun c3 => ?_) (fun c3 => ?_)
          · obtain ⟨j, rfl⟩ : ∃ j, du = .int j := by cases du <;> first | exact ⟨_, rfl⟩ | (exfalso; simp [gC] at c3)
            obtain rfl := eE.mp denu
            obtain ⟨av, rfl, hav⟩ := aZ.mp denv
            refine ⟨_, rfl, _, rfl, av, _, rfl, .inr (s3.seqT hav), rfl, qR l, hz, ⟨_, _, rfl⟩, s3, ?_⟩
            rw [enext]
            show _ ++ [V.bl (inV (.int j) (l.map V.int))] = _
            rw [sP]
            rfl
          · have e : fJ du l = false := by cases du <;> first | rfl | (exfalso; simp [gC] at c3)
            refine ⟨hz, ⟨_, _, rfl⟩, s3, ?_⟩
            rw [enext, e]
        · rintro zs H2 ⟨s2, rfl⟩ p hp
          refine ⟨p, _, rfl, SqL.of aB, ?_⟩
          have e2 : (((hs.zip ws).take xs.length).map fun p => fJ p.1 p.2).all id = (hs.zip ws).all fun p => fJ p.1 p.2 := by
            rw [List.take_of_length_le (by rw [List.length_zip]; omega), List.all_map]
            rfl
          rw [e2]
          exact k _ (s1.trans (s2.trans (aE.new hp)))
end
end Ab
set_option Elab.async false
set_option linter.all false
set_option maxRecDepth 100000
namespace Ab
open PySem L2
def aO (n : Int) (hs : List Int) : List Int := (bF n.toNat).map fun h => ((hs.count h : Nat) : Int)
def cP (n : Int) (hs : List Int) : Int := aJ ((aO n hs).map fun l => l * (l + 1) / 2)
theorem jK {n i : Nat} (h : i < n) : (bF n)[i]? = some (i : Int) := by
  unfold bF
  rw [List.getElem?_map, List.getElem?_range h]
  rfl
theorem cC (n : Nat) : (bF n).length = n := by unfold bF; rw [List.length_map, List.length_range]
theorem aDd {X : Cx} {K : PySem.W.Frag} {o e : Expr} {es : List Expr} {to : TE} {t : TA} {name : Str} {apos cpos : Pos} {T id : String} {r : V -> List V -> Hp -> VK -> Prop} (hK : X.K = K) (pa : PlainAttrs T) (slot : Slot T name id) (hty : typeOf (.builtin id) = pure (.type "method_descriptor")) (hm : MtR X id r) (ho : PE X o to) (ha : PA X (e :: es) t)
    (hbase : attributeBase o name X.env (eval o X.env) = eval o X.env := by rfl)
    (hfew : ((backTo cpos (starEach (e :: es) X.env)).all (fun x => !x.1) && (backToKw cpos (keywordEach [] X.env)).all (fun x => x.1.isSome)
      && decide ((e :: es).length + ([] : List Keyword).length + (if ([] : List Keyword).isEmpty then 0 else 1) < 30)) = true := by rfl)
    (hline : (apos.endLine == cpos.line) = true := by rfl) (hs : starEach (e :: es) X.env = (false, eval e X.env) :: starEach es X.env := by rfl) (hplain : (backTo cpos (starEach es X.env)).any (·.1) = false := by rfl) :
    PE X (.Call (.Attribute o name apos) (e :: es) [] cpos) (tBM K T r to t) := by
  subst hK
  exact lF pa slot hty hm ho ha hbase hfew hline hs hplain
section
variable {P : Program} {w : World} {K : PySem.W.Frag} {mg : Str -> Option Value} {base : Heap}
variable {fW fH fK fB fNB fD fND fL : Addr} {dW dH dK dB dNB dD dND dL : FuncData}
def cL (K : PySem.W.Frag) (H : Hp) (x y : V) (n : Int) (ws : List (List Int)) (hs : List Int) : Prop := Den K H (cK n ws) x /\ cI (cK n ws) = true /\ Den K H (cG hs) y /\ cW ws (cG hs) = true
theorem cL.same {H H' : Hp} {x y : V} {n : Int} {ws : List (List Int)} {hs : List Int} (g : cL K H x y n ws hs) (e : aE H H') : cL K H' x y n ws hs := ⟨e.den _ _ g.1, g.2.1, e.den _ _ g.2.2.1, g.2.2.2⟩
theorem cL.len {H : Hp} {x y : V} {n : Int} {ws : List (List Int)} {hs : List Int} (g : cL K H x y n ws hs) : hs.length <= 12 /\ 1 <= n /\ n <= 6 := by
  obtain ⟨h1, h2, h3, _⟩ := bS g.2.1
  have h : (decide ((hs.map PyData.int).length = ws.length) && ((hs.map PyData.int).zip ws).all fun p => fJ p.1 p.2) = true := g.2.2.2
  simp only [Bool.and_eq_true, decide_eq_true_eq, List.length_map] at h
  omega
def sS (K : PySem.W.Frag) : Sp := fun vs H Q _ => ∃ x y n ws hs, vs = [x, y] /\ cL K H x y n ws hs /\ ∀ H', aE H H' -> Q .non H'
theorem aCe : FnScope ["book", "deal"] ["book", "deal"] (aH wO) := ⟨rfl, rfl, rfl, by decide +kernel, rfl, by decide +kernel, by decide +kernel⟩
theorem uW (B : Bl mg) (R : Pr K mg fW fH fK fB fNB fD fND fL dW dH dK dB dNB dD dND dL) : FnOk P w K mg base CX0 6 fND dND ["book", "deal"] (sS K) := by
  have OD : FnOk P w K mg base CX0 5 fD dD ["book", "thing"] (yL K) := aBg B R
  refine R.ND.fn.ok aCe (fun vs H Q E h => ?_) (fun cdv A outer s H vs Q E hr h => ?_)
  · obtain ⟨x, y, n, ws, hs, rfl, _⟩ := h
    rfl
  · obtain ⟨x, y, n, ws, hs, rfl, ⟨g1, g2, g3, g4⟩, k⟩ := h
    refine ⟨_, aF (bR (dM (eG (aQ R.D OD hr rfl (aA (pv 0) (aA (pv 1) aC))))) lZ aW), ?_⟩
    refine ⟨_, rfl, _, rfl, x, y, n, ws, cG hs, rfl, g1, g2, g3, fun H' hs => ⟨_, rfl, ?_⟩⟩
    rw [g4]
    refine eD ?_
    exact k H' hs
def qS (K : PySem.W.Frag) : Sp := fun vs H Q _ => ∃ (n : Int) (b : Addr) (hs : List Int), vs = [.int n, .ref b] /\ SqT K H b (hs.map V.int) /\ 0 <= n /\ n <= 6 /\ ∀ p H', aE H H' -> H' p = some (.tup ((aO n hs).map V.int)) -> Q (.ref p) H'
theorem zX : FnScope ["hands", "deal"] ["hands", "deal"] (aH jG) := ⟨rfl, rfl, rfl, by decide +kernel, rfl, by decide +kernel, by decide +kernel⟩
theorem wT {f : Addr} {fd : FuncData} (G : Fn K mg "counted" jG ["hands", "deal"] f fd) (B : Bl mg) : FnOk P w K mg base CX0 1 f fd ["hands", "deal"] (qS K) := by
  refine G.fn.ok zX (fun vs H Q E h => ?_) (fun cdv A outer s H vs Q E hr h => ?_)
  · obtain ⟨n, b, hs, rfl, _⟩ := h
    rfl
  · obtain ⟨n, c, hs, rfl, hc, hn1, hn6, k⟩ := h
    refine ⟨_, aF (aM (bT bN rfl B.tuple cH (aA
        (dJ (own := ["hand"]) (fr := [1]) (frn := ["deal"]) (bU (aH jG) ["hands", "deal"] rfl rfl (by decide +kernel)) rfl (eQ rfl B.range (aA (pv 0) aC))
          (fun _ _ _ _ => aK (i := 0) (show (["hand", "deal"] : List Str).Nodup by decide +kernel) rfl (Or.inl rfl)) (fun _ _ _ _ => fV)
          (fun _ _ _ _ => aDd (K := K) rfl PySem.F.plainAttrs_tuple PySem.F.slot_tuple_count PySem.F.type_tuple_count (wS (K := K) rfl) (pv 1) (aA (pv 0) aC))) aC))), ?_⟩
    refine ⟨_, rfl, n, rfl, by omega, by omega, kO (lo := 0) (n := n.toNat) (fun σ => ∃ v, σ = [v, some (.ref c)]) (fun i zs H2 => H2 = H /\ zs = (((bF n.toNat).take i).map fun h => ((hs.count h : Nat) : Int)).map V.int) ?_ ⟨none, rfl⟩ ⟨rfl, rfl⟩ ?_ ?_ ?_⟩
    · rw [sizeLine_eq]; omega
    · rintro i zs H2 ⟨_, rfl⟩
      rw [List.length_map, List.length_map, List.length_take]; omega
    · rintro i zs σ H2 hi ⟨v, rfl⟩ ⟨rfl, rfl⟩ hz
      refine dX ?_
      refine ⟨_, rfl, .inr (.inl ⟨rfl, _, hc⟩), _, rfl, c, hs, _, rfl, rfl, hc, hz, ⟨_, rfl⟩, rfl, ?_⟩
      rw [List.take_succ, jK hi]
      simp
    · rintro zs H2 ⟨rfl, rfl⟩ p hp
      refine ⟨p, _, rfl, .inl ⟨SqL.of aB, fun l hl => ?_⟩⟩
      refine k l _ ((aE.new hp).trans (aE.new hl)) ?_
      rw [aB, List.take_of_length_le (by rw [cC]; exact Nat.le_refl _)]
      rfl
def jT (K : PySem.W.Frag) : Sp := fun vs H Q _ => ∃ x y n ws hs, vs = [x, y] /\ cL K H x y n ws hs /\ ∀ p H', aE H H' -> H' p = some (.tup ((aO n hs).map V.int)) -> Q (.ref p) H'
theorem aCf : FnScope ["book", "deal"] ["book", "deal"] (aH wP) := ⟨rfl, rfl, rfl, by decide +kernel, rfl, by decide +kernel, by decide +kernel⟩
theorem jL (B : Bl mg) (R : Pr K mg fW fH fK fB fNB fD fND fL dW dH dK dB dNB dD dND dL) : FnOk P w K mg base CX0 7 fL dL ["book", "deal"] (jT K) := by
  have ON : FnOk P w K mg base CX0 6 fND dND ["book", "deal"] (sS K) := uW B R
  obtain ⟨fC, dC, GC⟩ := R.C
  have OC : FnOk P w K mg base CX0 1 fC dC ["hands", "deal"] (qS K) := wT GC B
  refine R.L.fn.ok aCf (fun vs H Q E h => ?_) (fun cdv A outer s H vs Q E hr h => ?_)
  · obtain ⟨x, y, n, ws, hs, rfl, _⟩ := h
    rfl
  · obtain ⟨x, y, n, ws, hs, rfl, g, k⟩ := h
    have r1 : Room 1 _ := hr.mono (by decide)
    refine ⟨_, aD (eA (aQ R.ND ON hr rfl (aA (pv 0) (aA (pv 1) aC))))
      (aF (aM (aQ GC OC r1 rfl (aA (bC bP (pv 0) aG (fun _ _ => rfl)) (aA (pv 1) aC))))), ?_⟩
    refine ⟨_, rfl, _, rfl, x, y, n, ws, hs, rfl, g, fun H1 s1 => ?_⟩
    have g1 := g.same s1
    obtain ⟨hl, hn1, hn6⟩ := g.len
    obtain ⟨a, b, ys, rfl, ha, hb2, hys⟩ := fM g1.1
    obtain ⟨c, rfl, hc⟩ := aZ.mp g1.2.2.1
    refine ⟨_, rfl, a, _, 0, .int n, rfl, rfl, ha, rfl, _, rfl, n, c, hs, rfl, hc, by omega, hn6, fun p H2 s2 hp => ?_⟩
    exact k p H2 (s1.trans s2) hp
theorem aL (n : Int) (hs : List Int) : (aO n hs).length = n.toNat := by unfold aO; rw [List.length_map, cC]
theorem iQ {n : Int} {hs : List Int} {l : Int} (h : l ∈ aO n hs) : 0 <= l /\ l <= hs.length := by
  unfold aO at h
  obtain ⟨i, _, rfl⟩ := List.mem_map.mp h
  have := List.count_le_length (a := i) (l := hs)
  omega
end
end Ab
set_option Elab.async false
set_option linter.all false
set_option maxRecDepth 100000
namespace Ab
open PySem L2
def But (t : Addr) (H H' : Hp) : Prop := ∀ b o, b ≠ t -> H b = some o -> H' b = some o
theorem But.refl (t : Addr) (H : Hp) : But t H H := fun _ _ _ h => h
theorem But.trans {t : Addr} {H H1 H2 : Hp} (a : But t H H1) (b : But t H1 H2) : But t H H2 := fun c o n h => b c o n (a c o n h)
theorem But.of {t : Addr} {H H' : Hp} (a : aE H H') : But t H H' := fun c o _ h => a c o h
theorem But.at {t : Addr} {H : Hp} {u : HO} : But t H (upd H t u) := fun c o n h => by rw [aI n]; exact h
theorem But.free {t : Addr} {H H' : Hp} (e : But t H H') {l : Addr} (h : H' l = none) (n : l ≠ t) : H l = none := by
  cases q : H l with
  | none => rfl
  | some o => rw [e l o n q] at h; cases h
theorem But.rdL {t a : Addr} {H H' : Hp} {xs : List V} (e : But t H H') (n : a ≠ t) (h : Rd H a (.lst xs)) : Rd H' a (.lst xs) := by
  rcases h with h | ⟨o, h⟩
  · exact .inl (e a _ n h)
  · exact .inr ⟨o, e a _ n h⟩
section
variable {K : PySem.W.Frag} {t : Addr} {H H' : Hp} {ys : List V}
theorem But.seqT {a : Addr} {xs : List V} (e : But t H H') (ht : H t = some (.lst ys)) (h : SqT K H a xs) : SqT K H' a xs := by
  rcases h with (h | ⟨o, h⟩) | h
  · exact .inl (.inl (e a _ (fun z => by rw [z, ht] at h; cases h) h))
  · exact .inl (.inr ⟨o, e a _ (fun z => by rw [z, ht] at h; cases h) h⟩)
  · exact .inr h
theorem But.seqL {a : Addr} {xs : List V} (e : But t H H') (n : a ≠ t) (h : SqL K H a xs) : SqL K H' a xs := by
  rcases h with h | h
  · exact .inl (e.rdL n h)
  · exact .inr h
mutual
def eN : PyData -> Bool
  | .dict _ => false
  | .list _ => false
  | .tuple ds => gD ds
  | _ => true
def gD : List PyData -> Bool
  | [] => true
  | d :: ds => eN d && gD ds
end
mutual
theorem But.den (e : But t H H') (ht : H t = some (.lst ys)) : ∀ (d : PyData) (v : V), eN d = true -> Den K H d v -> Den K H' d v
  | .none, v, _, h => by unfold Den at h ⊢; exact h
  | .bool b, v, _, h => by unfold Den at h ⊢; exact h
  | .int i, v, _, h => by unfold Den at h ⊢; exact h
  | .str x, v, _, h => by unfold Den at h ⊢; exact h
  | .list ds, v, n, h => by unfold eN at n; cases n
  | .tuple ds, v, n, h => by unfold eN at n; unfold Den at h ⊢; obtain ⟨a, xs, h1, h2, h3⟩ := h; exact ⟨a, xs, h1, e.seqT ht h2, But.denAll e ht ds xs n h3⟩
  | .dict kvs, v, n, h => by unfold eN at n; cases n
theorem But.denAll (e : But t H H') (ht : H t = some (.lst ys)) : ∀ (ds : List PyData) (xs : List V), gD ds = true -> aV K H ds xs -> aV K H' ds xs
  | [], xs, _, h => by unfold aV at h ⊢; exact h
  | d :: ds, xs, n, h => by
    unfold gD at n; rw [Bool.and_eq_true] at n
    unfold aV at h ⊢; obtain ⟨x, r, h1, h2, h3⟩ := h; exact ⟨x, r, h1, But.den e ht d x n.1 h2, But.denAll e ht ds r n.2 h3⟩
end
end
theorem bG {α : Type} (f : α -> PyData) (h : ∀ x, eN (f x) = true) : ∀ l : List α, gD (l.map f) = true
  | [] => by unfold List.map gD; rfl
  | x :: r => by rw [List.map_cons]; unfold gD; rw [h x, bG f h r]; rfl
theorem oN (i : Int) : eN (.int i) = true := by unfold eN; rfl
theorem bH (l : List Int) : eN (bX l) = true := by unfold bX eN; exact bG _ oN l
theorem uX (l : List Int) : eN (cG l) = true := bH l
theorem uY (n : Int) (ws : List (List Int)) : eN (cK n ws) = true := by
  unfold cK eN gD
  rw [oN]
  unfold gD eN
  rw [bG _ bH ws]
  unfold gD
  rfl
def eV (K : PySem.W.Frag) (H : Hp) (t a : Addr) (ns : List Int) : Prop := (∃ p q : Int, 0 <= p /\ H t = some (.lst [.ref a, .int p, .int q])) /\ SqL K H a (ns.map V.int)
theorem eV.same {K : PySem.W.Frag} {H H' : Hp} {t a : Addr} {ns : List Int} (h : eV K H t a ns) (e : aE H H') : eV K H' t a ns := by
  obtain ⟨⟨p, q, h1, h2⟩, h3⟩ := h
  exact ⟨⟨p, q, h1, e t _ h2⟩, e.seqL h3⟩
theorem eV.den {K : PySem.W.Frag} {H H' : Hp} {t a : Addr} {ns : List Int} (h : eV K H t a ns) (e : But t H H') {d : PyData} {v : V} (n : eN d = true) (hd : Den K H d v) : Den K H' d v := by
  obtain ⟨⟨p, q, h1, h2⟩, h3⟩ := h
  exact e.den h2 d v n hd
theorem eV.seqT {K : PySem.W.Frag} {H H' : Hp} {t a : Addr} {ns : List Int} (h : eV K H t a ns) (e : But t H H') {b : Addr} {xs : List V} (hd : SqT K H b xs) : SqT K H' b xs := by
  obtain ⟨⟨p, q, h1, h2⟩, h3⟩ := h
  exact e.seqT h2 hd
theorem eV.ne {K : PySem.W.Frag} {H : Hp} {t a : Addr} {ns : List Int} (h : eV K H t a ns) {b : Addr} (hb : H b = none) : b ≠ t := by
  obtain ⟨⟨p, q, h1, h2⟩, h3⟩ := h
  intro z
  rw [z, h2] at hb
  cases hb
theorem wU {ns : List Int} {xs : List V} {a : Addr} {r : List V} (h : ns.map V.int = .ref a :: r) : False := by
  cases ns with
  | nil => cases h
  | cons _ _ => rw [List.map_cons] at h; cases h
theorem eM {K : PySem.W.Frag} {H : Hp} {t a : Addr} {ns : List Int} {p q : Int} {u : HO} (h2 : H t = some (.lst [.ref a, .int p, .int q])) (h : SqL K H a (ns.map V.int)) : SqL K (upd H t u) a (ns.map V.int) := by
  rcases h with (h | ⟨o, h⟩) | h
  · have n : a ≠ t := fun z => by
      rw [z, h2] at h
      injection h with h
      injection h with h
      exact wU (xs := []) h.symm
    exact .inl (.inl (by rw [aI n]; exact h))
  · have n : a ≠ t := fun z => by
      rw [z, h2] at h
      cases h
    exact .inl (.inr ⟨o, by rw [aI n]; exact h⟩)
  · exact .inr h
section
variable {P : Program} {w : World} {K : PySem.W.Frag} {mg : Str -> Option Value} {base : Heap}
theorem cR (ns : List Int) : eJ (.list (ns.map .int)) = true := by
  unfold eJ
  induction ns with
  | nil => unfold List.map iO; rfl
  | cons n r ih => rw [List.map_cons]; unfold iO; rw [ih]; unfold eJ; rfl
theorem kS {α : Type} (f : α -> PyData) (h : ∀ x, (f x).canLay0 = true) : ∀ l : List α, PyData.canLayAll0 (l.map f) = true
  | [] => by unfold List.map PyData.canLayAll0; rfl
  | x :: r => by rw [List.map_cons]; unfold PyData.canLayAll0; rw [h x, kS f h r]; rfl
theorem mI {α : Type} {k : Nat} (f : α -> PyData) (h : ∀ x, (f x).depth <= k) : ∀ l : List α, PyData.depthAll (l.map f) <= k
  | [] => by unfold List.map PyData.depthAll; exact Nat.zero_le _
  | x :: r => by rw [List.map_cons]; unfold PyData.depthAll; exact Nat.max_le.mpr ⟨h x, mI f h r⟩
theorem oO (i : Int) : (PyData.int i).canLay0 = true := by unfold PyData.canLay0; rfl
theorem qT (i : Int) : (PyData.int i).depth <= 0 := by unfold PyData.depth; exact Nat.le_refl _
theorem sT (ns : List Int) : (PyData.list (ns.map .int)).canLay0 = true := by unfold PyData.canLay0; exact kS _ oO ns
theorem sU (ns : List Int) : (PyData.tuple (ns.map .int)).canLay0 = true := by unfold PyData.canLay0; exact kS _ oO ns
theorem uZ (ns : List Int) : (PyData.list (ns.map .int)).depth <= 1 := by unfold PyData.depth; exact Nat.succ_le_succ (mI _ qT ns)
theorem vA (ns : List Int) : (PyData.tuple (ns.map .int)).depth <= 1 := by unfold PyData.depth; exact Nat.succ_le_succ (mI _ qT ns)
theorem qU {d : PyData} (h1 : d.canLay0 = true) (h2 : d.depth <= 64) : SeqAt.shaped d = true := by
  unfold SeqAt.shaped
  rw [h1, decide_eq_true h2]
  rfl
theorem dY (ns : List Int) : SeqAt.shaped (.list (ns.map .int)) = true := qU (sT ns) (Nat.le_trans (uZ ns) (by decide))
theorem lN (ns : List Int) : SeqAt.shaped (.tuple (ns.map .int)) = true := qU (sU ns) (Nat.le_trans (vA ns) (by decide))
theorem lO (ns : List Int) : eJ (.tuple (ns.map .int)) = true := by
  have h := cR ns
  unfold eJ at h ⊢
  exact h
def aBh : Sp := fun vs H Q _ => ∃ c a : Int, vs = [.int c, .int a] /\ ∀ r, Q (.int r) H
theorem sV : FnScope ["cell", "at", "first", "second", "third"] ["cell", "at"] (aH yF) := ⟨rfl, rfl, rfl, by decide +kernel, rfl, by decide +kernel, by decide +kernel⟩
theorem aCg {f : Addr} {fd : FuncData} (G : Fn K mg "_law_b_stirred" yF ["cell", "at"] f fd) : FnOk P w K mg base CX0 1 f fd ["cell", "at"] aBh := by
  refine G.fn.ok sV (fun vs H Q E h => ?_) (fun cdv A outer s H vs Q E hr h => ?_)
  · obtain ⟨c, a, rfl, _⟩ := h
    rfl
  · obtain ⟨c, a, rfl, k⟩ := h
    refine ⟨_, aD (bR (aN qB (pv 0) (bK aCV aG aG) (aS _)) (aF (aM (pv 0))) aW)
      (aD (aU (i := 2) sV.nd rfl (Or.inl rfl) (bK iZ (bK dQ (bK dQ (bK gT (bK iZ (pv 0) aG) aG) (bK gT (pv 1) aG)) aG) aG))
      (aD (aU (i := 3) sV.nd rfl (Or.inl rfl) (bK iZ (bK dQ (bK dQ (bK gT (pv 2) (pv 2)) (bK gT aG (pv 1))) aG) aG))
      (aD (aU (i := 4) sV.nd rfl (Or.inl rfl) (bK iZ (bK dQ (bK dQ (bK gT (pv 3) (pv 3)) (bK gT aG (pv 2))) (pv 1)) aG))
      (aF (aM (bK dQ (bK gT (pv 3) aG) (pv 4))))))), ?_⟩
    refine ⟨_, rfl, _, _, rfl, rfl, ⟨by decide, by decide, by decide⟩, _, _, rfl, rfl, _, rfl, ?_⟩
    refine cN (fun c1 => ?_) (fun c1 => ?_)
    · exact ⟨_, rfl, k _⟩
    · refine ⟨_, rfl, _, _, rfl, rfl, (show (0 : Int) < _ by decide), _, _, rfl, rfl, .inr ⟨by decide, by decide⟩, _, rfl, _, _, rfl, rfl, .inr ⟨by decide, by decide⟩, _, _, rfl, rfl, _, _, rfl, rfl, _, _, rfl, rfl, (show (0 : Int) < _ by decide), ?_⟩
      generalize hf : ((c % 2147483629 * 43591 + a * 6661 + 353) % 2147483587 : Int) = f1
      have b1 : 0 <= f1 /\ f1 < 2147483587 := by rw [<- hf]; exact ⟨Int.emod_nonneg _ (by decide), Int.emod_lt_of_pos _ (by decide)⟩
      refine ⟨_, rfl, _, rfl, _, _, rfl, rfl, .inl ⟨by omega, by omega⟩, _, rfl, _, _, rfl, rfl, .inl ⟨by decide, by decide⟩, _, _, rfl, rfl, _, _, rfl, rfl, _, _, rfl, rfl, (show (0 : Int) < _ by decide), ?_⟩
      generalize hg : ((f1 * f1 + 727 * a + 89) % 2147483579 : Int) = f2
      have b2 : 0 <= f2 /\ f2 < 2147483579 := by rw [<- hg]; exact ⟨Int.emod_nonneg _ (by decide), Int.emod_lt_of_pos _ (by decide)⟩
      refine ⟨_, rfl, _, rfl, _, _, rfl, rfl, .inl ⟨by omega, by omega⟩, _, rfl, _, _, rfl, rfl, .inl ⟨by decide, by decide⟩, _, _, rfl, rfl, _, rfl, _, _, rfl, rfl, _, _, rfl, rfl, (show (0 : Int) < _ by decide), ?_⟩
      exact ⟨_, rfl, _, _, rfl, rfl, .inr ⟨by decide, by decide⟩, _, rfl, _, _, rfl, rfl, k _⟩
def jU (K : PySem.W.Frag) : Sp := fun vs H Q _ => ∃ (t a : Addr) (ns : List Int) (m : Int), vs = [.ref t, .int m] /\ eV K H t a ns /\ 0 < m /\ m < 1267650600228229401496703205376 /\ ∀ r H', 0 <= r -> r < m -> But t H H' -> eV K H' t a ns -> Q (.int r) H'
theorem _root_.L2.Room.u64 {k : Nat} {A : Around} (r : Room k A) : A.units + 64 < cLine := by have := r.un; omega
theorem jV : FnScope ["tape", "many", "at", "cell", "found"] ["tape", "many"] (aH kR) := ⟨rfl, rfl, rfl, by decide +kernel, rfl, by decide +kernel, by decide +kernel⟩
theorem aBi {f fS : Addr} {fd fdS : FuncData} (G : Fn K mg "_law_b_digit" kR ["tape", "many"] f fd) (B : Bl mg) (GS : Fn K mg "_law_b_stirred" yF ["cell", "at"] fS fdS) : FnOk P w K mg base CX0 2 f fd ["tape", "many"] (jU K) := by
  have OS : FnOk P w K mg base CX0 1 fS fdS ["cell", "at"] aBh := aCg GS
  refine G.fn.ok jV (fun vs H Q E h => ?_) (fun cdv A outer s H vs Q E hr h => ?_)
  · obtain ⟨t, a, ns, m, rfl, _⟩ := h
    rfl
  · obtain ⟨t, a, ns, m, rfl, ⟨⟨p, q, hp, ht⟩, hns⟩, hm1, hm2, k⟩ := h
    refine ⟨_, aD (bR (aN tL (bC bZ (pv 0) aG (fun _ _ => rfl)) (pv 1) (aS _))
        (aD (aU (i := 2) jV.nd rfl (Or.inl rfl) (bC bZ (pv 0) aG (fun _ _ => rfl)))
        (aD (aU (i := 3) jV.nd rfl (Or.inl rfl) (bK dQ (bK gT aG (pv 2)) aG))
        (aD (bR (aN tL (pv 2) (aP bA rfl B.len fP (aA (bC bZ (pv 0) aG (fun _ _ => rfl)) aC)) (aS _))
            (aF (aU (i := 3) jV.nd rfl (Or.inl rfl) (bC bZ (bC bZ (pv 0) aG (fun _ _ => rfl)) (pv 2) (fun _ _ => rfl))))
            (aF (bR (aN (aAC hr.u64) (bC bZ (pv 0) aG (fun _ _ => rfl)) (gI aC) (aS _))
              (aF (aU (i := 3) jV.nd rfl (Or.inl rfl) (bK dQ (bK iZ (bC bZ (bC bZ (pv 0) aG (fun _ _ => rfl)) (bK iZ (bK gT (pv 2) aG) (aP bA rfl B.len fP (aA (bC bZ (pv 0) aG (fun _ _ => rfl)) aC))) (fun _ _ => rfl)) aG) (bK gT (pv 2) aG))))
              aW)))
        (aD (gR (bK dQ (pv 2) aG) (rT (pv 0) aG lD))
        (aF (gR (aQ GS OS hr rfl (aA (pv 3) (aA (pv 2) aC))) (rT (pv 0) aG lD)))))))
        aW)
      (aD (aU (i := 4) jV.nd rfl (Or.inl rfl) (bK iZ (bC bZ (pv 0) aG (fun _ _ => rfl)) (pv 1)))
      (aD (gR (bK aAL (bC bZ (pv 0) aG (fun _ _ => rfl)) (pv 1)) (rT (pv 0) aG lD))
      (aF (aM (pv 4))))), ?_⟩
    refine ⟨_, rfl, t, _, 2, .int q, rfl, rfl, SqL.of ht, rfl, _, rfl, _, _, rfl, rfl, _, rfl, ?_⟩
    refine cN (fun c1 => ?_) (fun c1 => ?_)
    · refine ⟨_, rfl, t, _, 1, .int p, rfl, rfl, SqL.of ht, rfl, ?_⟩
      refine ⟨_, rfl, _, _, rfl, rfl, .inl ⟨by decide, by decide⟩, _, _, rfl, rfl, ?_⟩
      refine ⟨_, rfl, _, rfl, t, _, 0, .ref a, rfl, rfl, SqL.of ht, rfl, a, _, rfl, .inl hns, _, _, rfl, rfl, _, rfl, ?_⟩
      refine cN (fun c2 => ?_) (fun c2 => ?_)
      · have c2' : p < ((ns.map V.int).length : Int) := of_decide_eq_true c2
        rw [List.length_map] at c2'
        have hlt : p.toNat < ns.length := by omega
        have hat : atI (ns.map V.int) p = some (.int (ns[p.toNat])) := by
          have h1 : (ns.map V.int)[p.toNat]? = some (.int (ns[p.toNat])) := by rw [List.getElem?_map, List.getElem?_eq_getElem hlt]; rfl
          have h2 := eC h1
          rwa [Int.toNat_of_nonneg hp] at h2
        refine ⟨_, rfl, t, _, 0, .ref a, rfl, rfl, SqL.of ht, rfl, _, rfl, a, _, _, _, rfl, rfl, hns, hat, ?_⟩
        refine ⟨_, rfl, _, _, rfl, rfl, _, rfl, t, _, _, 1, rfl, rfl, ht, rfl, ?_⟩
        refine ⟨_, rfl, _, rfl, _, _, rfl, fun r => ⟨_, rfl, t, _, _, 2, rfl, rfl, aB, rfl, ?_⟩⟩
        refine ⟨_, rfl, t, _, 2, .int r, rfl, rfl, SqL.of aB, rfl, _, rfl, _, _, rfl, rfl, hm1, ?_⟩
        refine ⟨_, rfl, t, _, 2, .int r, rfl, rfl, SqL.of aB, rfl, _, rfl, _, _, rfl, rfl, ⟨hm1, hm2⟩, _, rfl, t, _, _, 2, rfl, rfl, aB, rfl, ?_⟩
        exact ⟨_, rfl, k _ _ (Int.emod_nonneg _ (by omega)) (Int.emod_lt_of_pos _ hm1) ((But.refl t H).trans (But.at.trans (But.at.trans But.at))) ⟨⟨p + 1, r / m, by omega, aB⟩, eM (p := p + 1) (q := r) aB (eM (p := p + 1) (q := q) aB (eM ht hns))⟩⟩
      · refine ⟨_, rfl, t, _, 0, .ref a, rfl, rfl, SqL.of ht, rfl, by decide, fun l hl => ?_⟩
        have ntl : t ≠ l := fun z => by rw [<- z, ht] at hl; cases hl
        have ht' : upd H l (.lst []) t = some (.lst [.ref a, .int p, .int q]) := by rw [aI ntl]; exact ht
        have hns' : SqL K (upd H l (.lst [])) a (ns.map V.int) := (aE.new hl).seqL hns
        have bl : But t H (upd H l (.lst [])) := But.of (aE.new hl)
        refine ⟨.list (ns.map .int), .list [], fX.mpr ⟨a, rfl, hns'⟩, lG.mpr ⟨l, [], rfl, SqL.of aB, bD.mpr rfl⟩, cR ns, rfl, dY ns, rfl, _, rfl, ?_⟩
        refine cN (fun c3 => ?_) (fun c3 => ?_)
        · have hpos : 0 < ns.length := by
            cases ns with
            | nil => simp [PyData.eqv, PyData.eqvAll] at c3
            | cons _ _ => simp
          have hlt : (p * 3 % (ns.length : Int)).toNat < ns.length := by
            have := Int.emod_nonneg (p * 3) (show (ns.length : Int) ≠ 0 by omega)
            have := Int.emod_lt_of_pos (p * 3) (show (0 : Int) < ns.length by omega)
            omega
          have hat : atI (ns.map V.int) (p * 3 % ((ns.map V.int).length : Int)) = some (.int (ns[(p * 3 % (ns.length : Int)).toNat])) := by
            have h1 : (ns.map V.int)[(p * 3 % (ns.length : Int)).toNat]? = some (.int (ns[(p * 3 % (ns.length : Int)).toNat])) := by rw [List.getElem?_map, List.getElem?_eq_getElem hlt]; rfl
            have h2 := eC h1
            rw [List.length_map]
            rwa [Int.toNat_of_nonneg (Int.emod_nonneg _ (by omega))] at h2
          refine ⟨_, rfl, t, _, 0, .ref a, rfl, rfl, SqL.of ht', rfl, _, rfl, _, _, rfl, rfl, .inr ⟨by decide, by decide⟩, _, rfl, t, _, 0, .ref a, rfl, rfl, SqL.of ht', rfl, a, _, rfl, .inl hns', _, _, rfl, rfl, (show (0 : Int) < ((ns.map V.int).length : Int) by rw [List.length_map]; omega), a, _, _, _, rfl, rfl, hns', hat, _, _, rfl, rfl, (show (0 : Int) < _ by decide), _, rfl, _, _, rfl, rfl, .inr ⟨by decide, by decide⟩, _, _, rfl, rfl, ?_⟩
          refine ⟨_, rfl, _, _, rfl, rfl, _, rfl, t, _, _, 1, rfl, rfl, ht', rfl, ?_⟩
          refine ⟨_, rfl, _, rfl, _, _, rfl, fun r => ⟨_, rfl, t, _, _, 2, rfl, rfl, aB, rfl, ?_⟩⟩
          refine ⟨_, rfl, t, _, 2, .int r, rfl, rfl, SqL.of aB, rfl, _, rfl, _, _, rfl, rfl, hm1, ?_⟩
          refine ⟨_, rfl, t, _, 2, .int r, rfl, rfl, SqL.of aB, rfl, _, rfl, _, _, rfl, rfl, ⟨hm1, hm2⟩, _, rfl, t, _, _, 2, rfl, rfl, aB, rfl, ?_⟩
          exact ⟨_, rfl, k _ _ (Int.emod_nonneg _ (by omega)) (Int.emod_lt_of_pos _ hm1) (bl.trans (But.at.trans (But.at.trans But.at))) ⟨⟨p + 1, r / m, by omega, aB⟩, eM (p := p + 1) (q := r) aB (eM (p := p + 1) (q := q) aB (eM ht' hns'))⟩⟩
        · show _
          refine ⟨_, rfl, _, _, rfl, rfl, _, rfl, t, _, _, 1, rfl, rfl, ht', rfl, ?_⟩
          refine ⟨_, rfl, _, rfl, _, _, rfl, fun r => ⟨_, rfl, t, _, _, 2, rfl, rfl, aB, rfl, ?_⟩⟩
          refine ⟨_, rfl, t, _, 2, .int r, rfl, rfl, SqL.of aB, rfl, _, rfl, _, _, rfl, rfl, hm1, ?_⟩
          refine ⟨_, rfl, t, _, 2, .int r, rfl, rfl, SqL.of aB, rfl, _, rfl, _, _, rfl, rfl, ⟨hm1, hm2⟩, _, rfl, t, _, _, 2, rfl, rfl, aB, rfl, ?_⟩
          exact ⟨_, rfl, k _ _ (Int.emod_nonneg _ (by omega)) (Int.emod_lt_of_pos _ hm1) (bl.trans (But.at.trans (But.at.trans But.at))) ⟨⟨p + 1, r / m, by omega, aB⟩, eM (p := p + 1) (q := r) aB (eM (p := p + 1) (q := q) aB (eM ht' hns'))⟩⟩
    · show _
      refine ⟨_, rfl, t, _, 2, .int q, rfl, rfl, SqL.of ht, rfl, _, rfl, _, _, rfl, rfl, hm1, ?_⟩
      refine ⟨_, rfl, t, _, 2, .int q, rfl, rfl, SqL.of ht, rfl, _, rfl, _, _, rfl, rfl, ⟨hm1, hm2⟩, _, rfl, t, _, _, 2, rfl, rfl, ht, rfl, ?_⟩
      exact ⟨_, rfl, k _ _ (Int.emod_nonneg _ (by omega)) (Int.emod_lt_of_pos _ hm1) (But.at) ⟨⟨p, q / m, by omega, aB⟩, eM ht hns⟩⟩
end
end Ab
set_option Elab.async false
set_option linter.all false
set_option maxRecDepth 100000
namespace Ab
open PySem L2
theorem vB (n : Int) : ∀ (l : List Int) (last : Int), (∀ x ∈ l, last < x) -> l.Pairwise (· < ·) -> (∀ x ∈ l, x < n) -> cY n last (l.map .int) = true
  | [], _, _, _, _ => rfl
  | x :: r, last, h1, h2, h3 => by
    rw [List.map_cons, gJ]
    have h2' := List.pairwise_cons.mp h2
    rw [decide_eq_true (h1 x (List.mem_cons_self ..)), decide_eq_true (h3 x (List.mem_cons_self ..)), vB n r x h2'.1 h2'.2 (fun y hy => h3 y (List.mem_cons_of_mem _ hy))]
    rfl
theorem iR {n : Int} {l : List Int} (h0 : l ≠ []) (h1 : ∀ x ∈ l, 0 <= x /\ x < n) (h2 : l.Pairwise (· < ·)) : cA n (bX l) = true := by
  have e : cA n (bX l) = (!(l.map PyData.int).isEmpty && cY n (-1) (l.map .int)) := rfl
  rw [e, vB n l (-1) (fun x hx => by have := (h1 x hx).1; omega) h2 (fun x hx => (h1 x hx).2)]
  cases l with
  | nil => exact absurd rfl h0
  | cons _ _ => rfl
theorem mW (n : Int) : ∀ (l : List Int) (last : Int), cY n last (l.map .int) = true -> l.Pairwise (· < ·) /\ ∀ x ∈ l, last < x /\ x < n
  | [], _, _ => ⟨.nil, fun _ h => by cases h⟩
  | x :: r, last, h => by
    rw [List.map_cons, gJ, Bool.and_eq_true, Bool.and_eq_true] at h
    obtain ⟨⟨h1, h2⟩, h3⟩ := h
    have h1 := of_decide_eq_true h1
    have h2 := of_decide_eq_true h2
    obtain ⟨i1, i2⟩ := mW n r x h3
    refine ⟨List.pairwise_cons.mpr ⟨fun y hy => (i2 y hy).1, i1⟩, fun y hy => ?_⟩
    rcases List.mem_cons.mp hy with rfl | hy
    · exact ⟨h1, h2⟩
    · exact ⟨by have := (i2 y hy).1; omega, (i2 y hy).2⟩
theorem bJ {n : Int} {l : List Int} (h : cA n (bX l) = true) : l ≠ [] /\ (∀ x ∈ l, 0 <= x /\ x < n) /\ l.Pairwise (· < ·) := by
  have e : (!(l.map PyData.int).isEmpty && cY n (-1) (l.map .int)) = true := h
  rw [Bool.and_eq_true] at e
  obtain ⟨h1, h2⟩ := mW n l (-1) e.2
  refine ⟨fun z => by rw [z] at e; simp at e, fun x hx => ⟨by have := (h2 x hx).1; omega, (h2 x hx).2⟩, h1⟩
theorem oP {n : Int} : ∀ (l : List Int) (lo : Int), lo <= n -> (∀ x ∈ l, lo <= x /\ x < n) -> l.Pairwise (· < ·) -> (l.length : Int) <= n - lo
  | [], lo, h, _, _ => by simp; omega
  | x :: r, lo, h, h1, h2 => by
    have h2' := List.pairwise_cons.mp h2
    have hx := h1 x (List.mem_cons_self ..)
    have := oP r (x + 1) (by omega) (fun y hy => ⟨by have := h2'.1 y hy; omega, (h1 y (List.mem_cons_of_mem _ hy)).2⟩) h2'.2
    rw [List.length_cons]
    omega
theorem fY {n : Int} {l : List Int} (hn : 0 <= n) (h1 : ∀ x ∈ l, 0 <= x /\ x < n) (h2 : l.Pairwise (· < ·)) : (l.length : Int) <= n := by
  have := oP l 0 hn h1 h2
  omega
theorem aBj {n : Nat} {x : Int} : x ∈ bF n ↔ 0 <= x /\ x < n := by
  unfold bF
  rw [List.mem_map]
  constructor
  · rintro ⟨i, hi, rfl⟩
    have := List.mem_range.mp hi
    show 0 <= (i : Int) /\ (i : Int) < n
    omega
  · rintro ⟨h1, h2⟩
    exact ⟨x.toNat, List.mem_range.mpr (by omega), by show ((x.toNat : Nat) : Int) = x; omega⟩
theorem wV (n : Nat) : (bF n).Pairwise (· < ·) := by
  unfold bF
  rw [List.pairwise_map]
  refine List.pairwise_lt_range.imp fun h => ?_
  show ((_ : Nat) : Int) < ((_ : Nat) : Int)
  omega
theorem zY {a b : Nat} : (kN a b).Pairwise (· < ·) /\ kN a b ≠ [] /\ ∀ x ∈ kN a b, x = (a : Int) ∨ x = (b : Int) := by
  unfold kN
  split
  · exact ⟨by simp, by simp, fun x hx => by simp at hx; exact .inl hx⟩
  · split
    · refine ⟨?_, by simp, fun x hx => by simpa using hx⟩
      rw [List.pairwise_cons]
      exact ⟨fun y hy => by simp at hy; omega, by simp⟩
    · refine ⟨?_, by simp, fun x hx => by simp at hx; exact hx.symm⟩
      rw [List.pairwise_cons]
      exact ⟨fun y hy => by simp at hy; omega, by simp⟩
end Ab
set_option Elab.async false
set_option linter.all false
set_option maxRecDepth 100000
namespace Ab
open PySem L2
section
variable {P : Program} {w : World} {K : PySem.W.Frag} {mg : Str -> Option Value} {base : Heap}
theorem aCh {X : Cx} (hK : X.K = K) (hu : X.A.units + 64 < cLine) : OpR X (compareOp .Eq) (fun x y H Q => ∃ d e, Den K H d x /\ Den K H e y /\ eJ d = true /\ eJ e = true /\ SeqAt.shaped d = true /\ SeqAt.shaped e = true /\ Q (.bl (PyData.eqv d e)) H) := by subst hK; exact wE hu
theorem jM : ∀ (a b : List Int), PyData.eqvAll (a.map .int) (b.map .int) = decide (a = b)
  | [], [] => by simp [PyData.eqvAll]
  | [], _ :: _ => by simp [PyData.eqvAll]
  | _ :: _, [] => by simp [PyData.eqvAll]
  | x :: r, y :: s => by
    rw [List.map_cons, List.map_cons, PyData.eqvAll, jM r s, PyData.eqv]
    by_cases h : x = y
    · by_cases h2 : r = s
      · simp [h, h2]
      · simp [h, h2]
    · simp [h]
theorem mJ (a b : List Int) : PyData.eqv (.list (a.map .int)) (.list (b.map .int)) = decide (a = b) := by rw [PyData.eqv, jM]
theorem zZ (a b : List Int) : PyData.eqv (.tuple (a.map .int)) (.tuple (b.map .int)) = decide (a = b) := by rw [PyData.eqv, jM]
theorem sz1 (x : V) : [x].length <= sizeLine := by rw [sizeLine_eq]; simp
theorem sz2 (x y : V) : [x, y].length <= sizeLine := by rw [sizeLine_eq]; simp
theorem hV {n : Nat} (h : n <= 1000) : n <= sizeLine := by rw [sizeLine_eq]; omega
def wW (K : PySem.W.Frag) : Sp := fun vs H Q _ => ∃ (t a : Addr) (ns : List Int) (n kd : Int), vs = [.ref t, .int n, .int kd] /\ eV K H t a ns /\ 1 <= n /\ n <= 6 /\ ∀ l p H', cA n (bX l) = true -> But t H H' -> eV K H' t a ns -> SqT K H' p (l.map V.int) -> Q (.ref p) H'
theorem oQ : FnScope ["tape", "hands", "kind", "first", "often", "some"] ["tape", "hands", "kind"] (aH qQ) := ⟨rfl, rfl, rfl, by decide +kernel, rfl, by decide +kernel, by decide +kernel⟩
theorem aCi {f fD : Addr} {fd fdD : FuncData} (G : Fn K mg "_law_b_work" qQ ["tape", "hands", "kind"] f fd) (B : Bl mg) (GD : Fn K mg "_law_b_digit" kR ["tape", "many"] fD fdD) (OD : FnOk P w K mg base CX0 2 fD fdD ["tape", "many"] (jU K)) : FnOk P w K mg base CX0 3 f fd ["tape", "hands", "kind"] (wW K) := by
  refine G.fn.ok oQ (fun vs H Q E h => ?_) (fun cdv A outer s H vs Q E hr h => ?_)
  · obtain ⟨t, a, ns, n, kd, rfl, _⟩ := h
    rfl
  · obtain ⟨t, a, ns, n, kd, rfl, hT, hn1, hn6, k⟩ := h
    refine ⟨_, aD (aU (i := 3) oQ.nd rfl (Or.inr rfl) (aQ GD OD hr rfl (aA (pv 0) (aA (pv 1) aC))))
      (aD (bR (aN hJ (pv 2) aG (aS _)) (aF (aM (iN (aA (pv 3) aC)))) aW)
      (aD (bR (aN hJ (pv 2) aG (aS _)) (aF (aM (bT bN rfl B.tuple cH (aA (aP (nC rfl) rfl B.sorted uR (aA (bT (zL rfl) rfl B.set aCE (aA (gI (aA (pv 3) (aA (bK iZ (bK dQ (pv 3) aG) (pv 1)) aC))) aC)) aC)) aC)))) aW)
      (aD (bR (aN hJ (pv 2) aG (aS _)) (aF (aM (bT (nW rfl) rfl B.tuple cH (aA (bT tV rfl B.range aB9 (aA (pv 1) aC)) aC)))) aW)
      (aD (aU (i := 4) oQ.nd rfl (Or.inr rfl) (bK dQ aG (aQ GD OD hr rfl (aA (pv 0) (aA aG aC)))))
      (aD (aU (i := 5) oQ.nd rfl (Or.inr rfl)
        (dJ (own := ["hand"]) (fr := [3, 4, 0]) (frn := ["first", "often", "tape"]) (bU (aH qQ) ["tape", "hands", "kind", "first", "often", "some"] rfl rfl (by decide +kernel)) rfl (eQ rfl B.range (aA (pv 1) aC))
          (fun _ _ _ _ => aK (i := 0) (show (["hand", "first", "often", "tape"] : List Str).Nodup by decide +kernel) rfl (Or.inl rfl))
          (fun _ _ _ _ => aAz (PW.pt (gE (aN hJ (pv 0) (pv 1) (aS _)) (eI (aN hJ (aQ GD OD hr rfl (aA (pv 3) (aA (pv 2) aC))) aG (aS _))))))
          (fun _ _ _ _ => pv 0)))
      (aD (bR (PW.pt (vS (aN hJ (pv 2) aG (aS _)) (rS (aN tL (aP bA rfl B.len fP (aA (pv 5) aC)) (pv 1) (aS _)))))
        (aF (aU (i := 5) oQ.nd rfl (Or.inr rfl)
          (dJ (own := ["hand"]) (fr := [5]) (frn := ["some"]) (bU (aH qQ) ["tape", "hands", "kind", "first", "often", "some"] rfl rfl (by decide +kernel)) rfl (lA (pv 5))
            (fun _ _ _ _ => aK (i := 0) (show (["hand", "some"] : List Str).Nodup by decide +kernel) rfl (Or.inl rfl))
            (fun _ _ _ _ => aAz (PW.pt (gE (aN tN (pv 0) aG (aS _)) (eI (aN (aCh (K := K) rfl hr.u64) (pv 1) (gI (aA aG aC)) (aS _))))))
            (fun _ _ _ _ => pv 0)))) aW)
      (aF (aM (bT bN rfl B.tuple cH (aA (pv 5) aC)))))))))), ?_⟩
    refine ⟨_, rfl, _, rfl, t, a, ns, n, rfl, hT, by omega, by omega, fun first H1 hf0 hf1 b1 T1 => ?_⟩
    obtain ⟨fn, rfl⟩ : ∃ fn : Nat, first = fn := ⟨first.toNat, by omega⟩
    obtain ⟨m, rfl⟩ : ∃ m : Nat, n = m := ⟨n.toNat, by omega⟩
    refine ⟨_, rfl, rfl, _, rfl, ?_⟩
    refine cN (fun c1 => ?_) (fun c1 => ?_)
    · refine ⟨_, rfl, sz1 _, fun p hp => ?_⟩
      refine k [(fn : Int)] p _ (iR (by simp) (fun x hx => ?_) (by simp)) (b1.trans (But.of (aE.new hp))) (T1.same (aE.new hp)) (SqT.of aB)
      rw [List.mem_singleton] at hx
      omega
    refine ⟨_, rfl, rfl, _, rfl, ?_⟩
    refine cN (fun c2 => ?_) (fun c2 => ?_)
    · have hmod0 : 0 <= ((fn : Int) + 1) % (m : Int) := Int.emod_nonneg _ (by omega)
      have hmod1 : ((fn : Int) + 1) % (m : Int) < m := Int.emod_lt_of_pos _ (by omega)
      have hg : ∃ g : Nat, ((fn : Int) + 1) % (m : Int) = g := ⟨(((fn : Int) + 1) % (m : Int)).toNat, by omega⟩
      obtain ⟨g, hg⟩ := hg
      refine ⟨_, rfl, _, rfl, _, _, rfl, rfl, _, rfl, _, _, rfl, rfl, (show (0 : Int) < (m : Int) by omega), sz2 _ _, fun l hl => ?_⟩
      rw [hg] at hmod0 hmod1
      refine ⟨l, fn, g, rfl, SqL.of (by rw [aB]; show some (HO.lst [V.int (fn : Int), V.int (((fn : Int) + 1) % (m : Int))]) = _; rw [hg]), by omega, by omega, fun p hp => ⟨p, fn, g, rfl, aB, by omega, by omega, fun q hq => ⟨q, _, rfl, .inl ⟨SqL.of aB, fun r hr2 => ?_⟩⟩⟩⟩
      have sm := ((aE.new (o := .lst [.int (fn : Int), .int (((fn : Int) + 1) % (m : Int))]) hl).trans ((aE.new hp).trans ((aE.new hq).trans (aE.new (o := .tup ((kN fn g).map V.int)) hr2))))
      obtain ⟨w1, w2, w3⟩ := zY (a := fn) (b := g)
      refine k (kN fn g) r _ (iR w2 (fun x hx => ?_) w1) (b1.trans (But.of sm)) (T1.same sm) (SqT.of aB)
      rcases w3 x hx with e | e <;> omega
    refine ⟨_, rfl, rfl, _, rfl, ?_⟩
    refine cN (fun c3 => ?_) (fun c3 => ?_)
    · refine ⟨_, rfl, (m : Int), rfl, fun p hp => ⟨p, m, rfl, aB, by omega, fun q H' s' hq => ?_⟩⟩
      have sm := (aE.new hp).trans s'
      refine k (bF m) q H' (iR (fun z => ?_) (fun x hx => aBj.mp hx) (wV m)) (b1.trans (But.of sm)) (T1.same sm) hq
      have := cC m
      rw [z] at this
      simp at this
      omega
    refine ⟨_, rfl, t, a, ns, 3, rfl, T1, by decide, by decide, fun r H2 hr0 hr1 b2 T2 => ⟨_, _, rfl, rfl, ?_⟩⟩
    have b02 := b1.trans b2
    refine ⟨_, rfl, (m : Int), rfl, by omega, by omega, kO (lo := 0) (n := ((m : Int)).toNat) (fun σ => ∃ v, σ = [v, some (.int (fn : Int)), some (.int (2 + r)), some (.ref t)])
      (fun i ys H3 => ∃ l : List Int, ys = l.map V.int /\ l.Pairwise (· < ·) /\ (∀ x ∈ l, 0 <= x /\ x < i) /\ (fn < i -> l ≠ []) /\ But t H H3 /\ eV K H3 t a ns) (hV (by omega)) ⟨none, rfl⟩
      ⟨[], rfl, .nil, fun _ h => (List.not_mem_nil h).elim, fun h => (Nat.not_lt_zero _ h).elim, b02, T2⟩ ?_ ?_ ?_⟩
    · rintro i ys H3 ⟨l, rfl, h1, h2, _⟩
      rw [List.length_map]
      have := fY (n := (i : Int)) (by omega) h2 h1
      omega
    · rintro i ys σ H3 hi ⟨v, rfl⟩ ⟨l, rfl, h1, h2, h3, b3, T3⟩ hz
      have hnext : (l ++ [(i : Int)]).Pairwise (· < ·) /\ ∀ x ∈ l ++ [(i : Int)], 0 <= x /\ x < ((i + 1 : Nat) : Int) := by
        refine ⟨List.pairwise_append.mpr ⟨h1, by simp, fun x hx y hy => ?_⟩, fun x hx => ?_⟩
        · rw [List.mem_singleton] at hy
          have := (h2 x hx).2
          omega
        · rcases List.mem_append.mp hx with hx | hx
          · have := h2 x hx
            omega
          · rw [List.mem_singleton] at hx
            omega
      refine ⟨_, rfl, _, rfl, rfl, _, rfl, ?_⟩
      refine cN (fun c4 => ?_) (fun c4 => ?_)
      · refine iA ?_
        refine ⟨_, rfl, hz, ⟨_, rfl⟩, l ++ [(i : Int)], by simp, hnext.1, hnext.2, fun _ => by simp, b3, T3⟩
      · have c4' : ¬ (fn : Int) = i := fun z => c4 (by simp [z])
        refine ⟨_, rfl, _, rfl, t, a, ns, 2 + r, rfl, T3, by omega, by omega, fun r4 H4 hr40 hr41 b4 T4 => ⟨rfl, _, rfl, ?_⟩⟩
        refine cN (fun c5 => ?_) (fun c5 => ?_)
        · refine ⟨_, rfl, hz, ⟨_, rfl⟩, l ++ [(i : Int)], by simp, hnext.1, hnext.2, fun _ => by simp, b3.trans b4, T4⟩
        · refine ⟨⟨_, rfl⟩, l, rfl, h1, fun x hx => ?_, fun h => h3 (by omega), b3.trans b4, T4⟩
          have := h2 x hx
          omega
    · rintro ys H3 ⟨l, rfl, h1, h2, h3, b3, T3⟩ p hp
      have hl0 : l ≠ [] := h3 (by omega)
      have h2' : ∀ x ∈ l, 0 <= x /\ x < (m : Int) := fun x hx => by have := h2 x hx; omega
      have hshort := fY (by omega) h2' h1
      have sp := aE.new (o := .lst (l.map V.int)) hp
      have T3' := T3.same sp
      have b3' := b3.trans (But.of sp)
      have ntp : p ≠ t := T3.ne hp
      have hpl : upd H3 p (.lst (l.map V.int)) p = some (.lst (l.map V.int)) := aB
      generalize hH5 : upd H3 p (.lst (l.map V.int)) = H5 at T3' b3' hpl ⊢
      refine ⟨_, rfl, rfl, _, rfl, ?_⟩
      refine cN (fun c4 => ?_) (fun c4 => ?_)
      · refine ⟨_, rfl, p, _, rfl, .inl (SqL.of hpl), _, rfl, _, _, rfl, rfl, _, rfl, ?_⟩
        refine cN (fun c5 => ?_) (fun c5 => ?_)
        · refine ⟨_, rfl, p, rfl, ⟨_, SqL.of hpl⟩, zN (K := K) (a := p) (xs := l.map V.int) (fun σ => ∃ v, σ = [v, some (.ref p)]) (fun i ys H6 => aE H5 H6 /\ ys = ((l.take i).filter fun h => decide (0 < h) || decide (l = [0])).map V.int) (hV (by rw [List.length_map]; omega)) ⟨none, rfl⟩ ⟨aE.refl _, rfl⟩ ?_ ?_ ?_ ?_⟩
          · rintro i ys H6 ⟨_, rfl⟩
            rw [List.length_map]
            exact Nat.le_trans (List.length_filter_le _ _) (by rw [List.length_take]; omega)
          · rintro i ys H6 ⟨s6, _⟩
            exact s6.seqL (SqL.of hpl)
          · rintro i ys σ x H6 hx ⟨v, rfl⟩ ⟨s6, rfl⟩ hz
            rw [List.getElem?_map] at hx
            obtain ⟨h, hh, rfl⟩ : ∃ h, l[i]? = some h /\ V.int h = x := by
              cases q : l[i]? with
              | none => rw [q] at hx; cases hx
              | some h => rw [q] at hx; exact ⟨h, rfl, Option.some.inj hx⟩
            have etake : l.take (i + 1) = l.take i ++ [h] := by rw [List.take_succ, hh]; rfl
            refine ⟨_, rfl, _, _, rfl, rfl, _, rfl, ?_⟩
            refine cN (fun c6 => ?_) (fun c6 => ?_)
            · refine iA ?_
              refine ⟨_, rfl, hz, ⟨_, rfl⟩, s6, ?_⟩
              rw [etake, List.filter_append, List.map_append]
              simp [of_decide_eq_true c6]
            · refine ⟨_, rfl, sz1 _, fun q hq => ?_⟩
              have s7 := s6.trans (aE.new (o := .lst [V.int 0]) hq)
              refine ⟨.list (l.map .int), .list ([0].map .int), fX.mpr ⟨p, rfl, s7.seqL (SqL.of hpl)⟩, fX.mpr ⟨q, rfl, SqL.of aB⟩, cR _, cR _, dY _, dY _, _, rfl, ?_⟩
              rw [mJ]
              refine cN (fun c7 => ?_) (fun c7 => ?_)
              · refine ⟨_, rfl, hz, ⟨_, rfl⟩, s7, ?_⟩
                rw [etake, List.filter_append, List.map_append]
                simp [of_decide_eq_true c7]
              · refine ⟨⟨_, rfl⟩, s7, ?_⟩
                rw [etake, List.filter_append, List.map_append]
                have c6' : ¬ 0 < h := fun z => c6 (decide_eq_true z)
                have c7' : ¬ l = [0] := fun z => c7 (decide_eq_true z)
                simp [c6', c7']
          · rintro ys H6 ⟨s6, rfl⟩ q hq
            rw [List.length_map, List.take_length]
            have hsub : (l.filter fun h => decide (0 < h) || decide (l = [0])).Sublist l := List.filter_sublist
            refine ⟨_, rfl, q, _, rfl, .inl ⟨SqL.of aB, fun r5 hr5 => ?_⟩⟩
            have sm := s6.trans ((aE.new (o := .lst ((l.filter fun h => decide (0 < h) || decide (l = [0])).map V.int)) hq).trans (aE.new (o := .tup ((l.filter fun h => decide (0 < h) || decide (l = [0])).map V.int)) hr5))
            refine k (l.filter fun h => decide (0 < h) || decide (l = [0])) r5 _ (iR ?_ (fun x hx => h2' x (hsub.mem hx)) (h1.sublist hsub)) (b3'.trans (But.of sm)) (T3'.same sm) (SqT.of aB)
            intro z
            rw [List.filter_eq_nil_iff] at z
            by_cases hl : l = [0]
            · have := z 0 (by rw [hl]; simp)
              simp [hl] at this
            · apply hl
              have hall : ∀ x ∈ l, x = 0 := fun x hx => by
                have hz := z x hx
                have := (h2' x hx).1
                simp [hl] at hz
                omega
              match l, hl0, h1, hall with
              | [x], _, _, ha => rw [ha x (List.mem_singleton.mpr rfl)]
              | x :: y :: r, _, hp, ha =>
                exfalso
                have h3 := (List.pairwise_cons.mp hp).1 y (List.mem_cons_self ..)
                rw [ha x (List.mem_cons_self ..), ha y (List.mem_cons_of_mem _ (List.mem_cons_self ..))] at h3
                omega
        · refine ⟨_, rfl, p, _, rfl, .inl ⟨SqL.of hpl, fun q hq => ?_⟩⟩
          exact k l q _ (iR hl0 h2' h1) (b3'.trans (But.of (aE.new hq))) (T3'.same (aE.new hq)) (SqT.of aB)
      · refine eD ?_
        refine ⟨_, rfl, p, _, rfl, .inl ⟨SqL.of hpl, fun q hq => ?_⟩⟩
        exact k l q _ (iR hl0 h2' h1) (b3'.trans (But.of (aE.new hq))) (T3'.same (aE.new hq)) (SqT.of aB)
end
end Ab
set_option Elab.async false
set_option linter.all false
set_option maxRecDepth 100000
namespace Ab
open PySem L2
def Far (K : PySem.W.Frag) (a f : Addr) (ns : List Int) : Prop := a ≠ f ∨ ∀ H, SqL K H a (ns.map V.int)
theorem wX {K : PySem.W.Frag} {H : Hp} {a f : Addr} {ns : List Int} (h : SqL K H a (ns.map V.int)) (hf : H f = none) : Far K a f ns := by
  rcases h with (h | ⟨o, h⟩) | h
  · exact .inl fun z => by rw [z, hf] at h; cases h
  · exact .inl fun z => by rw [z, hf] at h; cases h
  · exact .inr fun _ => .inr h
theorem eV.wr {K : PySem.W.Frag} {H H' : Hp} {t a f : Addr} {ns : List Int} (T : eV K H t a ns) (b : But f H H') (n : t ≠ f) (F : Far K a f ns) : eV K H' t a ns := by
  obtain ⟨⟨p, q, h1, h2⟩, h3⟩ := T
  refine ⟨⟨p, q, h1, b t _ n h2⟩, ?_⟩
  rcases F with F | F
  · exact b.seqL F h3
  · exact F H'
theorem oR {h : Int} {l : List Int} : fJ (.int h) l = true ↔ h ∈ l := by
  show (l.any (· == h)) = true ↔ _
  rw [List.any_eq_true]
  constructor
  · rintro ⟨x, hx, e⟩
    have : x = h := by simpa using e
    exact this ▸ hx
  · exact fun hx => ⟨h, hx, by simp⟩
theorem lP {ws : List (List Int)} {hs : List Int} (h1 : hs.length = ws.length) (h2 : ∀ (j : Nat) (h : Int) (l : List Int), hs[j]? = some h -> ws[j]? = some l -> h ∈ l) : cW ws (cG hs) = true := by
  show (decide ((hs.map PyData.int).length = ws.length) && ((hs.map PyData.int).zip ws).all fun p => fJ p.1 p.2) = true
  rw [List.length_map, decide_eq_true h1, Bool.true_and, List.all_eq_true]
  rintro ⟨d, l⟩ hm
  obtain ⟨j, hj⟩ := List.mem_iff_getElem?.mp hm
  rw [List.getElem?_zip_eq_some] at hj
  obtain ⟨hj1, hj2⟩ := hj
  have hj1 : (hs.map PyData.int)[j]? = some d := hj1
  have hj2 : ws[j]? = some l := hj2
  rw [List.getElem?_map] at hj1
  cases q : hs[j]? with
  | none => rw [q] at hj1; cases hj1
  | some h =>
    rw [q] at hj1
    obtain rfl : PyData.int h = d := Option.some.inj hj1
    exact oR.mpr (h2 j h l q hj2)
theorem bV {ws : List (List Int)} {hs : List Int} (h : cW ws (cG hs) = true) : hs.length = ws.length /\ ∀ (j : Nat) (h : Int) (l : List Int), hs[j]? = some h -> ws[j]? = some l -> h ∈ l := by
  have h' : (decide ((hs.map PyData.int).length = ws.length) && ((hs.map PyData.int).zip ws).all fun p => fJ p.1 p.2) = true := h
  rw [List.length_map, Bool.and_eq_true, List.all_eq_true] at h'
  refine ⟨of_decide_eq_true h'.1, fun j h l hj hl => ?_⟩
  refine oR.mp (h'.2 (.int h, l) (List.mem_of_getElem? (i := j) ?_))
  rw [List.getElem?_zip_eq_some]
  exact ⟨by rw [List.getElem?_map, hj]; rfl, hl⟩
theorem yN {n : Int} {ws : List (List Int)} (h1 : 1 <= n) (h2 : n <= 6) (h3 : ws.length <= 12) (h4 : ∀ l ∈ ws, cA n (bX l) = true) : cI (cK n ws) = true := by
  show (decide (1 <= n) && decide (n <= 6) && decide ((ws.map bX).length <= 12) && (ws.map bX).all (cA n)) = true
  rw [decide_eq_true h1, decide_eq_true h2, List.length_map, decide_eq_true h3, Bool.true_and, Bool.true_and, Bool.true_and, List.all_eq_true]
  intro d hd
  obtain ⟨l, hl, rfl⟩ := List.mem_map.mp hd
  exact h4 l hl
section
variable {P : Program} {w : World} {K : PySem.W.Frag} {mg : Str -> Option Value} {base : Heap}
theorem qV {H : Hp} {n : Int} {ws : List (List Int)} {a b : Addr} {ys : List V} (h1 : SqT K H a [.int n, .ref b]) (h2 : SqT K H b ys) (h3 : aV K H (ws.map bX) ys) : Den K H (cK n ws) (.ref a) :=
  cJ.mpr ⟨a, _, rfl, h1, aX.mpr ⟨_, _, rfl, eE.mpr rfl, aX.mpr ⟨_, _, rfl, cJ.mpr ⟨b, ys, rfl, h2, h3⟩, bD.mpr rfl⟩⟩⟩
def aBk (K : PySem.W.Frag) : Sp := fun vs H Q _ => ∃ (t a : Addr) (ns : List Int), vs = [.ref t, .int 6, .int 12] /\ eV K H t a ns /\ ∀ n ws p H', cI (cK n ws) = true -> But t H H' -> eV K H' t a ns -> Den K H' (cK n ws) (.ref p) -> Q (.ref p) H'
theorem kT : FnScope ["tape", "hands", "works", "many", "kind", "found", "k", "sort"] ["tape", "hands", "works"] (aH yG) := ⟨rfl, rfl, rfl, by decide +kernel, rfl, by decide +kernel, by decide +kernel⟩
theorem aCj {f fD fK : Addr} {fd fdD fdK : FuncData} (G : Fn K mg "_law_b_book" yG ["tape", "hands", "works"] f fd) (B : Bl mg) (GD : Fn K mg "_law_b_digit" kR ["tape", "many"] fD fdD) (OD : FnOk P w K mg base CX0 2 fD fdD ["tape", "many"] (jU K))
    (GK : Fn K mg "_law_b_work" qQ ["tape", "hands", "kind"] fK fdK) (OK : FnOk P w K mg base CX0 3 fK fdK ["tape", "hands", "kind"] (wW K)) : FnOk P w K mg base CX0 4 f fd ["tape", "hands", "works"] (aBk K) := by
  refine G.fn.ok kT (fun vs H Q E h => ?_) (fun cdv A outer s H vs Q E hr h => ?_)
  · obtain ⟨t, a, ns, rfl, _⟩ := h
    rfl
  · obtain ⟨t, a, ns, rfl, hT, k⟩ := h
    have hr2 : Room 2 _ := hr.mono (by decide)
    refine ⟨_, aD (aU (i := 3) kT.nd rfl (Or.inl rfl) (bK dQ aG (aQ GD OD hr2 rfl (aA (pv 0) (aA (pv 1) aC)))))
      (aD (aU (i := 4) kT.nd rfl (Or.inl rfl) (aQ GD OD hr2 rfl (aA (pv 0) (aA aG aC))))
      (aD (aU (i := 5) kT.nd rfl (Or.inl rfl) (gI aC))
      (aD (eW PassesOwn.never rfl (eQ rfl B.range (aA (aQ GD OD hr2 rfl (aA (pv 0) (aA (bK dQ (pv 2) aG) aC))) aC)) (aK (i := 6) kT.nd rfl (Or.inl rfl))
        (aD (aU (i := 7) kT.nd rfl (Or.inl rfl) (pv 4))
        (aD (bR (aN tN (pv 4) aG (aS _)) (aF (aU (i := 7) kT.nd rfl (Or.inl rfl) (aQ GD OD hr2 rfl (aA (pv 0) (aA aG aC))))) aW)
        (aF (eA (lF PySem.F.plainAttrs_list PySem.F.slot_list_append PySem.F.type_list_append iF (pv 5) (aA (aQ GK OK hr rfl (aA (pv 0) (aA (pv 3) (aA (pv 7) aC)))) aC)))))))
      (aF (aM (iN (aA (pv 3) (aA (bT bN rfl B.tuple cH (aA (pv 5) aC)) aC)))))))), ?_⟩
    refine ⟨_, rfl, _, rfl, t, a, ns, 6, rfl, hT, by decide, by decide, fun r H1 hr0 hr1 b1 T1 => ⟨_, _, rfl, rfl, ?_⟩⟩
    refine ⟨_, rfl, t, a, ns, 8, rfl, T1, by decide, by decide, fun kd H2 hk0 hk1 b2 T2 => ?_⟩
    refine ⟨hV (Nat.zero_le _), fun fl hfl => ?_⟩
    have ntf : t ≠ fl := fun z => T2.ne hfl z.symm
    have F : Far K a fl ns := wX T2.2 hfl
    have s3 := aE.new (o := .lst []) hfl
    have hfl0 : H fl = none := (b1.trans b2).free hfl (Ne.symm ntf)
    have T3 := T2.same s3
    have b03 := b1.trans (b2.trans (But.of s3))
    have hfl3 : upd H2 fl (.lst []) fl = some (.lst []) := aB
    generalize hH3 : upd H2 fl (.lst []) = H3 at T3 b03 hfl3 ⊢
    refine ⟨_, rfl, _, rfl, _, _, rfl, rfl, t, a, ns, 13, rfl, T3, by decide, by decide, fun m H4 hm0 hm1 b4 T4 => ?_⟩
    refine ⟨m, rfl, by omega, by omega, iE (lo := 0) (n := m.toNat) (fun i σ H5 => ∃ (ws : List (List Int)) (xs : List V) (v v2 : Option V), σ = [some (.ref t), some (.int 6), some (.int 12), some (.int (1 + r)), some (.int kd), some (.ref fl), v, v2] /\ ws.length = i /\
      (∀ l ∈ ws, cA (1 + r) (bX l) = true) /\ H5 fl = some (.lst xs) /\ aV K H5 (ws.map bX) xs /\ But t H H5 /\ eV K H5 t a ns)
      ⟨[], [], none, none, rfl, rfl, fun _ h => (List.not_mem_nil h).elim, b4 fl _ (Ne.symm ntf) hfl3, bD.mpr rfl, b03.trans b4, T4⟩ ?_ ?_⟩
    · rintro i σ H5 hi ⟨ws, xs, v, v2, rfl, hl, hw, hx, hd, b5, T5⟩
      have hxl : xs.length = i := by rw [aR hd, List.length_map, hl]
      refine ⟨_, rfl, ?_⟩
      refine ⟨_, rfl, _, _, rfl, rfl, _, rfl, ?_⟩
      refine cN (fun c1 => ?_) (fun c1 => ?_)
      · refine ⟨_, rfl, t, a, ns, 5, rfl, T5, by decide, by decide, fun r2 H6 hr20 hr21 b6 T6 => ?_⟩
        obtain ⟨⟨p5, q5, h5, ht5⟩, hs5⟩ := id T5
        have hx6 : H6 fl = some (.lst xs) := b6 fl _ (Ne.symm ntf) hx
        have hd6 := b6.denAll ht5 _ _ (bG _ bH ws) hd
        refine ⟨_, rfl, .inl ⟨rfl, _, SqL.of hx6⟩, _, rfl, _, rfl, _, rfl, t, a, ns, 1 + r, r2, rfl, T6, by omega, by omega, fun l p H7 hwk b7 T7 hp7 => ?_⟩
        obtain ⟨⟨p6, q6, h6, ht6⟩, hs6⟩ := id T6
        have hx7 : H7 fl = some (.lst xs) := b7 fl _ (Ne.symm ntf) hx6
        have hd7 := b7.denAll ht6 _ _ (bG _ bH ws) hd6
        refine ⟨fl, xs, .ref p, rfl, rfl, hx7, by rw [sizeLine_eq]; omega, ?_⟩
        have b8 : But fl H7 (upd H7 fl (.lst (xs ++ [.ref p]))) := But.at
        refine ⟨ws ++ [l], xs ++ [.ref p], _, _, rfl, by rw [List.length_append, hl]; rfl, fun l2 hl2 => ?_, aB, ?_, (fun b o nb hb => by rw [aI (fun z => by rw [z, hfl0] at hb; cases hb)]; exact ((b5.trans b6).trans b7) b o nb hb), T7.wr b8 ntf F⟩
        · rcases List.mem_append.mp hl2 with h | h
          · exact hw l2 h
          · rw [List.mem_singleton.mp h]; exact hwk
        · rw [List.map_append]
          refine gB (b8.denAll hx7 _ _ (bG _ bH ws) hd7) (aX.mpr ⟨_, _, rfl, ?_, bD.mpr rfl⟩)
          exact aZ.mpr ⟨p, rfl, b8.seqT hx7 hp7⟩
      · show _
        obtain ⟨⟨p5, q5, h5, ht5⟩, hs5⟩ := id T5
        have hx6 : H5 fl = some (.lst xs) := (But.refl t H5) fl _ (Ne.symm ntf) hx
        have hd6 := (But.refl t H5).denAll ht5 _ _ (bG _ bH ws) hd
        refine ⟨_, rfl, .inl ⟨rfl, _, SqL.of hx6⟩, _, rfl, _, rfl, _, rfl, t, a, ns, 1 + r, kd, rfl, T5, by omega, by omega, fun l p H7 hwk b7 T7 hp7 => ?_⟩
        obtain ⟨⟨p6, q6, h6, ht6⟩, hs6⟩ := id T5
        have hx7 : H7 fl = some (.lst xs) := b7 fl _ (Ne.symm ntf) hx6
        have hd7 := b7.denAll ht6 _ _ (bG _ bH ws) hd6
        refine ⟨fl, xs, .ref p, rfl, rfl, hx7, by rw [sizeLine_eq]; omega, ?_⟩
        have b8 : But fl H7 (upd H7 fl (.lst (xs ++ [.ref p]))) := But.at
        refine ⟨ws ++ [l], xs ++ [.ref p], _, _, rfl, by rw [List.length_append, hl]; rfl, fun l2 hl2 => ?_, aB, ?_, (fun b o nb hb => by rw [aI (fun z => by rw [z, hfl0] at hb; cases hb)]; exact ((b5.trans (But.refl t H5)).trans b7) b o nb hb), T7.wr b8 ntf F⟩
        · rcases List.mem_append.mp hl2 with h | h
          · exact hw l2 h
          · rw [List.mem_singleton.mp h]; exact hwk
        · rw [List.map_append]
          refine gB (b8.denAll hx7 _ _ (bG _ bH ws) hd7) (aX.mpr ⟨_, _, rfl, ?_, bD.mpr rfl⟩)
          exact aZ.mpr ⟨p, rfl, b8.seqT hx7 hp7⟩
    · rintro σ H5 ⟨ws, xs, v, v2, rfl, hl, hw, hx, hd, b5, T5⟩
      refine ⟨_, rfl, _, rfl, fl, _, rfl, .inl ⟨SqL.of hx, fun q hq => ⟨sz2 _ _, fun p hp => ?_⟩⟩⟩
      have sm := (aE.new (o := .tup xs) hq).trans (aE.new (o := .tup [.int (1 + r), .ref q]) hp)
      refine k (1 + r) ws p _ (yN (by omega) (by omega) (by omega) hw) (b5.trans (But.of sm)) (T5.same sm) ?_
      refine qV (SqT.of aB) ((aE.new hp).seqT (SqT.of aB)) (sm.denAll _ _ hd)
def aBl (K : PySem.W.Frag) : Sp := fun vs H Q _ => ∃ (t a : Addr) (ns : List Int) (x : V) (n : Int) (ws : List (List Int)), vs = [.ref t, x] /\ eV K H t a ns /\ Den K H (cK n ws) x /\ cI (cK n ws) = true /\ ∀ hs p H', cW ws (cG hs) = true -> But t H H' -> eV K H' t a ns -> Den K H' (cG hs) (.ref p) -> Q (.ref p) H'
theorem aDe : FnScope ["tape", "book"] ["tape", "book"] (aH uU) := ⟨rfl, rfl, rfl, by decide +kernel, rfl, by decide +kernel, by decide +kernel⟩
theorem aCk {f fD : Addr} {fd fdD : FuncData} (G : Fn K mg "_law_b_deal" uU ["tape", "book"] f fd) (B : Bl mg) (GD : Fn K mg "_law_b_digit" kR ["tape", "many"] fD fdD) (OD : FnOk P w K mg base CX0 2 fD fdD ["tape", "many"] (jU K)) : FnOk P w K mg base CX0 3 f fd ["tape", "book"] (aBl K) := by
  refine G.fn.ok aDe (fun vs H Q E h => ?_) (fun cdv A outer s H vs Q E hr h => ?_)
  · obtain ⟨t, a, ns, x, n, ws, rfl, _⟩ := h
    rfl
  · obtain ⟨t, a, ns, x, n, ws, rfl, hT, hx, hb, k⟩ := h
    refine ⟨_, aF (aM (bT bN rfl B.tuple cH (aA
      (dJ (own := ["able"]) (fr := [0]) (frn := ["tape"]) (bU (aH uU) ["tape", "book"] rfl rfl (by decide +kernel)) rfl (gS (bC bP (pv 1) aG (fun _ _ => rfl)))
        (fun _ _ _ _ => aK (i := 0) (show (["able", "tape"] : List Str).Nodup by decide +kernel) rfl (Or.inl rfl)) (fun _ _ _ _ => fV)
        (fun _ _ _ _ => bC (jS (K := K) rfl) (pv 0) (aQ GD OD hr rfl (aA (pv 1) (aA (aP (pW (K := K) rfl) rfl B.len fP (aA (pv 0) aC)) aC))) (fun _ _ => rfl))) aC))), ?_⟩
    obtain ⟨hn1, hn6, h12, hws⟩ := bS hb
    obtain ⟨ba, bb, ys, rfl, ha, hb2, hys⟩ := fM hx
    have hlw := aR hys
    rw [List.length_map] at hlw
    refine ⟨_, rfl, ba, _, 1, .ref bb, rfl, rfl, ha, rfl, bb, rfl, ⟨_, hb2⟩, iK (K := K) (a := bb) (xs := ys) (fun σ => ∃ v, σ = [v, some (.ref t)]) (fun i zs H3 => ∃ hs : List Int, zs = hs.map V.int /\ hs.length = i /\ (∀ (j : Nat) (h : Int) (l : List Int), hs[j]? = some h -> ws[j]? = some l -> h ∈ l) /\ But t H H3 /\ eV K H3 t a ns)
      (hV (by omega)) ⟨none, rfl⟩ ⟨[], rfl, rfl, fun j h l e => by simp at e, But.refl t H, hT⟩ ?_ ?_ ?_ ?_⟩
    · rintro i zs H3 ⟨hs, rfl, rfl, _⟩
      rw [List.length_map]
      exact Nat.le_refl _
    · rintro i zs H3 ⟨hs, rfl, rfl, _, b3, _⟩
      exact hT.seqT b3 hb2
    · rintro i zs σ x H3 hxi ⟨v, rfl⟩ ⟨hs, rfl, hl, hg, b3, T3⟩ hz
      obtain ⟨dx, hdx, hden⟩ := cX hys hxi
      rw [List.getElem?_map] at hdx
      obtain ⟨l, hli, rfl⟩ : ∃ l, ws[i]? = some l /\ bX l = dx := by
        cases q : ws[i]? with
        | none => rw [q] at hdx; cases hdx
        | some l => rw [q] at hdx; exact ⟨l, rfl, Option.some.inj hdx⟩
      obtain ⟨w1, w2, w3⟩ := bJ (hws l (List.mem_of_getElem? hli))
      have hsh := fY (by omega) w2 w3
      have hl1 : 0 < l.length := List.length_pos_iff.mpr w1
      obtain ⟨av, rfl, hav⟩ := aZ.mp hden
      refine dX ?_
      refine ⟨_, rfl, _, rfl, _, rfl, av, _, rfl, .inr (hT.seqT b3 hav), t, a, ns, _, rfl, T3, ?_, ?_, fun r H4 hr0 hr1 b4 T4 => ?_⟩
      · rw [List.length_map]; omega
      · rw [List.length_map]; omega
      · rw [List.length_map] at hr1
        have hlt : r.toNat < l.length := by omega
        have hat : atI (l.map V.int) r = some (.int l[r.toNat]) := by
          have h1 : (l.map V.int)[r.toNat]? = some (.int (l[r.toNat])) := by rw [List.getElem?_map, List.getElem?_eq_getElem hlt]; rfl
          have h2 := eC h1
          rwa [Int.toNat_of_nonneg hr0] at h2
        refine ⟨av, _, _, _, rfl, rfl, hT.seqT (b3.trans b4) hav, hat, hz, ⟨_, rfl⟩, hs ++ [l[r.toNat]], by simp, by rw [List.length_append, hl]; rfl, fun j h l2 e1 e2 => ?_, b3.trans b4, T4⟩
        by_cases hj : j < hs.length
        · rw [List.getElem?_append_left hj] at e1
          exact hg j h l2 e1 e2
        · rw [List.getElem?_append_right (by omega)] at e1
          have e3 : j - hs.length = 0 := by
            have := (List.getElem?_eq_some_iff.mp e1).1
            simp at this
            omega
          rw [e3] at e1
          have e4 : j = i := by omega
          rw [e4, hli] at e2
          obtain rfl := Option.some.inj e2
          have e5 : l[r.toNat] = h := by simpa using e1
          rw [<- e5]
          exact List.getElem_mem hlt
    · rintro zs H3 ⟨hs, rfl, hl, hg, b3, T3⟩ p hp
      refine ⟨p, _, rfl, .inl ⟨SqL.of aB, fun q hq => ?_⟩⟩
      have sm := (aE.new (o := .lst (hs.map V.int)) hp).trans (aE.new (o := .tup (hs.map V.int)) hq)
      exact k hs q _ (lP (by omega) hg) (b3.trans (But.of sm)) (T3.same sm) (aZ.mpr ⟨q, rfl, SqT.of aB⟩)
end
end Ab
set_option Elab.async false
set_option linter.all false
set_option maxRecDepth 100000
namespace Ab
open PySem L2
section
variable {P : Program} {w : World} {K : PySem.W.Frag} {mg : Str -> Option Value} {base : Heap}
theorem cL.hand {H : Hp} {x y : V} {n : Int} {ws : List (List Int)} {hs : List Int} (g : cL K H x y n ws hs) {i : Nat} {h : Int} (e : hs[i]? = some h) : 0 <= h /\ h < n := by
  obtain ⟨_, _, _, hw⟩ := bS g.2.1
  obtain ⟨hl, hd⟩ := bV g.2.2.2
  have hi : i < ws.length := by rw [<- hl]; exact (List.getElem?_eq_some_iff.mp e).1
  have hm := hd i h ws[i] e (List.getElem?_eq_getElem hi)
  exact (bJ (hw _ (List.getElem_mem hi))).2.1 h hm
end
end Ab
set_option Elab.async false
set_option linter.all false
set_option maxRecDepth 100000
namespace Ab
open PySem L2
theorem oS {n : Int} {hs : List Int} {j : Nat} (h : j < n.toNat) : (aO n hs)[j]? = some ((hs.count (j : Int) : Nat) : Int) := by
  unfold aO
  rw [List.getElem?_map, jK h]
  rfl
section
variable {P : Program} {w : World} {K : PySem.W.Frag} {mg : Str -> Option Value} {base : Heap}
end
end Ab
set_option Elab.async false
set_option linter.all false
set_option maxRecDepth 100000
namespace Ab
open PySem L2
def eT (ws : List (List Int)) (hs : List Int) : List Int -> Bool
  | [k, g, t] => decide (0 <= k) && (decide (k < hs.length) && (hs[k.toNat]? == some g && (!decide (t = g) && decide (t ∈ ws.getD k.toNat []))))
  | _ => false
def iD (st : List Int) : Int := st.getD 1 0
def mK (st : List Int) : Int := st.getD 2 0
def bL : List (List Int) -> List Int
  | [] => []
  | s :: r => iD s :: (s :: r).map mK
def nH (L : List (List Int)) : Bool := (L.zip (bL L)).all fun p => iD p.1 == p.2
def mL (ws : List (List Int)) (hs : List Int) (L : List (List Int)) : Bool := !L.isEmpty && (L.all (eT ws hs) && (nH L && decide ((bL L).Nodup)))
theorem qW {ws : List (List Int)} {hs : List Int} {st : List Int} (h : eT ws hs st = true) : ∃ k g t, st = [k, g, t] := by
  match st, h with
  | [k, g, t], _ => exact ⟨k, g, t, rfl⟩
theorem aAa {ws : List (List Int)} {hs : List Int} {st : List Int} (h : st.length ≠ 3) : eT ws hs st = false := by
  match st, h with
  | [], _ => rfl
  | [_], _ => rfl
  | [_, _], _ => rfl
  | [_, _, _], h => exact absurd rfl h
  | _ :: _ :: _ :: _ :: _, _ => rfl
theorem aEk {st : List Int} (h : st.length = 3) : ∃ k g t, st = [k, g, t] := by
  match st, h with
  | [k, g, t], _ => exact ⟨k, g, t, rfl⟩
section
variable {P : Program} {w : World} {K : PySem.W.Frag} {mg : Str -> Option Value} {base : Heap}
theorem iS {H : Hp} {ws : List (List Int)} {ys : List V} (h : aV K H (ws.map bX) ys) {i : Nat} {l : List Int} (e : ws[i]? = some l) : ∃ c, ys[i]? = some (.ref c) /\ SqT K H c (l.map V.int) := by
  have hl := aR h
  rw [List.length_map] at hl
  have hi : i < ys.length := by rw [hl]; exact (List.getElem?_eq_some_iff.mp e).1
  obtain ⟨d, e1, e2⟩ := cX h (List.getElem?_eq_getElem hi)
  rw [List.getElem?_map, e] at e1
  obtain rfl := (Option.some.inj e1).symm
  obtain ⟨c, e3, e4⟩ := aZ.mp e2
  exact ⟨c, by rw [List.getElem?_eq_getElem hi, e3], e4⟩
theorem oT {l : List Int} {k : Int} {x : Int} (h0 : 0 <= k) (h : l[k.toNat]? = some x) : atI (l.map V.int) k = some (.int x) := by
  have h1 : (l.map V.int)[k.toNat]? = some (.int x) := by rw [List.getElem?_map, h]; rfl
  have h2 := eC h1
  rwa [Int.toNat_of_nonneg h0] at h2
theorem aDf {l : List V} {k : Int} {x : V} (h0 : 0 <= k) (h : l[k.toNat]? = some x) : atI l k = some x := by
  have h2 := eC h
  rwa [Int.toNat_of_nonneg h0] at h2
variable {fW fH fK fB fNB fD fND fL : Addr} {dW dH dK dB dNB dD dND dL : FuncData}
def aBm (K : PySem.W.Frag) : Sp := fun vs H Q _ => ∃ x y b n ws hs l, vs = [x, y, .ref b] /\ cL K H x y n ws hs /\ SqT K H b (l.map V.int) /\ l.length <= 1000 /\ ∀ H', aE H H' -> Q (.bl (eT ws hs l)) H'
theorem sW : FnScope ["book", "deal", "step", "work", "giver", "taker"] ["book", "deal", "step"] (aH oJ) := ⟨rfl, rfl, rfl, by decide +kernel, rfl, by decide +kernel, by decide +kernel⟩
theorem aBn {ws : List (List Int)} {hs : List Int} {k g t : Int} {h : Int} {l : List Int} (k0 : 0 <= k) (k1 : k < hs.length) (eh : hs[k.toNat]? = some h) (el : ws[k.toNat]? = some l) : eT ws hs [k, g, t] = (decide (V.int h = V.int g) && (!decide (V.int t = V.int g) && l.any (· == t))) := by
  show (decide (0 <= k) && (decide (k < hs.length) && (hs[k.toNat]? == some g && (!decide (t = g) && decide (t ∈ ws.getD k.toNat []))))) = _
  rw [decide_eq_true k0, decide_eq_true k1, eh]
  have e1 : ws.getD k.toNat [] = l := by rw [List.getD_eq_getElem?_getD, el]; rfl
  rw [e1]
  have e2 : (some h == some g) = decide (V.int h = V.int g) := by
    by_cases z : h = g
    · subst z; simp
    · rw [decide_eq_false (fun q => z (V.int.inj q))]; simpa using z
  have e3 : decide (t = g) = decide (V.int t = V.int g) := by
    by_cases z : t = g
    · subst z; simp
    · rw [decide_eq_false z, decide_eq_false (fun q => z (V.int.inj q))]
  have e4 : decide (t ∈ l) = l.any (· == t) := by
    rw [Bool.eq_iff_iff, decide_eq_true_iff, List.any_eq_true]
    constructor
    · intro h; exact ⟨t, h, by simp⟩
    · rintro ⟨y, hy, e⟩; have : y = t := by simpa using e
      rw [<- this]; exact hy
  rw [e2, e3, e4]
  rfl
theorem aCl {f : Addr} {fd : FuncData} (G : Fn K mg "is_step" oJ ["book", "deal", "step"] f fd) (B : Bl mg) (R : Pr K mg fW fH fK fB fNB fD fND fL dW dH dK dB dNB dD dND dL) : FnOk P w K mg base CX0 2 f fd ["book", "deal", "step"] (aBm K) := by
  have OW : FnOk P w K mg base CX0 1 fW dW ["thing"] (jR K) := jJ R.W B
  refine G.fn.ok sW (fun vs H Q E h => ?_) (fun cdv A outer s H vs Q E hr h => ?_)
  · obtain ⟨x, y, b, n, ws, hs, l, rfl, _⟩ := h
    rfl
  · obtain ⟨x, y, b, n, ws, hs, l, rfl, g, hb, hl, k⟩ := h
    have r1 : Room 1 _ := hr
    refine ⟨_, (aD (bR (PW.pt (gE (dM (eG (aP cO rfl B.isinstance lK (aA (pv 2) (aA (gL (v := .ty "tuple") rfl B.tuple cH rfl) aC))))) (eI (aN lB (aP bA rfl B.len fP (aA (pv 2) aC)) aG (aS _)))))
      (aF (aM cF))
      aW)
    (aD (bR (dM (eG (aP (iI rfl) rfl B.all qP (aA (dJ (own := ["part"]) (fr := []) (frn := []) (bU (aH oJ) ["book", "deal", "step", "work", "giver", "taker"] rfl rfl (by decide +kernel)) rfl (gS (pv 2))
        (fun _ _ _ _ => (aK (i := 0) (show (["part"] : List Str).Nodup by decide +kernel) rfl (Or.inl rfl))) (fun _ _ _ _ => fV)
        (fun _ _ _ _ => (aQ R.W OW r1 rfl (aA (pv 0) aC)))) aC))))
      (aF (aM cF))
      aW)
    (aD (gR (pv 2) (fU rfl (aT (aK (i := 3) sW.nd rfl (Or.inl rfl)) (aT (aK (i := 4) sW.nd rfl (Or.inl rfl)) (aT (aK (i := 5) sW.nd rfl (Or.inl rfl)) cT)))))
    (aD (bR (dM (aAr tM tL aG (pv 3) (aP bA rfl B.len fP (aA (pv 1) aC))))
      (aF (aM cF))
      aW)
    (aF (aM (kK (eY hJ (bC bP (pv 1) (pv 3) (fun _ _ => rfl)) (pv 4) (aS _)) (kK (eY lB (pv 5) (pv 4) (aS _)) (lY (eY mB (pv 5) (bC bP (bC bP (pv 0) aG (fun _ _ => rfl)) (pv 3) (fun _ _ => rfl)) (by with_unfolding_all rfl))))))))))), ?_⟩
    refine ⟨_, rfl, .ref b, .tup, rfl, .inr (.inl ⟨rfl, _, hb⟩), true, rfl, ?_⟩
    refine eD ?_
    refine ⟨_, rfl, b, _, rfl, .inr hb, rfl, _, rfl, ?_⟩
    refine cN (fun c => ?_) (fun c => ?_)
    · have hne : l.length ≠ 3 := fun z => by rw [List.length_map, z] at c; simp at c
      rw [aAa hne] at k
      exact k H (aE.refl H)
    have h3 : l.length = 3 := by
      have : V.int ((l.map V.int).length : Nat) = V.int 3 := by simpa using c
      have := V.int.inj this
      rw [List.length_map] at this
      omega
    obtain ⟨wk, gv, tk, rfl⟩ := aEk h3
    refine ⟨_, rfl, b, rfl, ⟨_, hb⟩, iK (K := K) (a := b) (xs := [V.int wk, V.int gv, V.int tk]) (fun σ => σ.length = 1) (fun i ys H' => ys = (List.replicate i true).map V.bl /\ aE H H') (hV (show 3 <= 1000 by decide)) rfl ⟨rfl, aE.refl H⟩ (fun i ys H' p => by rw [p.1]; simp) (fun i ys H' p => p.2.seqT hb) (fun i ys σ x H' hx hσ p hz => ?_) (fun ys H' p => ?_)⟩
    · obtain ⟨v, rfl⟩ : ∃ v, σ = [v] := by match σ, hσ with | [v], _ => exact ⟨v, rfl⟩
      obtain ⟨q1, q2⟩ := p
      obtain ⟨m, rfl⟩ : ∃ m, x = .int m := by
        have hm := List.mem_of_getElem? hx
        simp only [List.mem_cons, List.not_mem_nil, or_false] at hm
        rcases hm with rfl | rfl | rfl
        · exact ⟨_, rfl⟩
        · exact ⟨_, rfl⟩
        · exact ⟨_, rfl⟩
      refine dX ?_
      refine ⟨_, rfl, .int m, .int m, rfl, eE.mpr rfl, hz, rfl, ?_, q2⟩
      rw [q1, List.replicate_succ', List.map_append]
      rfl
    · obtain ⟨rfl, s1⟩ := p
      intro p hp
      have s2 := aE.new (o := .lst ((List.replicate [V.int wk, V.int gv, V.int tk].length true).map V.bl)) hp
      refine ⟨p, List.replicate 3 true, rfl, SqL.of aB, _, rfl, ?_⟩
      refine eD ?_
      have s3 := s1.trans s2
      generalize upd H' p (.lst ((List.replicate [V.int wk, V.int gv, V.int tk].length true).map V.bl)) = H2 at s2 s3 ⊢
      refine ⟨_, rfl, b, _, rfl, s3.seqT hb, rfl, _, _, rfl, _, _, rfl, _, _, rfl, rfl, ?_⟩
      have g3 := g.same s3
      obtain ⟨hdl, hdg⟩ := bV g.2.2.2
      obtain ⟨ba, bb, ys2, rfl, ha, hb2, hys⟩ := fM g3.1
      obtain ⟨c, rfl, hc⟩ := aZ.mp g3.2.2.1
      refine ⟨_, rfl, _, _, rfl, rfl, _, rfl, ?_⟩
      by_cases k0 : 0 <= wk
      · rw [decide_eq_true k0]
        refine iA ?_
        refine ⟨_, rfl, c, _, rfl, .inr hc, _, _, rfl, rfl, _, rfl, ?_⟩
        rw [List.length_map]
        by_cases k1 : wk < hs.length
        · rw [decide_eq_true k1]
          refine eD ?_
          have hlt : wk.toNat < hs.length := by omega
          have eh := List.getElem?_eq_getElem hlt
          have el := List.getElem?_eq_getElem (l := ws) (i := wk.toNat) (by omega)
          obtain ⟨cw, e1, e2⟩ := iS hys el
          have sv := aBn (g := gv) (t := tk) k0 k1 eh el
          have kk := k H2 s3
          rw [sv] at kk
          refine ⟨_, rfl, _, rfl, c, _, _, _, rfl, rfl, hc, oT k0 eh, _, rfl, rfl, _, rfl, ?_⟩
          refine cN (fun c1 => ?_) (fun c1 => ?_)
          · rw [c1] at kk
            refine ⟨_, rfl, _, rfl, rfl, _, rfl, ?_⟩
            refine cN (fun c2 => ?_) (fun c2 => ?_)
            · rw [c2] at kk
              refine ⟨_, rfl, _, rfl, ba, _, 1, .ref bb, rfl, rfl, ha, rfl, _, rfl, bb, _, _, _, rfl, rfl, hb2, aDf k0 e1, cw, _, rfl, .inr e2, rfl, qR _, ?_⟩
              rw [show inV (V.int tk) (ws[wk.toNat].map V.int) = _ from sP tk _]
              exact kk
            · rw [Bool.not_eq_true] at c2
              rw [c2] at kk
              exact kk
          · rw [Bool.not_eq_true] at c1
            rw [c1] at kk
            exact kk
        · rw [decide_eq_false k1]
          refine iA ?_
          have e : eT ws hs [wk, gv, tk] = false := by
            show (decide (0 <= wk) && (decide (wk < hs.length) && _)) = false
            rw [decide_eq_false k1]; simp
          rw [e] at k
          exact k H2 s3
      · rw [decide_eq_false k0]
        refine eD ?_
        refine ⟨_, rfl, ?_⟩
        refine iA ?_
        have e : eT ws hs [wk, gv, tk] = false := by
          show (decide (0 <= wk) && _) = false
          rw [decide_eq_false k0]; rfl
        rw [e] at k
        exact k H2 s3
end
end Ab
set_option Elab.async false
set_option linter.all false
set_option maxRecDepth 100000
namespace Ab
open PySem L2
theorem wY {L : List (List Int)} (h : L ≠ []) : (bL L).length = L.length + 1 := by
  cases L with
  | nil => exact absurd rfl h
  | cons s r => simp [bL]
section
variable {P : Program} {w : World} {K : PySem.W.Frag} {mg : Str -> Option Value} {base : Heap}
variable {fW fH fK fB fNB fD fND fL : Addr} {dW dH dK dB dNB dD dND dL : FuncData}
def aBo (K : PySem.W.Frag) : Sp := fun vs H Q _ => ∃ x y p xs n ws hs L, vs = [x, y, .ref p] /\ cL K H x y n ws hs /\ SqL K H p xs /\ aV K H (L.map bX) xs /\ L.length <= 30 /\ (∀ l ∈ L, l.length <= 1000) /\ ∀ H', aE H H' -> Q (.bl (mL ws hs L)) H'
theorem aBp : FnScope ["book", "deal", "some", "passed", "follow"] ["book", "deal", "some"] (aH uS) := ⟨rfl, rfl, rfl, by decide +kernel, rfl, by decide +kernel, by decide +kernel⟩
theorem aBq {f fS : Addr} {fd dS : FuncData} (G : Fn K mg "is_way" uS ["book", "deal", "some"] f fd) (B : Bl mg) (R : Pr K mg fW fH fK fB fNB fD fND fL dW dH dK dB dNB dD dND dL) (GS : Fn K mg "is_step" oJ ["book", "deal", "step"] fS dS) : FnOk P w K mg base CX0 7 f fd ["book", "deal", "some"] (aBo K) := by
  have OS : FnOk P w K mg base CX0 2 fS dS ["book", "deal", "step"] (aBm K) := aCl GS B R
  have OND : FnOk P w K mg base CX0 6 fND dND ["book", "deal"] (sS K) := uW B R
  refine G.fn.ok aBp (fun vs H Q E h => ?_) (fun cdv A outer s H vs Q E hr h => ?_)
  · obtain ⟨x, y, p, xs, n, ws, hs, L, rfl, _⟩ := h
    rfl
  · obtain ⟨x, y, p, xs, n, ws, hs, L, rfl, g, hp, hd, hL, hl1000, k⟩ := h
    have r2 : Room 2 _ := hr.mono (by decide)
    have r6 : Room 6 _ := hr
    refine ⟨_, (aD (eA (aQ R.ND OND r6 rfl (aA (pv 0) (aA (pv 1) aC))))
    (aD (bR (PW.pt (gE (dM (eG (aP pK rfl B.isinstance lK (aA (pv 2) (aA (gL (v := .ty "list") rfl B.list aBb rfl) aC))))) (eI (aN hJ (aP bA rfl B.len fP (aA (pv 2) aC)) aG (aS _)))))
      (aF (aM cF))
      aW)
    (aD (bR (dM (eG (aP (iI rfl) rfl B.all qP (aA (dJ (own := ["step"]) (fr := [0, 1]) (frn := ["book", "deal"]) (bU (aH uS) ["book", "deal", "some", "passed", "follow"] rfl rfl (by decide +kernel)) rfl (lA (pv 2))
        (fun _ _ _ _ => (aK (i := 0) (show (["step", "book", "deal"] : List Str).Nodup by decide +kernel) rfl (Or.inl rfl))) (fun _ _ _ _ => fV)
        (fun _ _ _ _ => (aQ GS OS r2 rfl (aA (pv 1) (aA (pv 2) (aA (pv 0) aC)))))) aC))))
      (aF (aM cF))
      aW)
    (aD (aU (i := 3) aBp.nd rfl (Or.inl rfl) (bK aC3 (gI (aA (bC bP (bC bZ (pv 2) aG (fun _ _ => rfl)) aG (fun _ _ => rfl)) aC)) (dJ (own := ["step"]) (fr := []) (frn := []) (bU (aH uS) ["book", "deal", "some", "passed", "follow"] rfl rfl (by decide +kernel)) rfl (lA (pv 2))
        (fun _ _ _ _ => (aK (i := 0) (show (["step"] : List Str).Nodup by decide +kernel) rfl (Or.inl rfl))) (fun _ _ _ _ => fV)
        (fun _ _ _ _ => (bC (jS (K := K) rfl) (pv 0) aG (fun _ _ => rfl))))))
    (aD (aU (i := 4) aBp.nd rfl (Or.inl rfl) (aP (iI rfl) rfl B.all qP (aA (dJ (own := ["step", "hand"]) (fr := []) (frn := []) (bU (aH uS) ["book", "deal", "some", "passed", "follow"] rfl rfl (by decide +kernel)) rfl (oB .l .l rfl B.zip (aA (pv 2) (aA (pv 3) aC)))
        (fun _ _ _ _ => (sQ (K := K) (n := 2) rfl rfl (aT (aK (i := 0) (show (["step", "hand"] : List Str).Nodup by decide +kernel) rfl (Or.inl rfl)) (aT (aK (i := 1) (show (["step", "hand"] : List Str).Nodup by decide +kernel) rfl (Or.inl rfl)) cT)))) (fun _ _ _ _ => fV)
        (fun _ _ _ _ => (eY hJ (bC (jS (K := K) rfl) (pv 0) aG (fun _ _ => rfl)) (pv 1) (aS _)))) aC)))
    (aF (aM (kK (pv 4) (lY (eY hJ (aP pP rfl B.len fP (aA (bT (zQ (K := K) rfl rfl) rfl B.set aCE (aA (pv 3) aC)) aC)) (aP bA rfl B.len fP (aA (pv 3) aC)) (aS _))))))))))), ?_⟩
    refine ⟨_, rfl, _, rfl, x, y, n, ws, hs, rfl, g, fun H1 s1 => ?_⟩
    have hxl := aR hd
    rw [List.length_map] at hxl
    have hp1 := s1.seqL hp
    have hd1 := s1.denAll _ _ hd
    refine ⟨_, rfl, .ref p, .lst, rfl, .inl ⟨rfl, _, hp1⟩, true, rfl, ?_⟩
    refine eD ?_
    refine ⟨_, rfl, p, _, rfl, .inl hp1, rfl, _, rfl, ?_⟩
    refine cN (fun c => ?_) (fun c => ?_)
    · have e0 : L = [] := by
        have : V.int (xs.length : Nat) = V.int 0 := by simpa using c
        have := V.int.inj this
        exact List.length_eq_zero_iff.mp (by omega)
      subst e0
      exact k H1 s1
    have hne : L ≠ [] := fun z => by
      subst z
      have : xs.length = 0 := by simpa using hxl
      rw [this] at c
      simp at c
    have g1 := g.same s1
    refine ⟨_, rfl, p, rfl, ⟨_, hp1⟩, uE (K := K) (a := p) (xs := xs) (vs := (L.map (eT ws hs)).map V.bl) (fun σ => ∃ v, σ = [v, some x, some y]) (by omega) (by simp [hxl]) hp1 ⟨none, rfl⟩ ?_ ?_⟩
    · rintro i u v σ H2 hu hv ⟨v0, rfl⟩ s2 Q' k'
      have hlt : i < L.length := by have := (List.getElem?_eq_some_iff.mp hu).1; omega
      have el : L[i]? = some L[i] := List.getElem?_eq_getElem hlt
      obtain ⟨c1, e1, e2⟩ := iS (s2.denAll _ _ hd1) el
      rw [hu] at e1
      obtain rfl := Option.some.inj e1
      have ev : v = .bl (eT ws hs L[i]) := by
        rw [List.getElem?_map, List.getElem?_map, el] at hv
        exact (Option.some.inj hv).symm
      subst ev
      refine ⟨_, rfl, _, rfl, _, rfl, x, y, c1, n, ws, hs, L[i], rfl, g1.same s2, e2, hl1000 _ (List.getElem_mem hlt), fun H3 s3 => ?_⟩
      exact k' _ H3 ⟨_, rfl⟩ s3
    · intro H2 s2 q hq
      refine ⟨q, L.map (eT ws hs), rfl, SqL.of aB, _, rfl, ?_⟩
      have s3 := s2.trans (aE.new (o := .lst ((L.map (eT ws hs)).map V.bl)) hq)
      generalize upd H2 q (.lst ((L.map (eT ws hs)).map V.bl)) = H3 at s3 ⊢
      have eall : (L.map (eT ws hs)).all id = L.all (eT ws hs) := by rw [List.all_map]; rfl
      rw [eall]
      by_cases ha : L.all (eT ws hs) = true
      · rw [ha]
        refine eD ?_
        have hok : ∀ st ∈ L, eT ws hs st = true := fun st h => List.all_eq_true.mp ha st h
        have hp3 : ∀ {H' : Hp}, aE H3 H' -> SqL K H' p xs := fun z => z.seqL (s3.seqL hp1)
        have nth : ∀ {H' : Hp} {i : Nat} {u : V}, aE H3 H' -> xs[i]? = some u -> ∃ (c : Addr) (st : List Int) (kk gg tt : Int), u = .ref c /\ L[i]? = some st /\ st = [kk, gg, tt] /\ SqT K H' c [.int kk, .int gg, .int tt] := fun {H' i u} z hu => by
          have hlt : i < L.length := by have := (List.getElem?_eq_some_iff.mp hu).1; omega
          have el : L[i]? = some L[i] := List.getElem?_eq_getElem hlt
          obtain ⟨c1, e1, e2⟩ := iS (z.denAll _ _ (s3.denAll _ _ hd1)) el
          rw [hu] at e1
          obtain ⟨kk, gg, tt, e3⟩ := qW (hok _ (List.getElem_mem hlt))
          rw [e3] at e2
          exact ⟨c1, L[i], kk, gg, tt, Option.some.inj e1, el, e3, e2⟩
        have h0 : 0 < xs.length := by
          have := List.length_pos_iff.mpr hne
          omega
        obtain ⟨c0, st0, k0, g0, t0, e0, el0, es0, q0⟩ := nth (aE.refl H3) (List.getElem?_eq_getElem h0)
        refine ⟨_, rfl, p, _, 0, .ref c0, rfl, rfl, hp3 (aE.refl H3), eC (by rw [List.getElem?_eq_getElem h0, e0]), c0, _, 1, .int g0, rfl, rfl, q0, rfl, sz1 _, fun l1 hl1 => ?_⟩
        have s4 := aE.new (o := .lst [.int g0]) hl1
        have a4 : upd H3 l1 (.lst [.int g0]) l1 = some (.lst [.int g0]) := aB
        generalize upd H3 l1 (.lst [.int g0]) = H4 at s4 a4 ⊢
        refine ⟨_, rfl, p, rfl, ⟨_, hp3 s4⟩, uE (K := K) (a := p) (xs := xs) (vs := (L.map mK).map V.int) (fun σ => ∃ v, σ = [v]) (by omega) (by simp [hxl]) (hp3 s4) ⟨none, rfl⟩ ?_ ?_⟩
        · rintro i u v σ H5 hu hv ⟨v0, rfl⟩ s5 Q' k'
          obtain ⟨c1, st, kk, gg, tt, rfl, el, rfl, q1⟩ := nth (s4.trans s5) hu
          have ev : v = .int tt := by
            rw [List.getElem?_map, List.getElem?_map, el] at hv
            exact (Option.some.inj hv).symm
          subst ev
          exact ⟨_, rfl, c1, _, 2, .int tt, rfl, rfl, q1, rfl, k' _ H5 ⟨_, rfl⟩ (aE.refl H5)⟩
        · intro H5 s5 l2 hl2
          have s6 := aE.new (o := .lst ((L.map mK).map V.int)) hl2
          have a6 := s6 _ _ (s5 _ _ a4)
          have b6 : upd H5 l2 (.lst ((L.map mK).map V.int)) l2 = some (.lst ((L.map mK).map V.int)) := aB
          generalize upd H5 l2 (.lst ((L.map mK).map V.int)) = H6 at s6 a6 b6 ⊢
          refine ⟨l1, l2, _, _, rfl, rfl, a6, b6, wI (by simp; omega), fun l3 hl3 => ?_⟩
          have epass : [V.int g0] ++ (L.map mK).map V.int = (bL L).map V.int := by
            cases L with
            | nil => exact absurd rfl hne
            | cons s r =>
              have : s = st0 := Option.some.inj el0
              subst this
              rw [es0]
              rfl
          rw [epass]
          have s7 := aE.new (o := .lst ((bL L).map V.int)) hl3
          have b7 : upd H6 l3 (.lst ((bL L).map V.int)) l3 = some (.lst ((bL L).map V.int)) := aB
          generalize upd H6 l3 (.lst ((bL L).map V.int)) = H7 at s7 b7 ⊢
          have s37 := ((s4.trans s5).trans s6).trans s7
          have pl := wY hne
          refine ⟨_, rfl, _, rfl, p, l3, xs, _, rfl, hp3 s37, SqL.of b7, aAR (K := K) (k1 := .l) (k2 := .l) (a := p) (b := l3) (xs := xs) (zs := (bL L).map V.int) (vs := ((L.zip (bL L)).map fun q => iD q.1 == q.2).map V.bl) (fun σ => ∃ u v, σ = [u, v]) (by omega) (by simp; omega) (by simp [pl]; omega)
            (fun H' z => ⟨hp3 (s37.trans z), SqL.of (z _ _ b7)⟩) ⟨none, none, rfl⟩ ?_ ?_⟩
          · rintro i u z v q σ H8 hu hz hv hq ⟨u0, v0, rfl⟩ s8 Q' k'
            have s9 := aE.new (o := .tup [u, z]) hq
            obtain ⟨c1, st, kk, gg, tt, rfl, el, rfl, q1⟩ := nth ((s37.trans s8).trans s9) hu
            obtain ⟨zz, hzz, rfl⟩ : ∃ zz, (bL L)[i]? = some zz /\ V.int zz = z := by
              rw [List.getElem?_map] at hz
              cases e : (bL L)[i]? with
              | none => rw [e] at hz; cases hz
              | some zz => rw [e] at hz; exact ⟨zz, rfl, Option.some.inj hz⟩
            have ev : v = .bl (gg == zz) := by
              have e1 : (L.zip (bL L))[i]? = some ([kk, gg, tt], zz) := by rw [List.getElem?_zip_eq_some]; exact ⟨el, hzz⟩
              rw [List.getElem?_map, List.getElem?_map, e1] at hv
              exact (Option.some.inj hv).symm
            subst ev
            refine ⟨q, _, rfl, SqT.of aB, rfl, _, _, rfl, _, _, rfl, rfl, ?_⟩
            refine ⟨_, rfl, c1, _, 1, .int gg, rfl, rfl, q1, rfl, _, rfl, rfl, ?_⟩
            have eb : decide (V.int gg = V.int zz) = (gg == zz) := by
              by_cases e : gg = zz
              · subst e; simp
              · rw [decide_eq_false (fun q => e (V.int.inj q))]; exact (beq_eq_false_iff_ne.mpr e).symm
            rw [eb]
            exact k' _ _ ⟨_, _, rfl⟩ s9
          · intro H8 s8 l4 hl4
            refine ⟨l4, (L.zip (bL L)).map (fun q => iD q.1 == q.2), rfl, SqL.of aB, ?_⟩
            have s9 := s8.trans (aE.new (o := .lst (((L.zip (bL L)).map fun q => iD q.1 == q.2).map V.bl)) hl4)
            generalize upd H8 l4 (.lst (((L.zip (bL L)).map fun q => iD q.1 == q.2).map V.bl)) = H9 at s9 ⊢
            have ef : ((L.zip (bL L)).map fun q => iD q.1 == q.2).all id = nH L := by rw [List.all_map]; rfl
            rw [ef]
            have kk := fun H' (z : aE H9 H') => k H' ((s1.trans (s3.trans s37)).trans (s9.trans z))
            have ew : mL ws hs L = (nH L && decide ((bL L).Nodup)) := by
              unfold mL
              rw [ha]
              cases L with
              | nil => exact absurd rfl hne
              | cons _ _ => rfl
            rw [ew] at kk
            refine ⟨_, rfl, _, rfl, ?_⟩
            refine cN (fun c1 => ?_) (fun c1 => ?_)
            · rw [c1] at kk
              refine ⟨_, rfl, l3, bL L, rfl, SqL.of (s9 _ _ b7), by omega, fun l5 hl5 => ?_⟩
              have s10 := aE.new (o := .set (fun k => decide (k ∈ bL L)) (iX (bL L))) hl5
              refine ⟨l5, _, _, rfl, aB, _, rfl, l3, _, rfl, .inl (SqL.of (s10 _ _ (s9 _ _ b7))), rfl, ?_⟩
              have e2 : decide (V.int (iX (bL L) : Nat) = V.int ((bL L).map V.int).length) = decide ((bL L).Nodup) := by
                rw [Bool.eq_iff_iff, decide_eq_true_iff, decide_eq_true_iff, <- wH, List.length_map]
                constructor
                · intro z; have := V.int.inj z; omega
                · intro z; rw [z]
              rw [e2]
              exact kk _ s10
            · rw [Bool.not_eq_true] at c1
              rw [c1] at kk
              exact kk H9 (aE.refl _)
      · rw [Bool.not_eq_true] at ha
        rw [ha]
        refine iA ?_
        have e : mL ws hs L = false := by unfold mL; rw [ha]; simp
        rw [e] at k
        exact k H3 (s1.trans s3)
end
end Ab
set_option linter.all false
namespace Ab
def hG (ws : List (List Int)) (hs : List Int) (g : Int) (w : Nat) (t : Int) : Prop := hs[w]? = some g /\ ∃ l, ws[w]? = some l /\ t ∈ l /\ t ≠ g
def RL (ws : List (List Int)) (hs : List Int) : Nat -> Int -> Int -> Prop
  | 0, h, x => h = x
  | k + 1, h, x => h = x ∨ ∃ w o, hG ws hs h w o /\ RL ws hs k o x
def cZ (ws : List (List Int)) (hs : List Int) : Int -> List (Nat × Int × Int) -> Int -> Prop
  | h, [], x => h = x
  | h, s :: r, x => s.2.1 = h /\ hG ws hs h s.1 s.2.2 /\ cZ ws hs s.2.2 r x
section
variable {ws : List (List Int)} {hs : List Int}
theorem RL.refl : ∀ (k : Nat) (h : Int), RL ws hs k h h
  | 0, _ => rfl
  | _ + 1, _ => .inl rfl
theorem RL.succ : ∀ {k : Nat} {h x : Int}, RL ws hs k h x -> RL ws hs (k + 1) h x
  | 0, _, _, e => .inl e
  | k + 1, _, _, .inl e => .inl e
  | k + 1, _, _, .inr ⟨w, o, e, r⟩ => .inr ⟨w, o, e, RL.succ r⟩
theorem RL.mono {k m : Nat} {h x : Int} (r : RL ws hs k h x) (le : k <= m) : RL ws hs m h x := by
  induction le with
  | refl => exact r
  | step _ ih => exact ih.succ
theorem RL.snoc : ∀ {k : Nat} {h g t : Int} {w : Nat}, RL ws hs k h g -> hG ws hs g w t -> RL ws hs (k + 1) h t
  | 0, _, _, _, w, e, d => by subst e; exact .inr ⟨w, _, d, rfl⟩
  | k + 1, _, _, _, w, .inl e, d => by subst e; exact .inr ⟨w, _, d, RL.refl _ _⟩
  | k + 1, _, _, _, _, .inr ⟨w', o, e, r⟩, d => .inr ⟨w', o, e, RL.snoc r d⟩
theorem RL.closed {S : Int -> Prop} (hc : ∀ g w t, S g -> hG ws hs g w t -> S t) : ∀ {k : Nat} {h x : Int}, S h -> RL ws hs k h x -> S x
  | 0, _, _, s, e => e ▸ s
  | _ + 1, _, _, s, .inl e => e ▸ s
  | _ + 1, _, _, s, .inr ⟨w, o, e, r⟩ => RL.closed hc (hc _ w o s e) r
theorem cZ.snoc : ∀ {h g : Int} {r : List (Nat × Int × Int)} {w : Nat} {t : Int}, cZ ws hs h r g -> hG ws hs g w t -> cZ ws hs h (r ++ [(w, g, t)]) t
  | _, _, [], _, _, e, d => by cases e; exact ⟨rfl, d, rfl⟩
  | _, _, _ :: _, _, _, ⟨e1, e2, e3⟩, d => ⟨e1, e2, cZ.snoc e3 d⟩
def kE (ws : List (List Int)) (hs : List Int) (n : Nat) (h v : Int) : Prop := (∃ x, RL ws hs n h x /\ v = ((hs.count x : Nat) : Int)) /\ ∀ k x, RL ws hs k h x -> v <= ((hs.count x : Nat) : Int)
theorem kE.le {n : Nat} {h v : Int} (m : kE ws hs n h v) : v <= ((hs.count h : Nat) : Int) := m.2 0 h rfl
theorem kE.edge {n : Nat} {h o v u : Int} {w : Nat} (m : kE ws hs n h v) (m2 : kE ws hs n o u) (e : hG ws hs h w o) : v <= u := by
  obtain ⟨x, r, rfl⟩ := m2.1
  exact m.2 (n + 1) x (show RL ws hs (n + 1) h x from .inr ⟨w, o, e, r⟩)
def dZ (n : Int) (ws : List (List Int)) (hs lv : List Int) : Prop := lv.length = n.toNat /\ ∀ (h : Nat) (v : Int), lv[h]? = some v -> kE ws hs n.toNat h v /\ ((hs.count (h : Int) : Nat) : Int) - v < 2
def jN (n : Int) (ws : List (List Int)) (hs : List Int) (ss : List (Nat × Int × Int)) : Prop :=
  ∃ h x, ss ≠ [] /\ cZ ws hs h ss x /\ (h :: ss.map (·.2.2)).Nodup /\ 0 <= h /\ h < n /\ RL ws hs n.toNat h x /\ 2 <= ((hs.count h : Nat) : Int) - ((hs.count x : Nat) : Int)
end
end Ab
namespace Ab
theorem jW : ∀ (n : Nat) (l : List Int), l.Nodup -> (∀ x ∈ l, 0 <= x /\ x < (n : Int)) -> l.length <= n
  | 0, [], _, _ => Nat.le_refl _
  | 0, x :: _, _, h => by have := h x (.head _); omega
  | n + 1, l, hn, h => by
    by_cases hm : (n : Int) ∈ l
    · have h1 := jW n (l.erase (n : Int)) (hn.erase _) fun x hx => by
        have h2 := (hn.mem_erase_iff).mp hx
        have h3 := h x h2.2
        have := h2.1
        omega
      rw [List.length_erase_of_mem hm] at h1
      omega
    · have h1 := jW n l hn fun x hx => by
        have h3 := h x hx
        have : x ≠ (n : Int) := fun z => hm (z ▸ hx)
        omega
      omega
end Ab
set_option Elab.async false
set_option linter.all false
set_option maxRecDepth 100000
namespace L2
open PySem
theorem aE.wr {H H' : Hp} {a : Addr} {u : HO} (e : aE H H') (h : H a = none) : aE H (upd H' a u) := fun b o q => by
  rw [aI (fun z => by rw [z, h] at q; cases q)]
  exact e b o q
end L2
namespace Ab
open PySem L2
theorem jX {xs : List Int} {i : Nat} {v : V} (h : (xs.map V.int)[i]? = some v) : ∃ a, xs[i]? = some a /\ v = .int a := by
  rw [List.getElem?_map] at h
  cases q : xs[i]? with
  | none => rw [q] at h; cases h
  | some a => rw [q] at h; exact ⟨a, rfl, (Option.some.inj h).symm⟩
theorem vC {xs : List Int} {h : Int} (h0 : 0 <= h) (h1 : h < xs.length) : atI (xs.map V.int) h = some (.int (xs.getD h.toNat 0)) := by
  have hlt : h.toNat < xs.length := by omega
  have h2 := eC (xs := xs.map V.int) (j := h.toNat) (v := .int (xs.getD h.toNat 0)) (by rw [List.getElem?_map, List.getElem?_eq_getElem hlt, List.getD_eq_getElem?_getD, List.getElem?_eq_getElem hlt]; rfl)
  rwa [show ((h.toNat : Nat) : Int) = h by omega] at h2
theorem aDg {n : Nat} {k : Int} (h0 : 0 <= k) (h1 : k < n) : ixN n k = some k.toNat := by
  unfold ixN
  rw [if_pos h0, if_pos (by omega)]
def pX (E : Nat -> Int -> Prop) (r : List (Key × V)) : Prop := (∀ k v, cQ r k = some v -> ∃ (w : Nat) (t : Int), k = .inl t /\ v = .int (w : Nat) /\ E w t) /\ ∀ w t, E w t -> (cQ r (.inl t)).isSome = true
theorem pX.nil {E : Nat -> Int -> Prop} (h : ∀ w t, ¬ E w t) : pX E [] := ⟨fun k v e => (by rw [aAW] at e; cases e), fun w t e => (h w t e).elim⟩
theorem pX.put {E : Nat -> Int -> Prop} {r : List (Key × V)} (h : pX E r) (w : Nat) (t : Int) : pX (fun w' t' => E w' t' ∨ (w' = w /\ t' = t)) (iP r (.inl t) (.int (w : Nat))) := by
  refine ⟨fun k v e => ?_, fun w' t' e => ?_⟩
  · rw [uI] at e
    by_cases hk : k = Sum.inl t
    · rw [if_pos hk] at e
      exact ⟨w, t, hk, (Option.some.inj e).symm, .inr ⟨rfl, rfl⟩⟩
    · rw [if_neg hk] at e
      obtain ⟨w', t', h1, h2, h3⟩ := h.1 k v e
      exact ⟨w', t', h1, h2, .inl h3⟩
  · rw [uI]
    by_cases hk : (Sum.inl t' : Key) = Sum.inl t
    · rw [if_pos hk]; rfl
    · rw [if_neg hk]
      rcases e with e | ⟨_, e⟩
      · exact h.2 w' t' e
      · exact absurd (by rw [e]) hk
theorem pX.congr {E E' : Nat -> Int -> Prop} {r : List (Key × V)} (h : pX E r) (e : ∀ w t, E w t ↔ E' w t) : pX E' r := ⟨fun k v q => let ⟨w, t, a, b, c⟩ := h.1 k v q; ⟨w, t, a, b, (e w t).mp c⟩, fun w t q => h.2 w t ((e w t).mpr q)⟩
structure Rows (H : Hp) (rp : Addr) (qs : List Addr) (rs : List (List (Key × V))) : Prop where
  lst : H rp = some (.lst (qs.map V.ref))
  len : qs.length = rs.length
  nd : qs.Nodup
  row : ∀ (g : Nat) q r, qs[g]? = some q -> rs[g]? = some r -> H q = some (.dK r)
theorem Rows.same {H H' : Hp} {rp : Addr} {qs : List Addr} {rs : List (List (Key × V))} (h : Rows H rp qs rs) (s : aE H H') : Rows H' rp qs rs := ⟨s _ _ h.lst, h.len, h.nd, fun g q r a b => s _ _ (h.row g q r a b)⟩
theorem Rows.put {H : Hp} {rp : Addr} {qs : List Addr} {rs : List (List (Key × V))} (h : Rows H rp qs rs) {g : Nat} {q : Addr} {r r' : List (Key × V)} (hq : qs[g]? = some q) (hr : rs[g]? = some r) : Rows (upd H q (.dK r')) rp qs (rs.set g r') := by
  have hg := h.row g q r hq hr
  have nq : rp ≠ q := fun z => by have := h.lst; rw [z, hg] at this; cases this
  refine ⟨by rw [aI nq]; exact h.lst, by rw [List.length_set]; exact h.len, h.nd, fun g2 q2 r2 h1 h2 => ?_⟩
  rw [List.getElem?_set] at h2
  by_cases e : g = g2
  · subst e
    rw [if_pos rfl] at h2
    rw [hq] at h1
    cases h1
    by_cases hl : g < rs.length
    · rw [if_pos hl] at h2; cases h2; exact aB
    · rw [if_neg hl] at h2; cases h2
  · rw [if_neg e] at h2
    have n2 : q2 ≠ q := fun z => by
      subst z
      have hlt : g < qs.length := (List.getElem?_eq_some_iff.mp hq).1
      exact e ((List.getElem?_inj hlt h.nd).mp (hq.trans h1.symm))
    rw [aI n2]
    exact h.row g2 q2 r2 h1 h2
theorem Rows.other {H : Hp} {rp a : Addr} {u : HO} {qs : List Addr} {rs : List (List (Key × V))} (h : Rows H rp qs rs) (hn : H a = none) : Rows (upd H a u) rp qs rs := h.same (aE.new hn)
def yO (E : Int -> Nat -> Int -> Prop) (rs : List (List (Key × V))) (m : Nat) : Prop := ∀ (g : Nat) r, rs[g]? = some r -> pX (E g) r /\ r.length <= m
section
variable {P : Program} {w : World} {K : PySem.W.Frag} {mg : Str -> Option Value} {base : Heap}
def qX (K : PySem.W.Frag) : Sp := fun vs H Q _ => ∃ x y n ws hs, vs = [x, y] /\ cL K H x y n ws hs /\ ∀ rp H' qs rs, aE H H' -> H rp = none -> (∀ q ∈ qs, H q = none) -> Rows H' rp qs rs -> rs.length = n.toNat -> yO (hG ws hs) rs 100 -> Q (.ref rp) H'
theorem gQ : FnScope ["book", "deal", "rows", "work", "giver", "able", "taker"] ["book", "deal"] (aH jH) := ⟨rfl, rfl, rfl, by decide +kernel, rfl, by decide +kernel, by decide +kernel⟩
theorem wZ {f : Addr} {fd : FuncData} (G : Fn K mg "handing" jH ["book", "deal"] f fd) (B : Bl mg) : FnOk P w K mg base CX0 1 f fd ["book", "deal"] (qX K) := by
  refine G.fn.ok gQ (fun vs H Q E h => ?_) (fun cdv A outer s H vs Q E hr h => ?_)
  · obtain ⟨x, y, n, ws, hs, rfl, _⟩ := h
    rfl
  · obtain ⟨x, y, n, ws, hs, rfl, g, k⟩ := h
    refine ⟨_, (aD (wD (i := 2) (own := ["hand"]) (fr := []) (frn := []) (bU (aH jH) ["book", "deal", "rows", "work", "giver", "able", "taker"] rfl rfl (by decide +kernel)) rfl gQ.nd rfl rfl rfl (eQ rfl B.range (aA (bC bP (pv 0) aG (fun _ _ => rfl)) aC))
        (fun _ _ _ _ => (aK (i := 0) (show (["hand"] : List Str).Nodup by decide +kernel) rfl (Or.inl rfl))) (fun _ _ _ _ => fV)
        (fun _ _ _ _ => aAZ))
      (aD (eW PassesOwn.never rfl (wM .t .t rfl B.enumerate rfl B.zip (aA (pv 1) (aA (bC bP (pv 0) aG (fun _ _ => rfl)) aC))) (fU rfl (aT (aK (i := 3) gQ.nd rfl (Or.inl rfl)) (aT (fU rfl (aT (aK (i := 4) gQ.nd rfl (Or.inl rfl)) (aT (aK (i := 5) gQ.nd rfl (Or.inl rfl)) cT))) cT)))
        (aF (eW PassesOwn.never rfl (gS (pv 5)) (aK (i := 6) gQ.nd rfl (Or.inl rfl))
          (aF (bR (aN lB (pv 6) (pv 4) (aS _))
            (aF (yB (qI hr) (bC bZ (pv 2) (pv 4) (fun _ _ => rfl)) (pv 6) (pv 3) rfl))
            aW)))))
      (aF (aM (pv 2))))), ?_⟩
    obtain ⟨hl12, hn1, hn6⟩ := g.len
    obtain ⟨a, b, ys, rfl, ha, hb2, hys⟩ := fM g.1
    obtain ⟨c0, rfl, hc0⟩ := aZ.mp g.2.2.1
    obtain ⟨hdl, hdg⟩ := bV g.2.2.2
    obtain ⟨_, _, hw12, hws⟩ := bS g.2.1
    have hlw := aR hys
    rw [List.length_map] at hlw
    refine ⟨_, rfl, a, _, 0, .int n, rfl, rfl, ha, rfl, n, rfl, by omega, by omega, kO (lo := 0) (n := n.toNat) (fun σ => ∃ v, σ = [v]) (fun i zs H2 => ∃ qs : List Addr, zs = qs.map V.ref /\ qs.length = i /\ aE H H2 /\ qs.Nodup /\ ∀ q ∈ qs, H q = none /\ H2 q = some (.dK [])) ?_ ⟨none, rfl⟩ ⟨[], rfl, rfl, aE.refl H, List.nodup_nil, fun _ h => (List.not_mem_nil h).elim⟩ ?_ ?_ ?_⟩
    · rw [sizeLine_eq]; omega
    · rintro i zs H2 ⟨qs, rfl, hq, _⟩
      rw [List.length_map]; omega
    · rintro i zs σ H2 hi ⟨v, rfl⟩ ⟨qs, rfl, hq, s2, nd, hqs⟩ hz
      refine dX ?_
      intro p hp
      refine ⟨hz, ⟨_, rfl⟩, qs ++ [p], by rw [List.map_append]; rfl, by rw [List.length_append, hq]; rfl, s2.trans (aE.new hp), ?_, fun q hq' => ?_⟩
      · rw [List.nodup_append]
        refine ⟨nd, by simp, fun x hx y hy e => ?_⟩
        rw [List.mem_singleton.mp hy] at e
        have := (hqs x hx).2
        rw [e, hp] at this; cases this
      · rcases List.mem_append.mp hq' with h | h
        · exact ⟨(hqs q h).1, (aE.new hp) _ _ (hqs q h).2⟩
        · rw [List.mem_singleton.mp h]
          exact ⟨s2.free hp, aB⟩
    · rintro zs H2 ⟨qs, rfl, hq, s2, nd, hqs⟩ rp hrp
      have s3 := s2.trans (aE.new (o := .lst (qs.map V.ref)) hrp)
      have hrp0 : H rp = none := s2.free hrp
      have R3 : Rows (upd H2 rp (.lst (qs.map V.ref))) rp qs (List.replicate n.toNat []) := ⟨aB, by rw [List.length_replicate]; exact hq, nd, fun g q r h1 h2 => by
        have er : r = [] := by
          rw [List.getElem?_replicate] at h2
          split at h2
          · exact (Option.some.inj h2).symm
          · cases h2
        rw [er]
        exact (aE.new hrp) _ _ (hqs q (List.mem_of_getElem? h1)).2⟩
      generalize upd H2 rp (.lst (qs.map V.ref)) = H3 at s3 R3 ⊢
      have h6 : ∀ l ∈ ws, l.length <= 6 := fun l hl => by
        obtain ⟨_, w2, w3⟩ := bJ (hws l hl)
        have := fY (by omega) w2 w3
        omega
      refine ⟨_, rfl, _, rfl, a, _, 1, .ref b, rfl, rfl, s3.seqT ha, rfl, c0, b, _, _, rfl, s3.seqT hc0, s3.seqT hb2, uQ (K := K) (k1 := .t) (k2 := .t) (a := c0) (b := b) (xs := hs.map V.int) (ys := ys)
        (fun i σ H4 => (∃ v3 v4 v5 v6, σ = [some (.ref a), some (.ref c0), some (.ref rp), v3, v4, v5, v6]) /\ aE H H4 /\ ∃ rs, Rows H4 rp qs rs /\ rs.length = n.toNat /\ yO (fun g w t => w < i /\ hG ws hs g w t) rs (6 * i))
        (by rw [List.length_map]; omega) ⟨⟨_, _, _, _, rfl⟩, s3, _, R3, List.length_replicate, fun g r hr => ?_⟩ (fun _ σ H4 _ ⟨_, s4, _⟩ => ⟨s4.seqT hc0, s4.seqT hb2⟩) ?_ ?_⟩
      · have er : r = [] := by
          rw [List.getElem?_replicate] at hr
          split at hr
          · exact (Option.some.inj hr).symm
          · cases hr
        rw [er]
        exact ⟨pX.nil fun w t h => by omega, Nat.zero_le _⟩
      · rintro i u v p q σ H4 hu hv ⟨⟨v3, v4, v5, v6, rfl⟩, s4, rs, R4, hl4, E4⟩ hp hq hne
        obtain ⟨h, hh, rfl⟩ := jX hu
        obtain ⟨dv, hdv, denv⟩ := cX hys hv
        rw [List.getElem?_map] at hdv
        obtain ⟨l, hl, rfl⟩ : ∃ l, ws[i]? = some l /\ bX l = dv := by
          cases q : ws[i]? with
          | none => rw [q] at hdv; cases hdv
          | some l => rw [q] at hdv; exact ⟨l, rfl, Option.some.inj hdv⟩
        obtain ⟨aw, rfl, haw⟩ := aZ.mp denv
        obtain ⟨hh0, hh1⟩ := g.hand hh
        have hl6 := h6 l (List.mem_of_getElem? hl)
        have hi12 : i < 12 := by
          have := (List.getElem?_eq_some_iff.mp hh).1
          omega
        have sp := aE.new (o := .tup [.int h, .ref aw]) hp
        have hq1 : upd H4 p (.tup [.int h, .ref aw]) q = none := by rw [aI hne]; exact hq
        have sq := aE.new (o := .tup [.int (i : Nat), .ref p]) hq1
        have ep : upd (upd H4 p (.tup [.int h, .ref aw])) q (.tup [.int (i : Nat), .ref p]) p = some (.tup [.int h, .ref aw]) := sq _ _ aB
        have eq : upd (upd H4 p (.tup [.int h, .ref aw])) q (.tup [.int (i : Nat), .ref p]) q = some (.tup [.int (i : Nat), .ref p]) := aB
        have s5 := s4.trans (sp.trans sq)
        have R5 := R4.same (sp.trans sq)
        generalize upd (upd H4 p (.tup [.int h, .ref aw])) q (.tup [.int (i : Nat), .ref p]) = H5 at ep eq s5 R5 ⊢
        refine ⟨q, _, rfl, SqT.of eq, rfl, _, _, rfl, _, _, rfl, p, _, rfl, SqT.of ep, rfl, _, _, rfl, _, _, rfl, rfl, rfl, ?_⟩
        have hgl : h.toNat < qs.length := by rw [R5.len, hl4]; omega
        obtain ⟨qh, hqh⟩ : ∃ qh, qs[h.toNat]? = some qh := ⟨_, List.getElem?_eq_getElem hgl⟩
        have hcast : ((h.toNat : Nat) : Int) = h := by omega
        refine ⟨_, rfl, aw, rfl, ⟨_, s5.seqT haw⟩, rV (K := K) (a := aw) (xs := l.map V.int) (fun j σ H6 => (∃ v6, σ = [some (.ref a), some (.ref c0), some (.ref rp), some (.int (i : Nat)), some (.int h), some (.ref aw), v6]) /\ aE H H6 /\ ∃ rs, Rows H6 rp qs rs /\ rs.length = n.toNat /\ yO (fun g w t => (w < i /\ hG ws hs g w t) ∨ (w = i /\ g = h /\ t ∈ l.take j /\ t ≠ h)) rs (6 * i + j))
          ⟨⟨_, rfl⟩, s5, rs, R5, hl4, fun g r hr => ⟨(E4 g r hr).1.congr fun w t => ⟨.inl, fun z => z.elim id fun z => by rw [List.take_zero] at z; exact (List.not_mem_nil z.2.2.1).elim⟩, (E4 g r hr).2⟩⟩ (fun _ σ H6 _ ⟨_, s6, _⟩ => s6.seqT haw) ?_ ?_⟩
        · rintro j tv σ H6 htv ⟨⟨v6, rfl⟩, s6, rs, R6, hl6', E6⟩
          obtain ⟨t, ht, rfl⟩ := jX htv
          have hj : j < l.length := (List.getElem?_eq_some_iff.mp ht).1
          have etake : l.take (j + 1) = l.take j ++ [t] := by rw [List.take_succ, ht]; rfl
          refine ⟨_, rfl, _, rfl, rfl, _, rfl, ?_⟩
          refine cN (fun c => ?_) (fun c => ?_)
          · have hth : t ≠ h := fun z => by rw [z] at c; simp at c
            obtain ⟨r, hr⟩ : ∃ r, rs[h.toNat]? = some r := ⟨_, List.getElem?_eq_getElem (by rw [hl6']; omega)⟩
            have hat : atI (qs.map V.ref) h = some (.ref qh) := by
              have := eC (xs := qs.map V.ref) (j := h.toNat) (v := .ref qh) (by rw [List.getElem?_map, hqh]; rfl)
              rwa [hcast] at this
            have hrow := R6.row _ _ _ hqh hr
            have hrl := (E6 _ _ hr).2
            have hqH : H qh = none := (hqs qh (List.mem_of_getElem? hqh)).1
            refine ⟨_, rfl, _, rfl, _, rfl, rp, _, h, _, rfl, rfl, SqL.of R6.lst, hat, _, rfl, qh, _, rfl, uK.k (k := .inl t) hrow (by rw [sizeLine_eq]; omega), ?_⟩
            refine ⟨⟨_, rfl⟩, s6.wr hqH, rs.set h.toNat (iP r (.inl t) (.int (i : Nat))), R6.put hqh hr, by rw [List.length_set]; exact hl6', fun g2 r2 hr2 => ?_⟩
            rw [List.getElem?_set] at hr2
            by_cases eg : h.toNat = g2
            · rw [if_pos eg, if_pos (by rw [hl6']; omega)] at hr2
              cases hr2
              have eg' : ((g2 : Nat) : Int) = h := by omega
              refine ⟨((E6 _ _ hr).1.put i t).congr fun w t' => ?_, Nat.le_trans (jF _ _ _) (by omega)⟩
              rw [hcast, eg', etake]
              constructor
              · rintro ((z | ⟨z1, z2, z3, z4⟩) | ⟨z1, z2⟩)
                · exact .inl z
                · exact .inr ⟨z1, z2, List.mem_append_left _ z3, z4⟩
                · exact .inr ⟨z1, rfl, by rw [z2]; simp, by rw [z2]; exact hth⟩
              · rintro (z | ⟨z1, z2, z3, z4⟩)
                · exact .inl (.inl z)
                · rcases List.mem_append.mp z3 with z3 | z3
                  · exact .inl (.inr ⟨z1, z2, z3, z4⟩)
                  · exact .inr ⟨z1, List.mem_singleton.mp z3⟩
            · rw [if_neg eg] at hr2
              refine ⟨(E6 _ _ hr2).1.congr fun w t' => ?_, Nat.le_trans (E6 _ _ hr2).2 (by omega)⟩
              have ng : ¬ ((g2 : Nat) : Int) = h := by omega
              constructor
              · rintro (z | ⟨_, z2, _⟩)
                · exact .inl z
                · exact absurd z2 ng
              · rintro (z | ⟨_, z2, _⟩)
                · exact .inl z
                · exact absurd z2 ng
          · have hth : t = h := by simpa using c
            refine ⟨⟨_, rfl⟩, s6, rs, R6, hl6', fun g2 r2 hr2 => ⟨(E6 _ _ hr2).1.congr fun w t' => ?_, Nat.le_trans (E6 _ _ hr2).2 (by omega)⟩⟩
            rw [etake]
            constructor
            · rintro (z | ⟨z1, z2, z3, z4⟩)
              · exact .inl z
              · exact .inr ⟨z1, z2, List.mem_append_left _ z3, z4⟩
            · rintro (z | ⟨z1, z2, z3, z4⟩)
              · exact .inl z
              · rcases List.mem_append.mp z3 with z3 | z3
                · exact .inr ⟨z1, z2, z3, z4⟩
                · exact absurd ((List.mem_singleton.mp z3).trans hth) z4
        · rintro σ H6 ⟨⟨v6, rfl⟩, s6, rs, R6, hl6', E6⟩
          refine ⟨⟨_, _, _, _, rfl⟩, s6, rs, R6, hl6', fun g2 r2 hr2 => ⟨(E6 _ _ hr2).1.congr fun w t' => ?_, Nat.le_trans (E6 _ _ hr2).2 (by rw [List.length_map]; omega)⟩⟩
          rw [List.length_map, List.take_length]
          constructor
          · rintro (⟨z1, z2⟩ | ⟨z1, z2, z3, z4⟩)
            · exact ⟨by omega, z2⟩
            · subst z1
              exact ⟨by omega, by rw [hh, z2], l, hl, z3, by rw [z2]; exact z4⟩
          · rintro ⟨z1, z2⟩
            by_cases hw : w < i
            · exact .inl ⟨hw, z2⟩
            · have ew : w = i := by omega
              subst ew
              obtain ⟨z3, l', z4, z5, z6⟩ := z2
              rw [hh] at z3
              rw [hl] at z4
              cases z4
              have ez : h = g2 := Option.some.inj z3
              exact .inr ⟨rfl, ez.symm, z5, by rw [ez]; exact z6⟩
      · rintro σ H4 ⟨⟨v3, v4, v5, v6, rfl⟩, s4, rs, R4, hl4, E4⟩
        refine ⟨_, rfl, k rp H4 qs rs s4 hrp0 (fun q hq => (hqs q hq).1) R4 hl4 fun g r hr => ⟨(E4 g r hr).1.congr fun w t => ⟨fun z => z.2, fun z => ⟨?_, z⟩⟩, Nat.le_trans (E4 g r hr).2 (by rw [List.length_map]; omega)⟩⟩
        rw [List.length_map]
        exact (List.getElem?_eq_some_iff.mp z.1).1
end
end Ab
set_option Elab.async false
set_option linter.all false
set_option maxRecDepth 100000
namespace Ab
open PySem L2
def Tp (H H' : Hp) : Prop := ∀ p xs, H p = some (.tup xs) -> H' p = some (.tup xs)
theorem Tp.of {H H' : Hp} (s : aE H H') : Tp H H' := fun _ _ h => s _ _ h
theorem Tp.trans {H H1 H2 : Hp} (a : Tp H H1) (b : Tp H1 H2) : Tp H H2 := fun p xs h => b p xs (a p xs h)
theorem Tp.upd {H : Hp} {a : Addr} {u : HO} (h : ∀ xs, H a ≠ some (.tup xs)) : Tp H (upd H a u) := fun p xs e => by
  have ne : p ≠ a := fun z => h xs (by rw [<- z]; exact e)
  rw [aI ne]; exact e
theorem sX {fs : List (Key × V)} {os : List Int} (h : fs.map (·.1) = os.map Sum.inl) (t : Int) : (cQ fs (.inl t)).isSome = decide (t ∈ os) := by
  rw [<- gH]
  have : (fs.any fun kv => decide (kv.1 = Sum.inl t)) = ((fs.map (·.1)).any fun k => decide (k = Sum.inl t)) := by rw [List.any_map]; rfl
  rw [this, h, List.any_map, Bool.eq_iff_iff]
  simp
structure Tree (ws : List (List Int)) (hs : List Int) (n first : Int) (H : Hp) (fs : List (Key × V)) (os : List Int) : Prop where
  keys : fs.map (·.1) = os.map Sum.inl
  nd : os.Nodup
  rng : ∀ o ∈ os, 0 <= o /\ o < n
  head : os[0]? = some first
  v0 : cQ fs (.inl first) = some .non
  par : ∀ (j : Nat) (t : Int), 0 < j -> os[j]? = some t -> ∃ (p : Addr) (w : Nat) (g : Int) (i : Nat), cQ fs (.inl t) = some (.ref p) /\ H p = some (.tup [.int (w : Nat), .int g, .int t]) /\ hG ws hs g w t /\ i < j /\ os[i]? = some g
section
variable {ws : List (List Int)} {hs : List Int} {n first : Int} {H H' : Hp} {fs : List (Key × V)} {os : List Int}
theorem Tree.tp (T : Tree ws hs n first H fs os) (e : Tp H H') : Tree ws hs n first H' fs os :=
  ⟨T.keys, T.nd, T.rng, T.head, T.v0, fun j t h0 h1 => let ⟨p, w, g, i, a, b, c⟩ := T.par j t h0 h1; ⟨p, w, g, i, a, e _ _ b, c⟩⟩
theorem Tree.len (T : Tree ws hs n first H fs os) : os.length <= n.toNat := jW _ _ T.nd fun x hx => by have := T.rng x hx; omega
theorem Tree.flen (T : Tree ws hs n first H fs os) : fs.length = os.length := by
  have := congrArg List.length T.keys
  rwa [List.length_map, List.length_map] at this
theorem Tree.one (h0 : 0 <= first) (h1 : first < n) : Tree ws hs n first H [(.inl first, .non)] [first] :=
  ⟨rfl, by simp, fun o ho => by rw [List.mem_singleton.mp ho]; exact ⟨h0, h1⟩, rfl, cV rfl, fun j t h2 h3 => by
    cases j with
    | zero => omega
    | succ j => simp at h3⟩
theorem Tree.grow (T : Tree ws hs n first H fs os) {p : Addr} {w : Nat} {g t : Int} {i : Nat} (hp : H p = some (.tup [.int (w : Nat), .int g, .int t])) (e : hG ws hs g w t) (hi : os[i]? = some g) (ht : t ∉ os) (r0 : 0 <= t) (r1 : t < n) :
    Tree ws hs n first H (fs ++ [(.inl t, .ref p)]) (os ++ [t]) := by
  have hv : cQ fs (.inl t) = none := by
    have := sX T.keys t
    rw [decide_eq_false ht] at this
    cases q : cQ fs (.inl t) with
    | none => rfl
    | some v => rw [q] at this; cases this
  have hlt : i < os.length := (List.getElem?_eq_some_iff.mp hi).1
  have val : ∀ j : Key, cQ (fs ++ [(.inl t, .ref p)]) j = if j = .inl t then some (.ref p) else cQ fs j := fun j => mF _ _ _ _ hv
  have hf : first ∈ os := List.mem_of_getElem? T.head
  refine ⟨by rw [List.map_append, List.map_append, T.keys]; rfl, ?_, fun o ho => ?_, ?_, ?_, fun j t' h0 h1 => ?_⟩
  · rw [List.nodup_append]
    exact ⟨T.nd, by simp, fun x hx y hy z => ht (by rw [<- List.mem_singleton.mp hy, <- z]; exact hx)⟩
  · rcases List.mem_append.mp ho with h | h
    · exact T.rng o h
    · rw [List.mem_singleton.mp h]; exact ⟨r0, r1⟩
  · rw [List.getElem?_append_left (by omega)]; exact T.head
  · rw [val, if_neg (fun z => ht (by have : first = t := by simpa using z
                                     rw [<- this]; exact hf))]
    exact T.v0
  · by_cases hj : j < os.length
    · rw [List.getElem?_append_left hj] at h1
      obtain ⟨p', w', g', i', a, b, c, d, e'⟩ := T.par j t' h0 h1
      have ne : (Sum.inl t' : Key) ≠ Sum.inl t := fun z => ht (by have : t' = t := by simpa using z
                                                                  rw [<- this]; exact List.mem_of_getElem? h1)
      exact ⟨p', w', g', i', by rw [val, if_neg ne]; exact a, b, c, d, by rw [List.getElem?_append_left (by omega)]; exact e'⟩
    · have ej : j = os.length := by
        have := (List.getElem?_eq_some_iff.mp h1).1
        rw [List.length_append] at this
        simp at this
        omega
      subst ej
      rw [List.getElem?_append_right (Nat.le_refl _), Nat.sub_self] at h1
      have et : t' = t := by simpa using h1.symm
      subst et
      exact ⟨p, w, g, i, by rw [val, if_pos rfl], hp, e, hlt, by rw [List.getElem?_append_left hlt]; exact hi⟩
theorem Tree.rl (T : Tree ws hs n first H fs os) : ∀ (j : Nat) (t : Int), os[j]? = some t -> RL ws hs j first t := by
  intro j
  induction j using Nat.strongRecOn with
  | ind j ih =>
    intro t ht
    by_cases h0 : j = 0
    · subst h0
      rw [T.head] at ht
      exact Option.some.inj ht
    · obtain ⟨p, w, g, i, _, _, e, hi, hg⟩ := T.par j t (by omega) ht
      exact ((ih i hi g hg).snoc e).mono (by omega)
end
section
variable {P : Program} {w : World} {K : PySem.W.Frag} {mg : Str -> Option Value} {base : Heap}
def aDh (ws : List (List Int)) (hs os : List Int) : Prop := ∀ g ∈ os, ∀ w t, hG ws hs g w t -> t ∈ os
def qY (K : PySem.W.Frag) : Sp := fun vs H Q _ => ∃ rp first qs rs n ws hs, vs = [.ref rp, .int first] /\ Rows H rp qs rs /\ rs.length = n.toNat /\ yO (hG ws hs) rs 100 /\ (∀ g w t, hG ws hs g w t -> 0 <= t /\ t < n) /\ n <= 6 /\ 0 <= first /\ first < n /\
  ∀ fd H' fs os, aE H H' -> H fd = none -> H' fd = some (.dK fs) -> Tree ws hs n first H' fs os -> aDh ws hs os -> Q (.ref fd) H'
theorem iL : FnScope ["rows", "first", "found", "waiting", "giver", "taker"] ["rows", "first"] (aH lL) := ⟨rfl, rfl, rfl, by decide +kernel, rfl, by decide +kernel, by decide +kernel⟩
theorem xA {f : Addr} {fd : FuncData} (G : Fn K mg "reached" lL ["rows", "first"] f fd) (B : Bl mg) : FnOk P w K mg base CX0 1 f fd ["rows", "first"] (qY K) := by
  refine G.fn.ok iL (fun vs H Q E h => ?_) (fun cdv A outer s H vs Q E hr h => ?_)
  · obtain ⟨rp, first, qs, rs, n, ws, hs, rfl, _⟩ := h
    rfl
  · obtain ⟨rp, first, qs, rs, n, ws, hs, rfl, R, hlr, ER, hedge, hn6, hf0, hf1, k⟩ := h
    refine ⟨_, (aD (aU (i := 2) iL.nd rfl (Or.inl rfl) (aA1 (pv 1) rR))
      (aD (aU (i := 3) iL.nd rfl (Or.inl rfl) (gI (aA (pv 1) aC)))
      (aD (nQ PassesOwn.never (aAs (pv 3) (fun _ => rfl))
        (aD (aU (i := 4) iL.nd rfl (Or.inl rfl) (lF PySem.F.plainAttrs_list PySem.F.slot_list_pop PySem.F.type_list_pop aAx (pv 3) (aA aG aC)))
        (aF (aB4 (eW PassesOwn.never rfl (aB3 (bC bZ (pv 0) (pv 4) (fun _ _ => rfl))) (aK (i := 5) iL.nd rfl (Or.inl rfl))
          (aF (bR (aAk (zT (qI hr) (pv 5) (pv 2)) (by with_unfolding_all rfl))
            (aD (yB (qI hr) (pv 2) (pv 5) (iN (aA (sG (qI hr) (bC bZ (pv 0) (pv 4) (fun _ _ => rfl)) (pv 5) (fun _ _ => rfl)) (aA (pv 4) (aA (pv 5) aC)))) rfl)
            (aF (eA (lF PySem.F.plainAttrs_list PySem.F.slot_list_append PySem.F.type_list_append iF (pv 3) (aA (pv 5) aC)))))
            aW)))))))
      (aF (aM (pv 2)))))), ?_⟩
    intro fd0 hfd0
    refine ⟨_, rfl, .inl first, rfl, aB, ?_⟩
    rw [aBK]
    have s1 := aE.new (o := .dK [(.inl first, .non)]) hfd0
    have e1 : upd H fd0 (.dK [(.inl first, .non)]) fd0 = some (.dK [(.inl first, .non)]) := aB
    generalize upd H fd0 (.dK [(.inl first, .non)]) = H1 at s1 e1 ⊢
    refine ⟨_, rfl, sz1 _, fun wt hwt => ?_⟩
    have hwt0 : H wt = none := s1.free hwt
    have nfw : fd0 ≠ wt := fun z => by rw [z, hwt] at e1; cases e1
    have s2 := s1.trans (aE.new (o := .lst [.int first]) hwt)
    have e2 := (aE.new (o := .lst [.int first]) hwt) _ _ e1
    have w2 : upd H1 wt (.lst [.int first]) wt = some (.lst [.int first]) := aB
    generalize upd H1 wt (.lst [.int first]) = H2 at s2 e2 w2 ⊢
    -- the while
    refine ⟨fun m σ H3 => ∃ (v4 v5 : Option V) (mm : Nat) (fs : List (Key × V)) (os : List Int), σ = [some (.ref rp), some (.int first), some (.ref fd0), some (.ref wt), v4, v5] /\ m = n.toNat - mm /\ aE H H3 /\ H3 fd0 = some (.dK fs) /\ H3 wt = some (.lst ((os.drop mm).map V.int)) /\ Tree ws hs n first H3 fs os /\ mm <= os.length /\
        ∀ (i : Nat) (g : Int), i < mm -> os[i]? = some g -> ∀ w t, hG ws hs g w t -> t ∈ os,
      ⟨n.toNat - 0, none, none, 0, _, [first], rfl, rfl, s2, e2, w2, Tree.one hf0 hf1, Nat.zero_le _, fun i g hi => absurd hi (Nat.not_lt_zero _)⟩, ?_⟩
    rintro m σ H3 ⟨v4, v5, mm, fs, os, rfl, rfl, s3, e3, w3, T3, hmm, pr3⟩
    refine ⟨_, rfl, !((os.drop mm).map V.int).isEmpty, .inl ⟨_, SqL.of w3, rfl⟩, ?_⟩
    by_cases hend : mm < os.length
    · -- a turn
      have hne : (os.drop mm) ≠ [] := by
        intro z
        have := congrArg List.length z
        rw [List.length_drop] at this
        simp at this
        omega
      have hb : (!((os.drop mm).map V.int).isEmpty) = true := by
        cases q : os.drop mm with
        | nil => exact absurd q hne
        | cons _ _ => rfl
      rw [hb]
      refine iA ?_
      have hdrop : os.drop mm = os[mm] :: os.drop (mm + 1) := List.drop_eq_getElem_cons hend
      have hgm : os[mm]? = some (os[mm]) := List.getElem?_eq_getElem hend
      generalize os[mm] = g at hdrop hgm
      obtain ⟨hg0, hg1⟩ := T3.rng g (List.mem_of_getElem? hgm)
      have holen := T3.len
      refine ⟨fun σ' H' => ∃ m', m' < n.toNat - mm /\ ∃ (v4 v5 : Option V) (mm : Nat) (fs : List (Key × V)) (os : List Int), σ' = [some (.ref rp), some (.int first), some (.ref fd0), some (.ref wt), v4, v5] /\ m' = n.toNat - mm /\ aE H H' /\ H' fd0 = some (.dK fs) /\ H' wt = some (.lst ((os.drop mm).map V.int)) /\ Tree ws hs n first H' fs os /\ mm <= os.length /\
        ∀ (i : Nat) (g : Int), i < mm -> os[i]? = some g -> ∀ w t, hG ws hs g w t -> t ∈ os, fun σ' H' z => z, ?_⟩
      refine ⟨_, rfl, .inl ⟨rfl, _, SqL.of w3⟩, ?_⟩
      have hx0 : ((os.drop mm).map V.int)[0]? = some (.int g) := by rw [hdrop]; rfl
      have hxl : 0 < ((os.drop mm).map V.int).length := (List.getElem?_eq_some_iff.mp hx0).1
      refine ⟨wt, _, 0, 0, .int g, rfl, rfl, w3, by decide, by decide, lJ (i := 0) (by decide) hxl, hx0, ?_⟩
      have her : ((os.drop mm).map V.int).eraseIdx 0 = (os.drop (mm + 1)).map V.int := by rw [hdrop]; rfl
      rw [her]
      have s4 := s3.wr (u := .lst ((os.drop (mm + 1)).map V.int)) hwt0
      have e4 : upd H3 wt (.lst ((os.drop (mm + 1)).map V.int)) fd0 = some (.dK fs) := by rw [aI nfw]; exact e3
      have w4 : upd H3 wt (.lst ((os.drop (mm + 1)).map V.int)) wt = some (.lst ((os.drop (mm + 1)).map V.int)) := aB
      have T4 := T3.tp (Tp.upd (a := wt) (u := .lst ((os.drop (mm + 1)).map V.int)) fun xs z => by rw [w3] at z; cases z)
      generalize upd H3 wt (.lst ((os.drop (mm + 1)).map V.int)) = H4 at s4 e4 w4 T4 ⊢
      -- the row
      have R4 := R.same s4
      have hgl : g.toNat < qs.length := by rw [R.len, hlr]; omega
      have hcast : ((g.toNat : Nat) : Int) = g := by omega
      obtain ⟨qg, hqg⟩ : ∃ q, qs[g.toNat]? = some q := ⟨_, List.getElem?_eq_getElem hgl⟩
      obtain ⟨r, hr⟩ : ∃ r, rs[g.toNat]? = some r := ⟨_, List.getElem?_eq_getElem (by rw [hlr]; omega)⟩
      have hat : atI (qs.map V.ref) g = some (.ref qg) := by
        have := eC (xs := qs.map V.ref) (j := g.toNat) (v := .ref qg) (by rw [List.getElem?_map, hqg]; rfl)
        rwa [hcast] at this
      have hrow := R.row _ _ _ hqg hr
      have hrow4 := s4 _ _ hrow
      obtain ⟨hRE, hRl⟩ := ER _ _ hr
      rw [hcast] at hRE
      have nqf : qg ≠ fd0 := fun z => by rw [z, hfd0] at hrow; cases hrow
      have nqw : qg ≠ wt := fun z => by rw [z, hwt0] at hrow; cases hrow
      have nqr : rp ≠ qg := fun z => by have := R.lst; rw [z, hrow] at this; cases this
      refine ⟨_, rfl, _, rfl, rp, _, g, _, rfl, rfl, SqL.of R4.lst, hat, qg, r, rfl, hrow4, fun o nf => ?_⟩
      have z5 : upd H4 qg (.frz o (.dK r)) qg = some (.frz o (.dK r)) := aB
      have b5 : But qg H (upd H4 qg (.frz o (.dK r))) := fun b u nb hb => by rw [aI nb]; exact s4 _ _ hb
      have e5 : upd H4 qg (.frz o (.dK r)) fd0 = some (.dK fs) := by rw [aI (Ne.symm nqf)]; exact e4
      have w5 : upd H4 qg (.frz o (.dK r)) wt = some (.lst ((os.drop (mm + 1)).map V.int)) := by rw [aI (Ne.symm nqw)]; exact w4
      have T5 := T4.tp (Tp.upd (a := qg) (u := .frz o (.dK r)) fun xs z => by rw [hrow4] at z; cases z)
      generalize upd H4 qg (.frz o (.dK r)) = H5 at z5 b5 e5 w5 T5 ⊢
      refine aA0 (a := qg) (o := o) (kvs := r) (fun j σ H6 => ∃ (v5 : Option V) (fs : List (Key × V)) (os : List Int), σ = [some (.ref rp), some (.int first), some (.ref fd0), some (.ref wt), some (.int g), v5] /\ H6 qg = some (.frz o (.dK r)) /\ But qg H H6 /\ H6 fd0 = some (.dK fs) /\ H6 wt = some (.lst ((os.drop (mm + 1)).map V.int)) /\ Tree ws hs n first H6 fs os /\ mm + 1 <= os.length /\ os[mm]? = some g /\
          (∀ (i : Nat) (g : Int), i < mm -> os[i]? = some g -> ∀ w t, hG ws hs g w t -> t ∈ os) /\ ∀ (i : Nat) k v t, i < j -> r[i]? = some (k, v) -> k = .inl t -> t ∈ os)
        ⟨v5, fs, os, rfl, z5, b5, e5, w5, T5, hend, hgm, pr3, fun i k v t hi => absurd hi (Nat.not_lt_zero _)⟩ (fun j σ H6 _ ⟨_, _, _, _, h, _⟩ => h) ?_ ?_
      · rintro j ⟨key, val⟩ σ H6 hj ⟨v5, fs, os, rfl, z6, b6, e6, w6, T6, hl6, hg6, pr6, dn6⟩
        -- the key is a hand, its value a work
        obtain ⟨val', hval⟩ : ∃ v, cQ r key = some v := by
          have : (cQ r key).isSome = true := by
            rw [<- gH, List.any_eq_true]
            exact ⟨_, List.mem_of_getElem? hj, by simp⟩
          cases q : cQ r key with
          | none => rw [q] at this; cases this
          | some v => exact ⟨v, rfl⟩
        obtain ⟨wk, t, rfl, rfl, hE⟩ := hRE.1 _ _ hval
        obtain ⟨ht0, ht1⟩ := hedge _ _ _ hE
        dsimp only [kV]
        have dn : ∀ (os' : List Int), t ∈ os' -> (∀ x ∈ os, x ∈ os') -> ∀ (i : Nat) k v t', i < j + 1 -> r[i]? = some (k, v) -> k = .inl t' -> t' ∈ os' := fun os' h1 h2 i k v t' hi hk he => by
          by_cases hij : i < j
          · exact h2 _ (dn6 i k v t' hij hk he)
          · have : i = j := by omega
            subst this
            rw [hj] at hk
            cases hk
            have : t = t' := by simpa using he
            rw [<- this]; exact h1
        refine ⟨_, rfl, _, rfl, fd0, _, rfl, pT.k (k := .inl t) e6, _, rfl, ?_⟩
        rw [sX T6.keys]
        by_cases htm : t ∈ os
        · rw [decide_eq_true htm]
          refine eD ?_
          exact ⟨_, fs, os, rfl, z6, b6, e6, w6, T6, hl6, hg6, pr6, dn os htm fun _ h => h⟩
        · rw [decide_eq_false htm]
          refine iA ?_
          have hR6 : H6 rp = some (.lst (qs.map V.ref)) := b6 _ _ nqr R.lst
          refine ⟨_, rfl, _, rfl, rp, _, g, _, rfl, rfl, SqL.of hR6, hat, _, rfl, qg, .int (wk : Nat), rfl, .inl ⟨r, .inl t, .inr ⟨o, z6⟩, rfl, hval.symm⟩, _, rfl, _, rfl, hV (show 3 <= 1000 by decide), fun p hp => ?_⟩
          have sp := aE.new (o := .tup [.int (wk : Nat), .int g, .int t]) hp
          have ep : upd H6 p (.tup [.int (wk : Nat), .int g, .int t]) p = _ := aB
          have b7 : But qg H (upd H6 p (.tup [.int (wk : Nat), .int g, .int t])) := b6.trans (But.of sp)
          have z7 := sp _ _ z6
          have e7 := sp _ _ e6
          have w7 := sp _ _ w6
          have T7 := T6.tp (Tp.of sp)
          generalize upd H6 p (.tup [.int (wk : Nat), .int g, .int t]) = H7 at sp ep b7 z7 e7 w7 T7 ⊢
          have hv : cQ fs (.inl t) = none := by
            have := sX T7.keys t
            rw [decide_eq_false htm] at this
            cases q : cQ fs (.inl t) with
            | none => rfl
            | some v => rw [q] at this; cases this
          have T7l := T7.len
          have T7f := T7.flen
          have T8 := T7.grow ep hE hg6 htm ht0 ht1
          have hput : iP fs (.inl t) (.ref p) = fs ++ [(.inl t, .ref p)] := aAX _ hv
          refine ⟨_, rfl, _, rfl, fd0, _, rfl, uK.k (k := .inl t) e7 (by rw [sizeLine_eq]; omega), ?_⟩
          rw [hput]
          have b8 : But qg H (upd H7 fd0 (.dK (fs ++ [(.inl t, .ref p)]))) := fun b u nb hb => by
            rw [aI (fun z => by rw [z, hfd0] at hb; cases hb)]
            exact b7 b u nb hb
          have z8 : upd H7 fd0 (.dK (fs ++ [(.inl t, .ref p)])) qg = some (.frz o (.dK r)) := by rw [aI nqf]; exact z7
          have e8 : upd H7 fd0 (.dK (fs ++ [(.inl t, .ref p)])) fd0 = _ := aB
          have w8 : upd H7 fd0 (.dK (fs ++ [(.inl t, .ref p)])) wt = some (.lst ((os.drop (mm + 1)).map V.int)) := by rw [aI (Ne.symm nfw)]; exact w7
          have T8' := T8.tp (Tp.upd (a := fd0) (u := .dK (fs ++ [(.inl t, .ref p)])) fun xs z => by rw [e7] at z; cases z)
          generalize upd H7 fd0 (.dK (fs ++ [(.inl t, .ref p)])) = H8 at b8 z8 e8 w8 T8' ⊢
          refine ⟨_, rfl, .inl ⟨rfl, _, SqL.of w8⟩, _, rfl, wt, _, .int t, rfl, rfl, w8, by rw [List.length_map, List.length_drop, sizeLine_eq]; omega, ?_⟩
          have hdr : (os.drop (mm + 1)).map V.int ++ [V.int t] = ((os ++ [t]).drop (mm + 1)).map V.int := by
            rw [List.drop_append_of_le_length hl6, List.map_append]; rfl
          rw [hdr]
          refine ⟨_, _, os ++ [t], rfl, by rw [aI nqw]; exact z8, fun b u nb hb => ?_, by rw [aI nfw]; exact e8, aB, T8'.tp (Tp.upd fun xs z => by rw [w8] at z; cases z), by rw [List.length_append]; omega, by rw [List.getElem?_append_left (by omega)]; exact hg6, fun i g' hi hg' w t' e' => ?_, dn _ (by simp) fun x hx => List.mem_append_left _ hx⟩
          · rw [aI (fun z => by rw [z, hwt0] at hb; cases hb)]
            exact b8 b u nb hb
          · rw [List.getElem?_append_left (by omega)] at hg'
            exact List.mem_append_left _ (pr6 i g' hi hg' w t' e')
      · rintro σ H6 ⟨v5, fs, os, rfl, z6, b6, e6, w6, T6, hl6, hg6, pr6, dn6⟩
        refine ⟨qg, o, r, z6, nf, ?_⟩
        have hole := T6.len
        have s7 : aE H (upd H6 qg (.dK r)) := fun b u hb => by
          by_cases hbq : b = qg
          · rw [hbq] at hb ⊢
            rw [aB, <- hrow]; exact hb
          · rw [aI hbq]; exact b6 b u hbq hb
        refine ⟨n.toNat - (mm + 1), by omega, _, _, mm + 1, fs, os, rfl, rfl, s7, by rw [aI (Ne.symm nqf)]; exact e6, by rw [aI (Ne.symm nqw)]; exact w6, T6.tp (Tp.upd fun xs z => by rw [z6] at z; cases z), hl6, fun i g' hi hg' w t e => ?_⟩
        by_cases him : i < mm
        · exact pr6 i g' him hg' w t e
        · have : i = mm := by omega
          subst this
          rw [hg6] at hg'
          cases hg'
          have hs := hRE.2 w t e
          rw [<- gH, List.any_eq_true] at hs
          obtain ⟨⟨k, v⟩, hk, he⟩ := hs
          obtain ⟨j, hj⟩ := List.mem_iff_getElem?.mp hk
          exact dn6 j k v t (List.getElem?_eq_some_iff.mp hj).1 hj (by simpa using he)
    · have hlen : mm = os.length := by omega
      have hb : (!((os.drop mm).map V.int).isEmpty) = false := by rw [hlen, List.drop_length]; rfl
      rw [hb]
      refine eD ?_
      refine ⟨_, rfl, k fd0 H3 fs os s3 hfd0 e3 T3 fun g hg w t e => ?_⟩
      obtain ⟨i, hi⟩ := List.mem_iff_getElem?.mp hg
      exact pr3 i g (by have := (List.getElem?_eq_some_iff.mp hi).1; omega) hi w t e
end
end Ab
set_option Elab.async false
set_option linter.all false
set_option maxRecDepth 100000
namespace Ab
open PySem L2
structure StepsAt (H : Hp) (ps : List Addr) (ss : List (Nat × Int × Int)) : Prop where
  len : ps.length = ss.length
  at_ : ∀ (i : Nat) p s, ps[i]? = some p -> ss[i]? = some s -> H p = some (.tup [.int (s.1 : Nat), .int s.2.1, .int s.2.2])
theorem StepsAt.nil {H : Hp} : StepsAt H [] [] := ⟨rfl, fun i p s h => by simp at h⟩
theorem StepsAt.cons {H : Hp} {ps : List Addr} {ss : List (Nat × Int × Int)} (h : StepsAt H ps ss) {p : Addr} {w : Nat} {g t : Int} (hp : H p = some (.tup [.int (w : Nat), .int g, .int t])) : StepsAt H (p :: ps) ((w, g, t) :: ss) := by
  refine ⟨by rw [List.length_cons, List.length_cons, h.len], fun i p' s h1 h2 => ?_⟩
  cases i with
  | zero =>
    have e1 : p = p' := by simpa using h1
    have e2 : (w, g, t) = s := by simpa using h2
    subst e1 e2
    exact hp
  | succ i => exact h.at_ i p' s (by simpa using h1) (by simpa using h2)
theorem StepsAt.tp {H H' : Hp} {ps : List Addr} {ss : List (Nat × Int × Int)} (h : StepsAt H ps ss) (e : Tp H H') : StepsAt H' ps ss := ⟨h.len, fun i p s a b => e _ _ (h.at_ i p s a b)⟩
section
variable {P : Program} {w : World} {K : PySem.W.Frag} {mg : Str -> Option Value} {base : Heap}
def yP (K : PySem.W.Frag) : Sp := fun vs H Q _ => ∃ fdp last fs os first n ws hs jl, vs = [.ref fdp, .int last] /\ H fdp = some (.dK fs) /\ Tree ws hs n first H fs os /\ n <= 6 /\ os[jl]? = some last /\
  ∀ p H' ps ss, aE H H' -> H p = none -> H' p = some (.lst (ps.map V.ref)) -> StepsAt H' ps ss -> cZ ws hs first ss last -> (first :: ss.map (·.2.2)).Nodup -> (∀ s ∈ ss, s.2.2 ∈ os) -> (0 < jl -> ss ≠ []) -> Q (.ref p) H'
theorem nI : FnScope ["found", "last", "some", "step"] ["found", "last"] (aH sN) := ⟨rfl, rfl, rfl, by decide +kernel, rfl, by decide +kernel, by decide +kernel⟩
theorem aBr {f : Addr} {fd : FuncData} (G : Fn K mg "way_to" sN ["found", "last"] f fd) (B : Bl mg) : FnOk P w K mg base CX0 1 f fd ["found", "last"] (yP K) := by
  refine G.fn.ok nI (fun vs H Q E h => ?_) (fun cdv A outer s H vs Q E hr h => ?_)
  · obtain ⟨fdp, last, fs, os, first, n, ws, hs, jl, rfl, _⟩ := h
    rfl
  · obtain ⟨fdp, last, fs, os, first, n, ws, hs, jl, rfl, hfd, T, hn6, hjl, k⟩ := h
    refine ⟨_, (aD (aU (i := 2) nI.nd rfl (Or.inl rfl) (gI aC))
      (aD (aU (i := 3) nI.nd rfl (Or.inl rfl) (sG (qI hr) (pv 0) (pv 1) (fun _ _ => rfl)))
      (aD (nQ PassesOwn.never (aAk (aBN (pv 3)))
        (aD (eA (lF PySem.F.plainAttrs_list PySem.F.slot_list_append PySem.F.type_list_append iF (pv 2) (aA (pv 3) aC)))
        (aF (aU (i := 3) nI.nd rfl (Or.inl rfl) (sG (qI hr) (pv 0) (bC bP (pv 3) aG (fun _ _ => rfl)) (fun _ _ => rfl))))))
      (aF (aM (aBY (pv 2) (aAn vV aG))))))), ?_⟩
    have Tl := T.len
    have hnsz : n.toNat < sizeLine := by rw [sizeLine_eq]; omega
    refine ⟨hV (show 0 <= 1000 by decide), fun sm hsm => ?_⟩
    have s1 := aE.new (o := .lst []) hsm
    have e1 : upd H sm (.lst []) sm = some (.lst []) := aB
    generalize upd H sm (.lst []) = H1 at s1 e1 ⊢
    -- what stands at a found hand
    have vals : ∀ (j : Nat) (t : Int), os[j]? = some t -> ∃ v, cQ fs (.inl t) = some v /\ ((j = 0 /\ v = .non) ∨ ∃ p w g i, 0 < j /\ v = .ref p /\ H p = some (.tup [.int (w : Nat), .int g, .int t]) /\ hG ws hs g w t /\ i < j /\ os[i]? = some g) := fun j t ht => by
      by_cases hj : j = 0
      · subst hj
        rw [T.head] at ht
        cases ht
        exact ⟨_, T.v0, .inl ⟨rfl, rfl⟩⟩
      · obtain ⟨p, w, g, i, a, b, c, d, e⟩ := T.par j t (by omega) ht
        exact ⟨_, a, .inr ⟨p, w, g, i, by omega, rfl, b, c, d, e⟩⟩
    obtain ⟨v0, hv0, _⟩ := vals jl last hjl
    refine ⟨_, rfl, _, rfl, fdp, v0, rfl, .inl ⟨fs, .inl last, .inl (s1 _ _ hfd), rfl, hv0.symm⟩, ?_⟩
    refine ⟨fun m σ H2 => ∃ (j : Nat) (t : Int) (v : V) (rps : List Addr) (ss : List (Nat × Int × Int)), m = j /\ σ = [some (.ref fdp), some (.int last), some (.ref sm), some v] /\ os[j]? = some t /\ cQ fs (.inl t) = some v /\ aE H H2 /\ H2 sm = some (.lst (rps.map V.ref)) /\ StepsAt H2 rps.reverse ss /\ cZ ws hs t ss last /\ (t :: ss.map (·.2.2)).Nodup /\
        (∀ x ∈ ss.map (·.2.2), ∃ i : Nat, j < i /\ os[i]? = some x) /\ rps.length + j <= jl /\ (j < jl -> ss ≠ []),
      ⟨jl, jl, last, v0, [], [], rfl, rfl, hjl, hv0, s1, e1, StepsAt.nil, rfl, by simp, fun x h => by simp at h, by simp, fun h => by omega⟩, ?_⟩
    rintro j σ H2 ⟨_, t, v, rps, ss, rfl, rfl, hj, hv, s2, e2, S2, P2, N2, I2, L2', L3⟩
    have hjo : jl < os.length := (List.getElem?_eq_some_iff.mp hjl).1
    obtain ⟨v', hv', cs⟩ := vals j t hj
    rw [hv] at hv'
    cases hv'
    rcases cs with ⟨rfl, rfl⟩ | ⟨p, w, g, i, hj0, rfl, hp, hE, hij, hg⟩
    · refine ⟨_, rfl, _, rfl, ?_⟩
      refine eD ?_
      rw [T.head] at hj
      cases hj
      refine ⟨_, rfl, _, rfl, rfl, sm, _, rfl, SqL.of e2, fun p hp => ?_⟩
      have s3 := aE.new (o := .lst (rps.map V.ref).reverse) hp
      refine k p _ rps.reverse ss (s2.trans s3) (s2.free hp) (by rw [aB, List.map_reverse]) (S2.tp (Tp.of s3)) P2 N2 (fun x hx => ?_) L3
      obtain ⟨i, _, hi⟩ := I2 _ (List.mem_map.mpr ⟨x, hx, rfl⟩)
      exact List.mem_of_getElem? hi
    · refine ⟨_, rfl, _, rfl, ?_⟩
      refine iA ?_
      obtain ⟨vg, hvg, _⟩ := vals i g hg
      refine ⟨fun σ' H' => ∃ m', m' < j /\ ∃ (j : Nat) (t : Int) (v : V) (rps : List Addr) (ss : List (Nat × Int × Int)), m' = j /\ σ' = [some (.ref fdp), some (.int last), some (.ref sm), some v] /\ os[j]? = some t /\ cQ fs (.inl t) = some v /\ aE H H' /\ H' sm = some (.lst (rps.map V.ref)) /\ StepsAt H' rps.reverse ss /\ cZ ws hs t ss last /\ (t :: ss.map (·.2.2)).Nodup /\
        (∀ x ∈ ss.map (·.2.2), ∃ i : Nat, j < i /\ os[i]? = some x) /\ rps.length + j <= jl /\ (j < jl -> ss ≠ []), fun σ' H' z => z, ?_⟩
      have hsz : (rps.map V.ref).length < sizeLine := by
        rw [List.length_map]
        exact Nat.lt_of_le_of_lt (Nat.le_trans (Nat.le_trans (Nat.le_add_right _ _) L2') (Nat.le_trans (Nat.le_of_lt hjo) Tl)) hnsz
      refine ⟨_, rfl, .inl ⟨rfl, _, SqL.of e2⟩, _, rfl, sm, _, .ref p, rfl, rfl, e2, hsz, ?_⟩
      have s3 : aE H (upd H2 sm (.lst (rps.map V.ref ++ [.ref p]))) := s2.wr hsm
      have e3 : upd H2 sm (.lst (rps.map V.ref ++ [.ref p])) sm = _ := aB
      have S3 := S2.tp (Tp.upd (a := sm) (u := .lst (rps.map V.ref ++ [.ref p])) fun xs z => by rw [e2] at z; cases z)
      generalize upd H2 sm (.lst (rps.map V.ref ++ [.ref p])) = H3 at s3 e3 S3 ⊢
      have hp3 := s3 _ _ hp
      refine ⟨_, rfl, _, rfl, p, _, 1, .int g, rfl, rfl, SqT.of hp3, rfl, fdp, vg, rfl, .inl ⟨fs, .inl g, .inl (s3 _ _ hfd), rfl, hvg.symm⟩, ?_⟩
      refine ⟨i, hij, i, g, vg, rps ++ [p], (w, g, t) :: ss, rfl, rfl, hg, hvg, s3, by rw [List.map_append]; exact e3, ?_, ⟨rfl, hE, P2⟩, ?_, ?_, ?_, fun _ => by simp⟩
      · rw [List.reverse_append]
        exact S3.cons hp3
      · show (g :: t :: ss.map (·.2.2)).Nodup
        rw [List.nodup_cons]
        refine ⟨fun hm => ?_, N2⟩
        have inj : ∀ i', i < i' -> os[i']? = some g -> False := fun i' h1 h2 => by
          have := (List.getElem?_inj (List.getElem?_eq_some_iff.mp hg).1 T.nd).mp (hg.trans h2.symm)
          omega
        rcases List.mem_cons.mp hm with e | hm
        · exact inj j hij (by rw [e]; exact hj)
        · obtain ⟨i', h1, h2⟩ := I2 g hm
          exact inj i' (by omega) h2
      · intro x hx
        rcases List.mem_cons.mp (show x ∈ t :: ss.map (·.2.2) from hx) with rfl | hx
        · exact ⟨j, hij, hj⟩
        · obtain ⟨i', h1, h2⟩ := I2 x hx
          exact ⟨i', by omega, h2⟩
      · rw [List.length_append]
        show rps.length + 1 + i <= jl
        omega
end
end Ab
set_option Elab.async false
set_option linter.all false
set_option maxRecDepth 100000
namespace Ab
open PySem L2
def sY : Str := ("levels_or_way" : Str) ++ ".<locals>." ++ "<lambda>"
theorem oU {n : Int} {hs : List Int} {h : Int} (h0 : 0 <= h) (h1 : h < n) : atI ((aO n hs).map V.int) h = some (.int ((hs.count h : Nat) : Int)) := by
  have hlt : h.toNat < n.toNat := by omega
  have hcast : ((h.toNat : Nat) : Int) = h := by omega
  have h1 : ((aO n hs).map V.int)[h.toNat]? = some (.int ((hs.count h : Nat) : Int)) := by rw [List.getElem?_map, oS hlt, hcast]; rfl
  have h2 := eC h1
  rwa [hcast] at h2
def aDZ (n : Int) (ws : List (List Int)) (hs : List Int) (H H' : Hp) (p : Addr) : Prop :=
  (∃ q lv, H' p = some (.tup [.str "levels", .ref q]) /\ H' q = some (.tup (lv.map V.int)) /\ dZ n ws hs lv) ∨
  ∃ q ps ss, H' p = some (.tup [.str "way", .ref q]) /\ H q = none /\ H' q = some (.lst (ps.map V.ref)) /\ StepsAt H' ps ss /\ jN n ws hs ss
section
variable {P : Program} {w : World} {K : PySem.W.Frag} {mg : Str -> Option Value} {base : Heap}
variable {fW fH fK fB fNB fD fND fL : Addr} {dW dH dK dB dNB dD dND dL : FuncData}
def qZ (K : PySem.W.Frag) (Pt : Addr) : Sp := fun vs H Q _ => ∃ x y n ws hs, vs = [x, y] /\ cL K H x y n ws hs /\ H Pt = some (.tab sY) /\ ∀ p H', aE H H' -> aDZ n ws hs H H' p -> Q (.ref p) H'
theorem oV : FnScope ["book", "deal", "many", "rows", "levels", "hand", "found", "last"] ["book", "deal"] (aH wQ) := ⟨rfl, rfl, rfl, by decide +kernel, rfl, by decide +kernel, by decide +kernel⟩
theorem aDi {f fHd fR fW' c Pt : Addr} {fd dHd dR dW' : FuncData} (G : Fn K mg "levels_or_way" wQ ["book", "deal"] f fd) (hc : fd.code = .ref c) (Z : Lm K mg base c Pt) (B : Bl mg) (R : Pr K mg fW fH fK fB fNB fD fND fL dW dH dK dB dNB dD dND dL)
    (GH : Fn K mg "handing" jH ["book", "deal"] fHd dHd) (GR : Fn K mg "reached" lL ["rows", "first"] fR dR) (GW : Fn K mg "way_to" sN ["found", "last"] fW' dW') : FnOk P w K mg base CX0 8 f fd ["book", "deal"] (qZ K Pt) := by
  have OL : FnOk P w K mg base CX0 7 fL dL ["book", "deal"] (jT K) := jL B R
  have OH : FnOk P w K mg base CX0 1 fHd dHd ["book", "deal"] (qX K) := wZ GH B
  have OR : FnOk P w K mg base CX0 1 fR dR ["rows", "first"] (qY K) := xA GR B
  have OW : FnOk P w K mg base CX0 1 fW' dW' ["found", "last"] (yP K) := aBr GW B
  refine G.fn.okC hc oV (fun vs H Q E h => ?_) (fun A outer s H vs Q E hr h => ?_)
  · obtain ⟨x, y, n, ws, hs, rfl, _⟩ := h
    rfl
  · obtain ⟨x, y, n, ws, hs, rfl, g, hT, k⟩ := h
    have r1 : Room 1 _ := hr.mono (by decide)
    refine ⟨_, (aD (aU (i := 2) oV.nd rfl (Or.inr rfl) (aQ R.L OL hr rfl (aA (pv 0) (aA (pv 1) aC))))
      (aD (aU (i := 3) oV.nd rfl (Or.inl rfl) (aQ GH OH r1 rfl (aA (pv 0) (aA (pv 1) aC))))
      (aD (aU (i := 4) oV.nd rfl (Or.inl rfl) (gI aC))
      (aD (eW PassesOwn.never rfl (eQ rfl B.range (aA (bC bP (pv 0) aG (fun _ _ => rfl)) aC)) (aK (i := 5) oV.nd rfl (Or.inl rfl))
        (aD (aU (i := 6) oV.nd rfl (Or.inl rfl) (aQ GR OR r1 rfl (aA (pv 3) (aA (pv 5) aC))))
        (aD (aU (i := 7) oV.nd rfl (Or.inl rfl) (zV 2 rfl r1 rfl B.min Z rfl (q := sY) rfl (pv 6) rfl rfl))
        (aD (bR (aN qB (bK rW (bC bP (pv 2) (pv 5) (fun _ _ => rfl)) (bC bP (pv 2) (pv 7) (fun _ _ => rfl))) aG (aS _))
          (aF (aM (iN (aA lX (aA (aQ GW OW r1 rfl (aA (pv 6) (aA (pv 7) aC))) aC)))))
          aW)
        (aF (eA (lF PySem.F.plainAttrs_list PySem.F.slot_list_append PySem.F.type_list_append iF (pv 4) (aA (bC bP (pv 2) (pv 7) (fun _ _ => rfl)) aC))))))))
      (aF (aM (iN (aA lX (aA (bT bN rfl B.tuple cH (aA (pv 4) aC)) aC))))))))), ?_⟩
    obtain ⟨hl12, hn1, hn6⟩ := g.len
    obtain ⟨a, b, ys, ex, ha, hb2, hys⟩ := fM g.1
    obtain ⟨_, _, hw12, hws⟩ := bS g.2.1
    have hedge : ∀ g w t, hG ws hs g w t -> 0 <= t /\ t < n := fun g w t e => by
      obtain ⟨_, l, h1, h2, _⟩ := e
      exact (bJ (hws l (List.mem_of_getElem? h1))).2.1 t h2
    refine ⟨_, rfl, _, rfl, x, y, n, ws, hs, rfl, g, fun mp H1 s1 hmp => ?_⟩
    have g1 := g.same s1
    refine ⟨_, rfl, _, rfl, x, y, n, ws, hs, rfl, g1, fun rp H2 qs rs s2 hrp hqs R2 hlr ER => ?_⟩
    refine ⟨hV (show 0 <= 1000 by decide), fun lp hlp => ?_⟩
    have s12 := s1.trans s2
    have s3 := s12.trans (aE.new (o := .lst []) hlp)
    have hlp0 : H lp = none := s12.free hlp
    have R3 := R2.same (aE.new (o := .lst []) hlp)
    have m3 := (s2.trans (aE.new (o := .lst []) hlp)) _ _ hmp
    have e3 : upd H2 lp (.lst []) lp = some (.lst []) := aB
    have hrp0 : H rp = none := s1.free hrp
    have nrl : rp ≠ lp := fun z => by have := R2.lst; rw [z, hlp] at this; cases this
    have nql : ∀ q ∈ qs, q ≠ lp := fun q hq z => by
      obtain ⟨i, hi⟩ := List.mem_iff_getElem?.mp hq
      have hil : i < rs.length := by rw [<- R2.len]; exact (List.getElem?_eq_some_iff.mp hi).1
      have := R2.row i q _ hi (List.getElem?_eq_getElem hil)
      rw [z, hlp] at this; cases this
    have nml : mp ≠ lp := fun z => by have := s2 _ _ hmp; rw [z, hlp] at this; cases this
    generalize upd H2 lp (.lst []) = H3 at s3 R3 m3 e3 ⊢
    subst ex
    refine ⟨_, rfl, a, _, 0, .int n, rfl, rfl, s3.seqT ha, rfl, n, rfl, by omega, by omega, iE (lo := 0) (n := n.toNat) (fun i σ H4 => ∃ (v5 v6 v7 : Option V) (lv : List Int), σ = [some (.ref a), some y, some (.ref mp), some (.ref rp), some (.ref lp), v5, v6, v7] /\ aE H H4 /\ Rows H4 rp qs rs /\ H4 mp = some (.tup ((aO n hs).map V.int)) /\ H4 lp = some (.lst (lv.map V.int)) /\ lv.length = i /\
        ∀ (h : Nat) (v : Int), lv[h]? = some v -> kE ws hs n.toNat h v /\ ((hs.count (h : Int) : Nat) : Int) - v < 2)
      ⟨none, none, none, [], rfl, s3, R3, m3, e3, rfl, fun h v e => by simp at e⟩ ?_ ?_⟩
    · rintro i σ H4 hi ⟨v5, v6, v7, lv, rfl, s4, R4, m4, e4, hlv, L4⟩
      have hi0 : (0 : Int) <= 0 + (i : Int) := by omega
      have hi1 : 0 + (i : Int) < n := by omega
      refine ⟨_, rfl, _, rfl, rp, 0 + (i : Int), qs, rs, n, ws, hs, rfl, R4, hlr, ER, hedge, hn6, hi0, hi1, fun fdp H5 fs os s5 hfd e5 T5 C5 => ?_⟩
      have s45 := s4.trans s5
      have R5 := R4.same s5
      have m5 := s5 _ _ m4
      have l5 := s5 _ _ e4
      have T5l := T5.len
      have hpos : 0 < os.length := (List.getElem?_eq_some_iff.mp T5.head).1
      refine ⟨_, rfl, os, fun o => ((hs.count o : Nat) : Int), .ref mp, ⟨fdp, rfl, .inr (.inr ⟨fs, e5, T5.keys⟩)⟩, hpos, s45 _ _ hT, rfl, fun o ho => ?_, fun j m H6 s6 hj hmin _ => ?_⟩
      · obtain ⟨o0, o1⟩ := T5.rng o ho
        refine ⟨o0, by omega, mp, _, rfl, .inl (SqT.of m5), ?_⟩
        rw [List.getElem?_map, oS (by omega), show ((o.toNat : Nat) : Int) = o by omega]
        rfl
      have hjl : j < os.length := (List.getElem?_eq_some_iff.mp hj).1
      obtain ⟨m0, m1⟩ := T5.rng m (List.mem_of_getElem? hj)
      have s46 := s45.trans s6
      have R6 := R5.same s6
      have m6 := s6 _ _ m5
      have l6 := s6 _ _ l5
      have e6 := s6 _ _ e5
      have T6 := T5.tp (Tp.of s6)
      have hRL : RL ws hs n.toNat (0 + (i : Int)) m := (T6.rl j m hj).mono (by omega)
      have hmin2 : kE ws hs n.toNat (0 + (i : Int)) ((hs.count m : Nat) : Int) := by
        refine ⟨⟨m, hRL, rfl⟩, fun k x hx => ?_⟩
        exact hmin x (hx.closed (S := fun o => o ∈ os) (fun g w t hg e => C5 g hg w t e) (List.mem_of_getElem? T5.head))
      refine ⟨_, rfl, _, rfl, mp, _, _, _, rfl, rfl, SqT.of m6, oU hi0 hi1, _, rfl, _, rfl, mp, _, _, _, rfl, rfl, SqT.of m6, oU m0 m1, _, _, rfl, rfl, _, _, rfl, rfl, _, rfl, ?_⟩
      refine cN (fun c => ?_) (fun c => ?_)
      · have hge : ((hs.count (0 + (i : Int)) : Nat) : Int) - ((hs.count m : Nat) : Int) ≥ 2 := of_decide_eq_true c
        refine ⟨_, rfl, _, rfl, fdp, m, fs, os, 0 + (i : Int), n, ws, hs, j, rfl, e6, T6, hn6, hj, fun p H7 ps ss s7 hp hps S7 P7 N7 _ ne7 => ⟨sz2 _ _, fun q hq => ?_⟩⟩
        have s8 := aE.new (o := .tup [.str "way", .ref p]) hq
        refine k q _ ((s46.trans s7).trans s8) (.inr ⟨p, ps, ss, aB, s46.free hp, s8 _ _ hps, S7.tp (Tp.of s8), 0 + (i : Int), m, ne7 ?_, P7, N7, hi0, hi1, hRL, hge⟩)
        rcases Nat.eq_zero_or_pos j with z | z
        · rw [z, T5.head] at hj
          cases hj
          omega
        · exact z
      · have hlt : ¬ ((hs.count (0 + (i : Int)) : Nat) : Int) - ((hs.count m : Nat) : Int) ≥ 2 := fun z => c (decide_eq_true z)
        refine ⟨_, rfl, .inl ⟨rfl, _, SqL.of l6⟩, _, rfl, _, rfl, mp, _, _, _, rfl, rfl, SqT.of m6, oU m0 m1, lp, _, _, rfl, rfl, l6, by rw [List.length_map, sizeLine_eq]; omega, ?_⟩
        refine ⟨_, _, _, lv ++ [((hs.count m : Nat) : Int)], rfl, s46.wr hlp0, ?_, by rw [aI nml]; exact m6, by rw [aB, List.map_append]; rfl, by rw [List.length_append, hlv]; rfl, fun h v e => ?_⟩
        · refine ⟨by rw [aI nrl]; exact R6.lst, R6.len, R6.nd, fun g q r h1 h2 => ?_⟩
          rw [aI (nql q (List.mem_of_getElem? h1))]
          exact R6.row g q r h1 h2
        · by_cases hh : h < lv.length
          · rw [List.getElem?_append_left hh] at e
            exact L4 h v e
          · have eh : h = i := by
              have := (List.getElem?_eq_some_iff.mp e).1
              rw [List.length_append] at this
              simp at this
              omega
            subst eh
            rw [List.getElem?_append_right (by omega), hlv, Nat.sub_self] at e
            have ev : ((hs.count m : Nat) : Int) = v := by simpa using e
            rw [<- ev]
            rw [Int.zero_add] at hmin2 hlt
            exact ⟨hmin2, by omega⟩
    · rintro σ H4 ⟨v5, v6, v7, lv, rfl, s4, R4, m4, e4, hlv, L4⟩
      refine ⟨_, rfl, lp, _, rfl, .inl ⟨SqL.of e4, fun q hq => ⟨sz2 _ _, fun p hp => ?_⟩⟩⟩
      have s5 := (aE.new (o := .tup (lv.map V.int)) hq).trans (aE.new (o := .tup [.str "levels", .ref q]) hp)
      exact k p _ (s4.trans s5) (.inl ⟨q, lv, aB, (aE.new hp) _ _ aB, hlv, L4⟩)
end
end Ab
set_option Elab.async false
set_option linter.all false
set_option maxRecDepth 100000
namespace Ab
open PySem L2
end Ab
set_option Elab.async false
set_option linter.all false
set_option maxRecDepth 100000
namespace Ab
open PySem L2
def d2 (n : Int) (ws : List (List Int)) (hs : List Int) : PyData := .list [cK n ws, cG hs]
end Ab
set_option Elab.async false
set_option linter.all false
set_option maxRecDepth 100000
namespace Ab
open PySem L2
section
variable {ws : List (List Int)} {hs : List Int}
theorem kU : ∀ {h x : Int} {ss : List (Nat × Int × Int)}, cZ ws hs h ss x -> ss.map (·.2.1) ++ [x] = h :: ss.map (·.2.2)
  | _, _, [], e => by cases e; rfl
  | _, _, s :: r, ⟨e1, _, e3⟩ => by rw [List.map_cons, List.cons_append, kU e3, e1]; rfl
theorem iT : ∀ {h x : Int} {ss : List (Nat × Int × Int)}, cZ ws hs h ss x -> ∀ (i : Nat) s, ss[i]? = some s -> hG ws hs s.2.1 s.1 s.2.2 /\ ∀ s', 0 < i -> ss[i - 1]? = some s' -> s'.2.2 = s.2.1
  | _, _, [], _, i, s, hs => by simp at hs
  | h, _, a :: r, ⟨e1, e2, e3⟩, 0, s, hs' => by
    have : a = s := by simpa using hs'
    subst this
    exact ⟨by rw [e1]; exact e2, fun s' h0 => by omega⟩
  | h, _, a :: r, ⟨e1, e2, e3⟩, i + 1, s, hs' => by
    have hr : r[i]? = some s := by simpa using hs'
    obtain ⟨p1, p2⟩ := iT e3 i s hr
    refine ⟨p1, fun s' _ hs2 => ?_⟩
    cases i with
    | zero =>
      have e : a = s' := by simpa using hs2
      subst e
      cases r with
      | nil => simp at hr
      | cons b r' =>
        have : b = s := by simpa using hr
        subst this
        exact e3.1.symm
    | succ i => exact p2 s' (by omega) (by simpa using hs2)
theorem rA : ∀ {h x : Int} {ss : List (Nat × Int × Int)}, cZ ws hs h ss x -> ∀ s, ss[ss.length - 1]? = some s -> s.2.2 = x
  | _, _, [], _, s, e => by simp at e
  | _, _, [a], ⟨_, _, e3⟩, s, e => by
    have : a = s := by simpa using e
    subst this
    exact e3
  | _, _, a :: b :: r, ⟨_, _, e3⟩, s, e => rA e3 s (by simpa using e)
end
theorem aBs {xs : List V} {v : V} (h : xs[xs.length - 1]? = some v) : atI xs (-1) = some v := by
  have hlt : xs.length - 1 < xs.length := (List.getElem?_eq_some_iff.mp h).1
  have e : xs = xs.take (xs.length - 1) ++ [v] := by
    have h1 : xs.take (xs.length - 1 + 1) = xs.take (xs.length - 1) ++ [v] := by rw [List.take_succ, h]; rfl
    rw [<- h1, List.take_of_length_le (by omega)]
  rw [e]
  exact aAv _ _
def eU (s : Nat × Int × Int) : List Int := [(s.1 : Int), s.2.1, s.2.2]
theorem StepsAt.den {K : PySem.W.Frag} {H : Hp} : ∀ {ps : List Addr} {ss : List (Nat × Int × Int)}, StepsAt H ps ss -> aV K H ((ss.map eU).map bX) (ps.map V.ref)
  | [], [], _ => bD.mpr rfl
  | [], _ :: _, h => by have := h.len; simp at this
  | _ :: _, [], h => by have := h.len; simp at this
  | p :: ps, s :: ss, h => by
    have h0 := h.at_ 0 p s rfl rfl
    have hr : StepsAt H ps ss := ⟨by have := h.len; simpa using this, fun i p' s' a b => h.at_ (i + 1) p' s' (by simpa using a) (by simpa using b)⟩
    exact aX.mpr ⟨_, _, rfl, aZ.mpr ⟨p, rfl, SqT.of h0⟩, StepsAt.den hr⟩
end Ab
namespace L2
open PySem
end L2
namespace Ab
open PySem L2
section
variable {P : Program} {w : World} {K : PySem.W.Frag} {mg : Str -> Option Value} {base : Heap}
end
end Ab
set_option Elab.async false
set_option linter.all false
set_option maxRecDepth 100000
namespace Ab
open PySem L2
theorem mX {ws : List (List Int)} {hs : List Int} {k g t : Int} (h : eT ws hs [k, g, t] = true) : 0 <= k /\ k < hs.length /\ hs[k.toNat]? = some g /\ t ≠ g /\ t ∈ ws.getD k.toNat [] := by
  have h' : (decide (0 <= k) && (decide (k < hs.length) && (hs[k.toNat]? == some g && (!decide (t = g) && decide (t ∈ ws.getD k.toNat []))))) = true := h
  simp only [Bool.and_eq_true, decide_eq_true_eq, beq_iff_eq, Bool.not_eq_true', decide_eq_false_iff_not] at h'
  exact ⟨h'.1, h'.2.1, h'.2.2.1, h'.2.2.2.1, h'.2.2.2.2⟩
def kF (hs : List Int) (L : List (List Int)) : List Int := L.foldl (fun h st => h.set (st.getD 0 0).toNat (mK st)) hs
theorem aAb (L : List (List Int)) : ∀ hs : List Int, (kF hs L).length = hs.length := by
  induction L with
  | nil => intro hs; rfl
  | cons s r ih => intro hs; show (kF (hs.set _ _) r).length = _; rw [ih, List.length_set]
theorem xB (hs : List Int) (L : List (List Int)) (st : List Int) : kF hs (L ++ [st]) = (kF hs L).set (st.getD 0 0).toNat (mK st) := by unfold kF; rw [List.foldl_append]; rfl
section
variable {P : Program} {w : World} {K : PySem.W.Frag} {mg : Str -> Option Value} {base : Heap}
variable {fW fH fK fB fNB fD fND fL : Addr} {dW dH dK dB dNB dD dND dL : FuncData}
def WIn (K : PySem.W.Frag) (H : Hp) (x y : V) (p : Addr) (xs : List V) (n : Int) (ws : List (List Int)) (hs : List Int) (L : List (List Int)) : Prop := cL K H x y n ws hs /\ SqL K H p xs /\ aV K H (L.map bX) xs /\ L.length <= 30 /\ ∀ l ∈ L, l.length <= 1000
theorem WIn.same {H H' : Hp} {x y : V} {p : Addr} {xs : List V} {n : Int} {ws : List (List Int)} {hs : List Int} {L : List (List Int)} (h : WIn K H x y p xs n ws hs L) (s : aE H H') : WIn K H' x y p xs n ws hs L := ⟨h.1.same s, s.seqL h.2.1, s.denAll _ _ h.2.2.1, h.2.2.2⟩
theorem WIn.nth {H : Hp} {x y : V} {p : Addr} {xs : List V} {n : Int} {ws : List (List Int)} {hs : List Int} {L : List (List Int)} (h : WIn K H x y p xs n ws hs L) (hw : mL ws hs L = true) {i : Nat} {u : V} (hu : xs[i]? = some u) :
    ∃ (c : Addr) (kk gg tt : Int), u = .ref c /\ L[i]? = some [kk, gg, tt] /\ SqT K H c [.int kk, .int gg, .int tt] /\ eT ws hs [kk, gg, tt] = true := by
  have hx := aR h.2.2.1
  rw [List.length_map] at hx
  have hlt : i < L.length := by have := (List.getElem?_eq_some_iff.mp hu).1; omega
  have el : L[i]? = some L[i] := List.getElem?_eq_getElem hlt
  obtain ⟨c1, e1, e2⟩ := iS h.2.2.1 el
  rw [hu] at e1
  have hall : L.all (eT ws hs) = true := by unfold mL at hw; simp only [Bool.and_eq_true] at hw; exact hw.2.1
  have hst := List.all_eq_true.mp hall _ (List.getElem_mem hlt)
  obtain ⟨kk, gg, tt, e3⟩ := qW hst
  rw [e3] at e2 el hst
  exact ⟨c1, kk, gg, tt, Option.some.inj e1, el, e2, hst⟩
def nJ (K : PySem.W.Frag) : Sp := fun vs H Q _ => ∃ x y p xs n ws hs L, vs = [x, y, .ref p] /\ WIn K H x y p xs n ws hs L /\ mL ws hs L = true /\ ∀ H', aE H H' -> Q .non H'
theorem aCm : FnScope ["book", "deal", "some"] ["book", "deal", "some"] (aH mH) := ⟨rfl, rfl, rfl, by decide +kernel, rfl, by decide +kernel, by decide +kernel⟩
theorem vD {f fWy fS : Addr} {fd dWy dS : FuncData} (G : Fn K mg "need_way" mH ["book", "deal", "some"] f fd) (B : Bl mg) (R : Pr K mg fW fH fK fB fNB fD fND fL dW dH dK dB dNB dD dND dL) (GW : Fn K mg "is_way" uS ["book", "deal", "some"] fWy dWy) (GS : Fn K mg "is_step" oJ ["book", "deal", "step"] fS dS) : FnOk P w K mg base CX0 8 f fd ["book", "deal", "some"] (nJ K) := by
  have OWy : FnOk P w K mg base CX0 7 fWy dWy ["book", "deal", "some"] (aBo K) := aBq GW B R GS
  refine G.fn.ok aCm (fun vs H Q E h => ?_) (fun cdv A outer s H vs Q E hr h => ?_)
  · obtain ⟨x, y, p, xs, n, ws, hs, L, rfl, _⟩ := h
    rfl
  · obtain ⟨x, y, p, xs, n, ws, hs, L, rfl, hi, hw, k⟩ := h
    refine ⟨_, aF (bR (dM (eG (aQ GW OWy hr rfl (aA (pv 0) (aA (pv 1) (aA (pv 2) aC)))))) lZ aW), ?_⟩
    refine ⟨_, rfl, _, rfl, _, rfl, x, y, p, xs, n, ws, hs, L, rfl, hi.1, hi.2.1, hi.2.2.1, hi.2.2.2.1, hi.2.2.2.2, fun H' s1 => ⟨_, rfl, ?_⟩⟩
    rw [hw]
    refine eD ?_
    exact k H' s1
def xC (K : PySem.W.Frag) : Sp := fun vs H Q _ => ∃ x y p xs n ws hs L, vs = [x, y, .ref p] /\ WIn K H x y p xs n ws hs L /\ mL ws hs L = true /\ ∀ q H', aE H H' -> H q = none -> H' q = some (.tup ((kF hs L).map V.int)) -> Q (.ref q) H'
theorem oW : FnScope ["book", "deal", "some", "behind", "work", "giver", "taker"] ["book", "deal", "some"] (aH uT) := ⟨rfl, rfl, rfl, by decide +kernel, rfl, by decide +kernel, by decide +kernel⟩
theorem yQ {f fN : Addr} {fd dN : FuncData} (G : Fn K mg "gone" uT ["book", "deal", "some"] f fd) (B : Bl mg) (GNW : Fn K mg "need_way" mH ["book", "deal", "some"] fN dN) (ONW : FnOk P w K mg base CX0 8 fN dN ["book", "deal", "some"] (nJ K)) : FnOk P w K mg base CX0 9 f fd ["book", "deal", "some"] (xC K) := by
  refine G.fn.ok oW (fun vs H Q E h => ?_) (fun cdv A outer s H vs Q E hr h => ?_)
  · obtain ⟨x, y, p, xs, n, ws, hs, L, rfl, _⟩ := h
    rfl
  · obtain ⟨x, y, p, xs, n, ws, hs, L, rfl, hi, hw, k⟩ := h
    have r8 : Room 8 _ := hr
    refine ⟨_, (aD (eA (aQ GNW ONW r8 rfl (aA (pv 0) (aA (pv 1) (aA (pv 2) aC)))))
    (aD (aU (i := 3) oW.nd rfl (Or.inl rfl) (bT rY rfl B.list aBb (aA (pv 1) aC)))
    (aD (eW PassesOwn.never rfl (lA (pv 2)) (fU rfl (aT (aK (i := 4) oW.nd rfl (Or.inl rfl)) (aT (aK (i := 5) oW.nd rfl (Or.inl rfl)) (aT (aK (i := 6) oW.nd rfl (Or.inl rfl)) cT))))
      (aF (gR (pv 6) (rT (pv 3) (pv 4) lD))))
    (aF (aM (bT bN rfl B.tuple cH (aA (pv 3) aC))))))), ?_⟩
    refine ⟨_, rfl, _, rfl, _, rfl, x, y, p, xs, n, ws, hs, L, rfl, hi, hw, fun H1 s1 => ?_⟩
    have hi1 := hi.same s1
    obtain ⟨c0, rfl, hc0⟩ := aZ.mp hi1.1.2.2.1
    have hxl := aR hi.2.2.1
    rw [List.length_map] at hxl
    refine ⟨_, rfl, c0, _, rfl, .inr hc0, fun bh hbh => ?_⟩
    have s2 := aE.new (o := .lst (hs.map V.int)) hbh
    have e2 : upd H1 bh (.lst (hs.map V.int)) bh = some (.lst (hs.map V.int)) := aB
    generalize upd H1 bh (.lst (hs.map V.int)) = H2 at s2 e2 ⊢
    refine ⟨_, rfl, p, rfl, ⟨_, (hi1.same s2).2.1⟩, tK (K := K) (a := p) (xs := xs) (fun i σ H3 => ∃ v4 v5 v6, σ = [some x, some (.ref c0), some (.ref p), some (.ref bh), v4, v5, v6] /\ aE H1 H3 /\ H3 bh = some (.lst ((kF hs (L.take i)).map V.int))) ⟨_, _, _, rfl, s2, e2⟩ (fun i σ H3 _ ⟨_, _, _, _, s3, _⟩ => (hi1.same s3).2.1) ?_ ?_⟩
    · rintro i u σ H3 hu ⟨v4, v5, v6, rfl, s3, e3⟩
      obtain ⟨c, kk, gg, tt, rfl, el, hc, hst⟩ := (hi1.same s3).nth hw hu
      obtain ⟨k0, k1, _⟩ := mX hst
      refine ⟨c, _, rfl, hc, rfl, _, _, rfl, _, _, rfl, _, _, rfl, rfl, ?_⟩
      refine ⟨_, rfl, _, rfl, _, rfl, bh, _, kk, kk.toNat, rfl, rfl, e3, aDg k0 (by rw [List.length_map, aAb]; exact k1), ?_⟩
      refine ⟨_, _, _, rfl, s3.wr hbh, ?_⟩
      rw [aB, List.take_succ, el]
      show some (HO.lst _) = some (HO.lst ((kF hs (L.take i ++ [[kk, gg, tt]])).map V.int))
      rw [xB, List.map_set]
      rfl
    · rintro σ H3 ⟨v4, v5, v6, rfl, s3, e3⟩
      rw [hxl, List.take_of_length_le (Nat.le_refl _)] at e3
      refine ⟨_, rfl, bh, _, rfl, .inl ⟨SqL.of e3, fun q hq => k q _ ((s1.trans s3).trans (aE.new hq)) ((s1.trans s3).free hq) aB⟩⟩
end
end Ab
set_option linter.all false
namespace Ab
section
variable {ws : List (List Int)}
def cS (hs : List Int) (ss : List (Nat × Int × Int)) : List Int := ss.foldl (fun h s => h.set s.1 s.2.2) hs
theorem jY : ∀ (ss : List (Nat × Int × Int)) (hs : List Int), (cS hs ss).length = hs.length
  | [], _ => rfl
  | s :: r, hs => by show (cS (hs.set s.1 s.2.2) r).length = _; rw [jY r, List.length_set]
theorem oX : ∀ (hs : List Int) (w : Nat) (g t c : Int), hs[w]? = some g -> (((hs.set w t).count c : Nat) : Int) = ((hs.count c : Nat) : Int) - (if c = g then 1 else 0) + (if c = t then 1 else 0)
  | [], w, g, t, c, h => by simp at h
  | a :: r, 0, g, t, c, h => by
    have e : a = g := by simpa using h
    subst e
    rw [List.set_cons_zero, List.count_cons, List.count_cons]
    by_cases h1 : c = a <;> by_cases h2 : c = t
    · subst h1; subst h2; simp
    · subst h1; have : (t == c) = false := by simpa using fun z => h2 z.symm
      simp [h2, this]
    · subst h2; have : (a == c) = false := by simpa using fun z => h1 z.symm
      simp [h1, this]
    · have e1 : (a == c) = false := by simpa using fun z => h1 z.symm
      have e2 : (t == c) = false := by simpa using fun z => h2 z.symm
      simp [h1, h2, e1, e2]
  | a :: r, w + 1, g, t, c, h => by
    have ih := oX r w g t c (by simpa using h)
    rw [List.set_cons_succ, List.count_cons, List.count_cons]
    omega
theorem vE {hs : List Int} {w : Nat} {g u : Int} (hg : hs[w]? = some g) : ∀ {h x : Int} {r : List (Nat × Int × Int)}, cZ ws hs h r x -> (∀ s ∈ r, s.2.1 ≠ g) -> cZ ws (hs.set w u) h r x
  | _, _, [], e, _ => e
  | h, _, s :: r, ⟨e1, ⟨e2, e3⟩, e4⟩, hn => by
    refine ⟨e1, ⟨?_, e3⟩, vE hg e4 fun s' hs' => hn s' (List.mem_cons_of_mem _ hs')⟩
    have hne : w ≠ s.1 := fun z => by
      subst z
      rw [hg] at e2
      exact hn s (List.mem_cons_self ..) (e1.trans (Option.some.inj e2).symm)
    rw [List.getElem?_set_ne hne]
    exact e2
theorem vF {hs : List Int} {h x : Int} {ss : List (Nat × Int × Int)} (hp : cZ ws hs h ss x) : ∀ s ∈ ss, s.2.1 ∈ h :: ss.map (·.2.2) := fun s hs' => by
  rw [<- kU hp]
  exact List.mem_append_left _ (List.mem_map.mpr ⟨s, hs', rfl⟩)
theorem kW : ∀ (ss : List (Nat × Int × Int)) {hs : List Int} {h x : Int}, cZ ws hs h ss x -> (h :: ss.map (·.2.2)).Nodup -> ∀ c : Int, (((cS hs ss).count c : Nat) : Int) = ((hs.count c : Nat) : Int) - (if c = h then 1 else 0) + (if c = x then 1 else 0)
  | [], hs, h, x, hp, _, c => by
    have e : h = x := hp
    subst e
    show ((hs.count c : Nat) : Int) = _
    omega
  | s :: r, hs, h, x, ⟨e1, e2, e3⟩, hn, c => by
    rw [List.map_cons, List.nodup_cons] at hn
    have h1 := vE (u := s.2.2) e2.1 e3 fun s' hs' z => hn.1 (by rw [<- z]; exact vF e3 s' hs')
    have ih := kW r h1 hn.2 c
    have e := oX hs s.1 h s.2.2 c e2.1
    show (((cS (hs.set s.1 s.2.2) r).count c : Nat) : Int) = _
    omega
theorem mM : ∀ (ss : List (Nat × Int × Int)) {hs : List Int}, (∀ s ∈ ss, ∃ l, ws[s.1]? = some l /\ s.2.2 ∈ l) -> (∀ (j : Nat) (h : Int) (l : List Int), hs[j]? = some h -> ws[j]? = some l -> h ∈ l) -> ∀ (j : Nat) (h : Int) (l : List Int), (cS hs ss)[j]? = some h -> ws[j]? = some l -> h ∈ l
  | [], _, _, hd => hd
  | s :: r, hs, hl, hd => mM r (fun s' h' => hl s' (List.mem_cons_of_mem _ h')) fun j h l e1 e2 => by
    obtain ⟨l', z1, z2⟩ := hl s (List.mem_cons_self ..)
    rw [List.getElem?_set] at e1
    by_cases z : s.1 = j
    · subst z
      rw [if_pos rfl] at e1
      split at e1
      · rw [z1] at e2
        rw [<- Option.some.inj e2, <- Option.some.inj e1]; exact z2
      · cases e1
    · rw [if_neg z] at e1
      exact hd j h l e1 e2
def Tri : Nat -> Nat
  | 0 => 0
  | k + 1 => Tri k + k
def Sm (g : Nat -> Nat) : Nat -> Nat
  | 0 => 0
  | n + 1 => Sm g n + g n
theorem yR {g g' : Nat -> Nat} : ∀ n : Nat, (∀ i, i < n -> g' i = g i) -> Sm g' n = Sm g n
  | 0, _ => rfl
  | n + 1, h => by show Sm g' n + g' n = Sm g n + g n; rw [yR n fun i hi => h i (by omega), h n (by omega)]
theorem xD {g g' : Nat -> Nat} {a : Nat} : ∀ n : Nat, a < n -> (∀ i, i < n -> i ≠ a -> g' i = g i) -> Sm g' n + g a = Sm g n + g' a
  | 0, h, _ => by omega
  | n + 1, h, hh => by
    show Sm g' n + g' n + g a = Sm g n + g n + g' a
    by_cases e : a = n
    · subst e
      rw [yR a fun i hi => hh i (by omega) (by omega)]
      omega
    · have ih := xD (g := g) (g' := g') n (by omega) fun i hi hn => hh i (by omega) hn
      rw [hh n (by omega) (fun z => e z.symm)]
      omega
theorem aBt : ∀ k : Nat, k <= 12 -> Tri k <= 12 * k
  | 0, _ => Nat.le_refl _
  | k + 1, h => by have := aBt k (by omega); show Tri k + k <= _; omega
theorem aCF {g : Nat -> Nat} {b : Nat} (h : ∀ i, g i <= b) : ∀ n, Sm g n <= b * n
  | 0 => Nat.zero_le _
  | n + 1 => by have := aCF h n; have := h n; show Sm g n + g n <= _; rw [Nat.mul_succ]; omega
def Phi (n : Nat) (hs : List Int) : Nat := Sm (fun i => Tri (hs.count (i : Int))) n
theorem aDj {n : Nat} {hs : List Int} (h6 : n <= 6) (h : hs.length <= 12) : Phi n hs <= 864 := by
  have := aCF (g := fun i => Tri (hs.count (i : Int))) (b := 144) (fun i => by
    have h1 : hs.count (i : Int) <= hs.length := List.count_le_length
    have h2 := aBt _ (Nat.le_trans h1 h)
    show Tri (hs.count (i : Int)) <= 144
    omega) n
  unfold Phi
  omega
theorem aBu {n : Int} {hs : List Int} {ss : List (Nat × Int × Int)} (W : jN n ws hs ss) (ht : ∀ g w t, hG ws hs g w t -> 0 <= t /\ t < n) : Phi n.toNat (cS hs ss) < Phi n.toNat hs := by
  obtain ⟨h, x, hne, hP, hN, hh0, hh1, hRL, hge⟩ := W
  obtain ⟨s, hs'⟩ : ∃ s, ss[ss.length - 1]? = some s := ⟨_, List.getElem?_eq_getElem (by have := List.length_pos_iff.mpr hne; omega)⟩
  have ex := rA hP s hs'
  have hx := ht _ _ _ (iT hP _ s hs').1
  rw [ex] at hx
  have hc := kW ss hP hN
  have hhx : h ≠ x := fun z => by rw [z] at hge; omega
  have e1 := xD (g := fun i => Tri (hs.count (i : Int))) (g' := fun i => if i = h.toNat then Tri (hs.count h - 1) else Tri (hs.count (i : Int))) (a := h.toNat) n.toNat (by omega) (fun i _ z => if_neg z)
  have e2 := xD (g := fun i => if i = h.toNat then Tri (hs.count h - 1) else Tri (hs.count (i : Int))) (g' := fun i => Tri ((cS hs ss).count (i : Int))) (a := x.toNat) n.toNat (by omega) (fun i hi z => by
    have hci := hc (i : Int)
    by_cases zh : i = h.toNat
    · have zi : (i : Int) = h := by omega
      rw [if_pos zh]
      rw [zi, if_pos rfl, if_neg hhx] at hci
      rw [zi]
      show Tri ((cS hs ss).count h) = _
      congr 1
      omega
    · rw [if_neg zh]
      rw [if_neg (show ¬ (i : Int) = h by omega), if_neg (show ¬ (i : Int) = x by omega)] at hci
      show Tri ((cS hs ss).count (i : Int)) = _
      congr 1
      omega)
  have ch : ((h.toNat : Nat) : Int) = h := by omega
  have cx : ((x.toNat : Nat) : Int) = x := by omega
  simp only [if_pos, ch, cx, if_neg (show ¬ x.toNat = h.toNat by omega)] at e1 e2
  have hcx := hc x
  rw [if_neg (fun z => hhx z.symm), if_pos rfl] at hcx
  have hcx' : (cS hs ss).count x = hs.count x + 1 := by omega
  rw [hcx'] at e2
  have t1 : Tri (hs.count x + 1) = Tri (hs.count x) + hs.count x := rfl
  have t2 : Tri (hs.count h) = Tri (hs.count h - 1) + (hs.count h - 1) := by
    have : hs.count h = (hs.count h - 1) + 1 := by omega
    conv => lhs; rw [this]
    rfl
  unfold Phi
  omega
def kG (n : Int) (ws : List (List Int)) : List Int -> List (List (Nat × Int × Int)) -> List Int -> Prop
  | hs, [], he => hs = he
  | hs, ss :: r, he => jN n ws hs ss /\ kG n ws (cS hs ss) r he
theorem kG.snoc {n : Int} : ∀ {hs : List Int} {W : List (List (Nat × Int × Int))} {hc : List Int} {ss : List (Nat × Int × Int)}, kG n ws hs W hc -> jN n ws hc ss -> kG n ws hs (W ++ [ss]) (cS hc ss)
  | _, [], _, _, e, w => by cases e; exact ⟨w, rfl⟩
  | _, _ :: _, _, _, ⟨a, b⟩, w => ⟨a, kG.snoc b w⟩
end
end Ab
set_option Elab.async false
set_option linter.all false
set_option maxRecDepth 100000
namespace Ab
open PySem L2
theorem sZ : ∀ (ss : List (Nat × Int × Int)) (hs : List Int), kF hs (ss.map eU) = cS hs ss
  | [], _ => rfl
  | s :: r, hs => by
    have e : ((eU s).getD 0 0).toNat = s.1 := Int.toNat_natCast _
    show kF (hs.set ((eU s).getD 0 0).toNat (mK (eU s))) (r.map eU) = cS (hs.set s.1 s.2.2) r
    rw [e, sZ r]
    rfl
theorem yS {ws : List (List Int)} {hs : List Int} {h x : Int} {ss : List (Nat × Int × Int)} (hne : ss ≠ []) (hP : cZ ws hs h ss x) (hN : (h :: ss.map (·.2.2)).Nodup) : mL ws hs (ss.map eU) = true := by
  have hp : bL (ss.map eU) = h :: ss.map (·.2.2) := by
    cases ss with
    | nil => exact absurd rfl hne
    | cons s r =>
      show iD (eU s) :: ((s :: r).map eU).map mK = _
      rw [List.map_map, show iD (eU s) = h from hP.1]
      rfl
  unfold mL nH
  rw [hp, decide_eq_true hN, Bool.and_true, Bool.and_eq_true, Bool.and_eq_true]
  refine ⟨?_, ?_, ?_⟩
  · cases ss with
    | nil => exact absurd rfl hne
    | cons _ _ => rfl
  · rw [List.all_eq_true]
    intro st hst
    obtain ⟨s, hs', rfl⟩ := List.mem_map.mp hst
    obtain ⟨i, hi⟩ := List.mem_iff_getElem?.mp hs'
    obtain ⟨⟨e1, l, e2, e3, e4⟩, _⟩ := iT hP i s hi
    have hlt := (List.getElem?_eq_some_iff.mp e1).1
    show (decide (0 <= (s.1 : Int)) && (decide ((s.1 : Int) < hs.length) && (hs[(s.1 : Int).toNat]? == some s.2.1 && (!decide (s.2.2 = s.2.1) && decide (s.2.2 ∈ ws.getD (s.1 : Int).toNat []))))) = true
    rw [Int.toNat_natCast, e1, List.getD_eq_getElem?_getD, e2, decide_eq_true (show (0 : Int) <= s.1 by omega), decide_eq_true (show (s.1 : Int) < hs.length by omega), decide_eq_false e4, decide_eq_true (show s.2.2 ∈ (some l).getD [] from e3)]
    simp
  · rw [<- kU hP, List.all_eq_true]
    intro p hp'
    obtain ⟨i, hi⟩ := List.mem_iff_getElem?.mp hp'
    rw [List.getElem?_zip_eq_some] at hi
    obtain ⟨h1, h2⟩ := hi
    rw [List.getElem?_map] at h1
    cases q : ss[i]? with
    | none => rw [q] at h1; cases h1
    | some s =>
      rw [q] at h1
      have hlt := (List.getElem?_eq_some_iff.mp q).1
      rw [List.getElem?_append_left (by rw [List.length_map]; exact hlt), List.getElem?_map, q] at h2
      rw [<- Option.some.inj h1, <- Option.some.inj h2]
      exact beq_self_eq_true _
structure WaysAt (H : Hp) (qs : List Addr) (Ws : List (List (Nat × Int × Int))) : Prop where
  len : qs.length = Ws.length
  at_ : ∀ (i : Nat) q ss, qs[i]? = some q -> Ws[i]? = some ss -> ∃ ps : List Addr, H q = some (.lst (ps.map V.ref)) /\ StepsAt H ps ss
theorem WaysAt.same {H H' : Hp} {qs : List Addr} {Ws : List (List (Nat × Int × Int))} (h : WaysAt H qs Ws) (s : aE H H') : WaysAt H' qs Ws := ⟨h.len, fun i q ss a b => let ⟨ps, h1, h2⟩ := h.at_ i q ss a b; ⟨ps, s _ _ h1, h2.tp (Tp.of s)⟩⟩
theorem Tp.but {H H' : Hp} {t : Addr} {zs : List V} (b : But t H H') (ht : H t = some (.lst zs)) : Tp H H' := fun p xs h => b p _ (fun z => by rw [z, ht] at h; cases h) h
theorem WaysAt.but {H H' : Hp} {qs : List Addr} {Ws : List (List (Nat × Int × Int))} {t : Addr} {zs : List V} (h : WaysAt H qs Ws) (b : But t H H') (ht : H t = some (.lst zs)) (hn : ∀ q ∈ qs, q ≠ t) : WaysAt H' qs Ws := ⟨h.len, fun i q ss a e => let ⟨ps, h1, h2⟩ := h.at_ i q ss a e; ⟨ps, b _ _ (hn q (List.mem_of_getElem? a)) h1, h2.tp (Tp.but b ht)⟩⟩
theorem WaysAt.snoc {H : Hp} {qs : List Addr} {Ws : List (List (Nat × Int × Int))} {q : Addr} {ps : List Addr} {ss : List (Nat × Int × Int)} (h : WaysAt H qs Ws) (h1 : H q = some (.lst (ps.map V.ref))) (h2 : StepsAt H ps ss) : WaysAt H (qs ++ [q]) (Ws ++ [ss]) := by
  refine ⟨by rw [List.length_append, List.length_append, h.len]; rfl, fun i q' ss' a b => ?_⟩
  by_cases hi : i < qs.length
  · rw [List.getElem?_append_left hi] at a
    rw [List.getElem?_append_left (by rw [<- h.len]; exact hi)] at b
    exact h.at_ i q' ss' a b
  · rw [List.getElem?_append_right (by omega)] at a
    rw [List.getElem?_append_right (by rw [<- h.len]; omega)] at b
    have hlt := (List.getElem?_eq_some_iff.mp a).1
    have e0 : i - qs.length = 0 := by simp at hlt; omega
    rw [e0] at a
    rw [<- h.len, e0] at b
    have ea : q = q' := by simpa using a
    have eb : ss = ss' := by simpa using b
    subst ea; subst eb
    exact ⟨ps, h1, h2⟩
def aDk (n : Int) (ws : List (List Int)) (hs : List Int) (H' : Hp) (p : Addr) : Prop :=
  ∃ wl dl qs Ws he lv, H' p = some (.tup [.ref wl, .ref dl]) /\ H' wl = some (.lst (qs.map V.ref)) /\ WaysAt H' qs Ws /\ Ws.length <= 864 /\ H' dl = some (.tup (he.map V.int)) /\ kG n ws hs Ws he /\ dZ n ws he lv
section
variable {P : Program} {w : World} {K : PySem.W.Frag} {mg : Str -> Option Value} {base : Heap}
def iU (K : PySem.W.Frag) (Pt : Addr) : Sp := fun vs H Q _ => ∃ x y n ws hs, vs = [x, y] /\ cL K H x y n ws hs /\ H Pt = some (.tab sY) /\ ∀ p H', aE H H' -> aDk n ws hs H' p -> Q (.ref p) H'
theorem cL.but {H H' : Hp} {x y : V} {n : Int} {ws : List (List Int)} {hs : List Int} {t : Addr} {zs : List V} (g : cL K H x y n ws hs) (b : But t H H') (ht : H t = some (.lst zs)) : cL K H' x y n ws hs := ⟨b.den ht _ _ (uY n ws) g.1, g.2.1, b.den ht _ _ (uX hs) g.2.2.1, g.2.2.2⟩
theorem cL.edge {H : Hp} {x y : V} {n : Int} {ws : List (List Int)} {hs : List Int} (g : cL K H x y n ws hs) : ∀ a w t, hG ws hs a w t -> 0 <= t /\ t < n := fun a w t e => by
  obtain ⟨_, _, hw12, hws⟩ := bS g.2.1
  obtain ⟨_, l, h1, h2, _⟩ := e
  exact (bJ (hws l (List.mem_of_getElem? h1))).2.1 t h2
theorem cL.short {H : Hp} {x y : V} {n : Int} {ws : List (List Int)} {hs : List Int} {ss : List (Nat × Int × Int)} (g : cL K H x y n ws hs) (W : jN n ws hs ss) : ss.length <= 12 := by
  obtain ⟨hl12, hn1, hn6⟩ := g.len
  obtain ⟨h, xx, hne, hP, hN, hh0, hh1, hRL, hge⟩ := W
  have := jW n.toNat (h :: ss.map (·.2.2)) hN fun z hz => by
    rcases List.mem_cons.mp hz with rfl | hz
    · omega
    · obtain ⟨s', hs', rfl⟩ := List.mem_map.mp hz
      obtain ⟨i, hi⟩ := List.mem_iff_getElem?.mp hs'
      have := g.edge _ _ _ (iT hP i s' hi).1
      omega
  rw [List.length_cons, List.length_map] at this
  omega
theorem cL.gone {H : Hp} {x y : V} {n : Int} {ws : List (List Int)} {hs : List Int} {ss : List (Nat × Int × Int)} (g : cL K H x y n ws hs) (W : jN n ws hs ss) {d : Addr} (hd : SqT K H d ((cS hs ss).map V.int)) : cL K H x (.ref d) n ws (cS hs ss) := by
  obtain ⟨hdl, hdg⟩ := bV g.2.2.2
  obtain ⟨h, xx, hne, hP, _⟩ := W
  refine ⟨g.1, g.2.1, aZ.mpr ⟨d, rfl, hd⟩, lP (by rw [jY]; exact hdl) (mM ss (fun s hs' => ?_) hdg)⟩
  obtain ⟨i, hi⟩ := List.mem_iff_getElem?.mp hs'
  obtain ⟨⟨_, l, e2, e3, _⟩, _⟩ := iT hP i s hi
  exact ⟨l, e2, e3⟩
theorem eO : FnScope ["book", "deal", "ways", "word", "shown"] ["book", "deal"] (aH gO) := ⟨rfl, rfl, rfl, by decide +kernel, rfl, by decide +kernel, by decide +kernel⟩
theorem vG {f fLw fG Pt : Addr} {fd dLw dG : FuncData} (G : Fn K mg "bettered" gO ["book", "deal"] f fd) (B : Bl mg)
    (GLw : Fn K mg "levels_or_way" wQ ["book", "deal"] fLw dLw) (OLw : FnOk P w K mg base CX0 8 fLw dLw ["book", "deal"] (qZ K Pt))
    (GG : Fn K mg "gone" uT ["book", "deal", "some"] fG dG) (OG : FnOk P w K mg base CX0 9 fG dG ["book", "deal", "some"] (xC K)) : FnOk P w K mg base CX0 10 f fd ["book", "deal"] (iU K Pt) := by
  refine G.fn.ok eO (fun vs H Q E h => ?_) (fun cdv A outer s H vs Q E hr h => ?_)
  · obtain ⟨x, y, n, ws, hs, rfl, _⟩ := h
    rfl
  · obtain ⟨x, y, n, ws, hs, rfl, g, hT, k⟩ := h
    have r9 : Room 9 _ := hr
    have r8 : Room 8 _ := hr.mono (by decide)
    refine ⟨_, (aD (aU (i := 2) eO.nd rfl (Or.inl rfl) (gI aC))
    (aD (gR (aQ GLw OLw r8 rfl (aA (pv 0) (aA (pv 1) aC))) (fU rfl (aT (aK (i := 3) eO.nd rfl (Or.inl rfl)) (aT (aK (i := 4) eO.nd rfl (Or.inl rfl)) cT))))
    (aD (nQ PassesOwn.never (aN hJ (pv 3) lX (aS _))
      (aD (eA (lF PySem.F.plainAttrs_list PySem.F.slot_list_append PySem.F.type_list_append iF (pv 2) (aA (pv 4) aC)))
    (aD (aU (i := 1) eO.nd rfl (Or.inl rfl) (aQ GG OG r9 rfl (aA (pv 0) (aA (pv 1) (aA (pv 4) aC)))))
    (aF (gR (aQ GLw OLw r8 rfl (aA (pv 0) (aA (pv 1) aC))) (fU rfl (aT (aK (i := 3) eO.nd rfl (Or.inl rfl)) (aT (aK (i := 4) eO.nd rfl (Or.inl rfl)) cT))))))))
    (aF (aM (iN (aA (pv 2) (aA (bT bN rfl B.tuple cH (aA (dJ (own := ["hand"]) (fr := []) (frn := []) (bU (aH gO) ["book", "deal", "ways", "word", "shown"] rfl rfl (by decide +kernel)) rfl (gS (pv 1))
        (fun _ _ _ _ => (aK (i := 0) (show (["hand"] : List Str).Nodup by decide +kernel) rfl (Or.inl rfl))) (fun _ _ _ _ => fV)
        (fun _ _ _ _ => (pv 0))) aC)) aC)))))))), ?_⟩
    obtain ⟨hl12, hn1, hn6⟩ := g.len
    obtain ⟨c0, rfl, _⟩ := aZ.mp g.2.2.1
    refine ⟨hV (Nat.zero_le _), fun wl hwl => ?_⟩
    have s0 := aE.new (o := .lst []) hwl
    have e0 : upd H wl (.lst []) wl = some (.lst []) := aB
    generalize upd H wl (.lst []) = H0 at s0 e0 ⊢
    refine ⟨_, rfl, _, rfl, x, .ref c0, n, ws, hs, rfl, g.same s0, s0 _ _ hT, fun p1 H1 s1 TD => ?_⟩
    obtain ⟨W, hW⟩ : ∃ W : Nat -> St -> Hp -> Prop, W = fun m σ H1 => ∃ (d q : Addr) (hc : List Int) (Ws : List (List (Nat × Int × Int))) (qs : List Addr) (word : Str), σ = [some x, some (.ref d), some (.ref wl), some (.str word), some (.ref q)] /\ aE H H1 /\ cL K H1 x (.ref d) n ws hc /\ H1 wl = some (.lst (qs.map V.ref)) /\ WaysAt H1 qs Ws /\ (∀ z ∈ qs, z ≠ wl) /\ kG n ws hs Ws hc /\ Ws.length + Phi n.toNat hc <= 864 /\ m = Phi n.toNat hc /\
        ((word = "levels" /\ ∃ lv, dZ n ws hc lv) ∨ (word = "way" /\ q ≠ wl /\ ∃ ps ss, H1 q = some (.lst (ps.map V.ref)) /\ StepsAt H1 ps ss /\ jN n ws hc ss)) := ⟨_, rfl⟩
    -- what is told is taken up
    have take : ∀ (d p1 : Addr) (hc : List Int) (Ws : List (List (Nat × Int × Int))) (qs : List Addr) (Ha Hb : Hp), aE H Ha -> aE Ha Hb -> cL K Ha x (.ref d) n ws hc -> Ha wl = some (.lst (qs.map V.ref)) -> WaysAt Ha qs Ws -> (∀ z ∈ qs, z ≠ wl) -> kG n ws hs Ws hc -> Ws.length + Phi n.toNat hc <= 864 -> aDZ n ws hc Ha Hb p1 ->
        ∃ word q, Hb p1 = some (.tup [.str word, .ref q]) /\ W (Phi n.toNat hc) [some x, some (.ref d), some (.ref wl), some (.str word), some (.ref q)] Hb := by
      intro d p1 hc Ws qs Ha Hb sa sb ga ea wa na ca la TD
      subst hW
      rcases TD with ⟨q, lv, h1, _, h2⟩ | ⟨q, ps, ss, h1, h2, h3, h4, h5⟩
      · exact ⟨_, q, h1, d, q, hc, Ws, qs, _, rfl, sa.trans sb, ga.same sb, sb _ _ ea, wa.same sb, na, ca, la, rfl, .inl ⟨rfl, lv, h2⟩⟩
      · exact ⟨_, q, h1, d, q, hc, Ws, qs, _, rfl, sa.trans sb, ga.same sb, sb _ _ ea, wa.same sb, na, ca, la, rfl, .inr ⟨rfl, (fun z => by rw [z, ea] at h2; cases h2), ps, ss, h3, h4, h5⟩⟩
    obtain ⟨word, q, h1, w1⟩ := take c0 p1 hs [] [] H0 H1 s0 s1 (g.same s0) e0 ⟨rfl, fun i q ss a => by simp at a⟩ (fun _ h => (List.not_mem_nil h).elim) rfl (by have := aDj (n := n.toNat) (hs := hs) (by omega) hl12; simpa using this) TD
    refine ⟨p1, _, rfl, SqT.of h1, rfl, _, _, rfl, _, _, rfl, rfl, ?_⟩
    refine ⟨W, ⟨_, w1⟩, ?_⟩
    intro m σ H2 w2
    have w2' := w2
    rw [hW] at w2'
    obtain ⟨d, q, hc, Ws, qs, word, rfl, s2, g2, e2, wa2, na2, ch2, le2, hm, alt⟩ := w2'
    refine ⟨_, rfl, rfl, _, rfl, ?_⟩
    rcases alt with ⟨rfl, lv, hlv⟩ | ⟨rfl, nq, ps, ss, hq, hS, hWy⟩
    · rw [decide_eq_false (show ¬ V.str "levels" = V.str "way" by intro z; injection z with z; revert z; decide)]
      refine eD ?_
      obtain ⟨c1, ec, hc1⟩ := aZ.mp g2.2.2.1
      obtain rfl : d = c1 := by injection ec
      obtain ⟨hlc, _, _⟩ := g2.len
      refine ⟨_, rfl, _, rfl, d, rfl, ⟨_, hc1⟩, aAQ (K := K) (a := d) (xs := hc.map V.int) (vs := hc.map V.int) (fun σ => ∃ v, σ = [v]) (by rw [List.length_map]; omega) rfl hc1 ⟨none, rfl⟩ ?_ ?_⟩
      · rintro j xv v σ H3 hx hv ⟨v', rfl⟩ s3 Q' hQ'
        rw [hx] at hv
        obtain rfl := Option.some.inj hv
        exact ⟨_, rfl, hQ' _ _ ⟨_, rfl⟩ (aE.refl _)⟩
      · rintro H3 s3 z hz
        have s4 := aE.new (o := .lst (hc.map V.int)) hz
        refine ⟨z, _, rfl, .inl ⟨SqL.of aB, fun dl hdl => ?_⟩⟩
        have s5 := aE.new (o := .tup (hc.map V.int)) hdl
        refine ⟨sz2 _ _, fun p hp => ?_⟩
        have s6 := aE.new (o := .tup [.ref wl, .ref dl]) hp
        have s36 := ((s3.trans s4).trans s5).trans s6
        exact k p _ (s2.trans s36) ⟨wl, dl, qs, Ws, hc, lv, aB, s36 _ _ e2, wa2.same s36, by omega, s6 _ _ aB, ch2, hlv⟩
    · rw [decide_eq_true rfl]
      refine iA ?_
      refine ⟨fun σ' H' => ∃ m', m' < m /\ W m' σ' H', fun _ _ z => z, ?_⟩
      have hql : (qs.map V.ref).length < sizeLine := by rw [List.length_map, wa2.len]; exact Nat.lt_of_le_of_lt (show Ws.length <= 864 by omega) (by rw [sizeLine_eq]; decide)
      refine ⟨_, rfl, .inl ⟨rfl, _, SqL.of e2⟩, _, rfl, wl, _, _, rfl, rfl, e2, hql, ?_⟩
      have b3 : But wl H2 (upd H2 wl (.lst (qs.map V.ref ++ [.ref q]))) := But.at
      have e3 : upd H2 wl (.lst (qs.map V.ref ++ [.ref q])) wl = some (.lst ((qs ++ [q]).map V.ref)) := by rw [aB, List.map_append]; rfl
      have s3 : aE H (upd H2 wl (.lst (qs.map V.ref ++ [.ref q]))) := s2.wr hwl
      have g3 := g2.but b3 e2
      have hq3 := b3 _ _ nq hq
      have hS3 := hS.tp (Tp.but b3 e2)
      have wa3 := (wa2.but b3 e2 na2).snoc hq3 hS3
      generalize upd H2 wl (.lst (qs.map V.ref ++ [.ref q])) = H3 at b3 e3 s3 g3 hq3 hS3 wa3 ⊢
      obtain ⟨h, xx, hne, hP, hN, hrest⟩ := id hWy
      have hsl := g2.short hWy
      refine ⟨_, rfl, _, rfl, _, rfl, x, .ref d, q, ps.map V.ref, n, ws, hc, ss.map eU, rfl, ⟨g3, SqL.of hq3, hS3.den, by rw [List.length_map]; omega, fun l hl => ?_⟩, yS hne hP hN, fun d' H4 s4 hd' e4 => ?_⟩
      · obtain ⟨s', _, rfl⟩ := List.mem_map.mp hl
        exact (show 3 <= 1000 by decide)
      rw [sZ] at e4
      have g4 := (g3.same s4).gone hWy (SqT.of e4)
      have hless := aBu hWy g2.edge
      refine ⟨_, rfl, _, rfl, x, .ref d', n, ws, cS hc ss, rfl, g4, s4 _ _ (s3 _ _ hT), fun p5 H5 s5 TD5 => ?_⟩
      obtain ⟨word, q', h5, w5⟩ := take d' p5 (cS hc ss) (Ws ++ [ss]) (qs ++ [q]) H4 H5 (s3.trans s4) s5 g4 (s4 _ _ e3) (wa3.same s4) (fun z hz => by
        rcases List.mem_append.mp hz with hz | hz
        · exact na2 z hz
        · rw [List.mem_singleton.mp hz]; exact nq) (ch2.snoc hWy) (by rw [List.length_append]; show Ws.length + 1 + _ <= 864; omega) TD5
      refine ⟨p5, _, rfl, SqT.of h5, rfl, _, _, rfl, _, _, rfl, rfl, ?_⟩
      exact ⟨_, by omega, w5⟩
end
end Ab
set_option Elab.async false
set_option linter.all false
set_option maxRecDepth 100000
namespace Ab
open PySem L2
theorem xE (l : List Int) (x : Int) : aJ (l ++ [x]) = aJ l + x := by
  unfold L2.aJ
  induction l with
  | nil => simp
  | cons a r ih => rw [List.cons_append, List.foldr_cons, List.foldr_cons, ih, Int.add_assoc]
def cM (a b : List Int) : Bool := (List.range (a.length + 1)).all fun k => decide (aJ (a.take k) <= aJ (b.take k))
theorem mY {a b : List Int} (h : ∀ k, k <= a.length -> aJ (a.take k) <= aJ (b.take k)) : cM a b = true := by
  unfold cM
  rw [List.all_eq_true]
  intro k hk
  have := List.mem_range.mp hk
  exact decide_eq_true (h k (by omega))
theorem tD {a b : List Int} {k : Nat} (hk : k <= a.length) (h : aJ (b.take k) < aJ (a.take k)) : cM a b = false := by
  cases e : cM a b with
  | false => rfl
  | true =>
    unfold cM at e
    rw [List.all_eq_true] at e
    have := of_decide_eq_true (e k (List.mem_range.mpr (by omega)))
    omega
theorem oY {l : List Int} {i : Nat} {x : Int} (h : l[i]? = some x) : aJ (l.take (i + 1)) = aJ (l.take i) + x := by
  rw [List.take_succ, h]
  exact xE _ _
theorem xF {l : List Int} {i : Nat} {v : V} (h : (l.map V.int)[i]? = some v) : ∃ x, l[i]? = some x /\ V.int x = v := by
  rw [List.getElem?_map] at h
  cases q : l[i]? with
  | none => rw [q] at h; cases h
  | some x => rw [q] at h; exact ⟨x, rfl, Option.some.inj h⟩
section
variable {X : Cx} {K : PySem.W.Frag}
theorem aCn {tg l : Expr} {tl : TE} (hK : X.K = K) (hl : PE X l tl) : PI X tg l (aDD K tl) := by subst hK; exact gS hl
end
section
variable {P : Program} {w : World} {K : PySem.W.Frag} {mg : Str -> Option Value} {base : Heap}
variable {fW fH fK fB fNB fD fND fL : Addr} {dW dH dK dB dNB dD dND dL : FuncData}
def jZ (K : PySem.W.Frag) : Sp := fun vs H Q _ => ∃ x y n ws hs, vs = [x, y] /\ cL K H x y n ws hs /\ ∀ p H' (ms : List Int), aE H H' -> H p = none -> H' p = some (.lst (ms.map V.int)) -> ms.Perm (aO n hs) -> ms.Pairwise (· ≥ ·) -> Q (.ref p) H'
theorem aAc : FnScope ["book", "deal"] ["book", "deal"] (aH gX) := ⟨rfl, rfl, rfl, by decide +kernel, rfl, by decide +kernel, by decide +kernel⟩
theorem kX {f : Addr} {fd : FuncData} (G : Fn K mg "falling" gX ["book", "deal"] f fd) (B : Bl mg) (R : Pr K mg fW fH fK fB fNB fD fND fL dW dH dK dB dNB dD dND dL) : FnOk P w K mg base CX0 8 f fd ["book", "deal"] (jZ K) := by
  have OL : FnOk P w K mg base CX0 7 fL dL ["book", "deal"] (jT K) := jL B R
  refine G.fn.ok aAc (fun vs H Q E h => ?_) (fun cdv A outer s H vs Q E hr h => ?_)
  · obtain ⟨x, y, n, ws, hs, rfl, _⟩ := h
    rfl
  · obtain ⟨x, y, n, ws, hs, rfl, g, k⟩ := h
    refine ⟨_, aF (aM (pN rfl B.sorted (aQ R.L OL hr rfl (aA (pv 0) (aA (pv 1) aC))))), ?_⟩
    obtain ⟨hl, hn1, hn6⟩ := g.len
    refine ⟨_, rfl, _, rfl, x, y, n, ws, hs, rfl, g, fun p H1 s1 hp => ?_⟩
    refine ⟨p, aO n hs, rfl, .inr (SqT.of hp), by rw [aL]; omega, fun q ms hq hpm hpw => ?_⟩
    exact k q _ ms (s1.trans (aE.new hq)) (s1.free hq) aB hpm hpw
def nK (K : PySem.W.Frag) : Sp := fun vs H Q _ => ∃ x y n ws hs, vs = [x, y] /\ cL K H x y n ws hs /\ ∀ H', aE H H' -> Q (.int (cP n hs)) H'
theorem aCo : FnScope ["book", "deal"] ["book", "deal"] (aH kQ) := ⟨rfl, rfl, rfl, by decide +kernel, rfl, by decide +kernel, by decide +kernel⟩
theorem oZ {f : Addr} {fd : FuncData} (G : Fn K mg "waits" kQ ["book", "deal"] f fd) (B : Bl mg) (R : Pr K mg fW fH fK fB fNB fD fND fL dW dH dK dB dNB dD dND dL) : FnOk P w K mg base CX0 8 f fd ["book", "deal"] (nK K) := by
  have OL : FnOk P w K mg base CX0 7 fL dL ["book", "deal"] (jT K) := jL B R
  refine G.fn.ok aCo (fun vs H Q E h => ?_) (fun cdv A outer s H vs Q E hr h => ?_)
  · obtain ⟨x, y, n, ws, hs, rfl, _⟩ := h
    rfl
  · obtain ⟨x, y, n, ws, hs, rfl, g, k⟩ := h
    refine ⟨_, aF (aM (aP (aAA rfl) rfl B.sum aDY (aA
        (dJ (own := ["load"]) (fr := []) (frn := []) (bU (aH kQ) ["book", "deal"] rfl rfl (by decide +kernel)) rfl (gS (aQ R.L OL hr rfl (aA (pv 0) (aA (pv 1) aC))))
          (fun _ _ _ _ => aK (i := 0) (show (["load"] : List Str).Nodup by decide +kernel) rfl (Or.inl rfl)) (fun _ _ _ _ => fV)
          (fun _ _ _ _ => bK aBP (bK gT (pv 0) (bK dQ (pv 0) aG)) aG)) aC))), ?_⟩
    obtain ⟨hl, hn1, hn6⟩ := g.len
    refine ⟨_, rfl, _, rfl, x, y, n, ws, hs, rfl, g, fun p H1 s1 hp => ?_⟩
    refine ⟨p, rfl, ⟨_, SqT.of hp⟩, iK (K := K) (a := p) (xs := (aO n hs).map V.int) (fun σ => ∃ v, σ = [v]) (fun i zs H2 => H2 = H1 /\ zs = (((aO n hs).take i).map fun l => l * (l + 1) / 2).map V.int) ?_ ⟨none, rfl⟩ ⟨rfl, rfl⟩ ?_ ?_ ?_ ?_⟩
    · rw [List.length_map, aL, sizeLine_eq]; omega
    · rintro i zs H2 ⟨_, rfl⟩
      rw [List.length_map, List.length_map, List.length_take]; omega
    · rintro i zs H2 ⟨rfl, _⟩
      exact SqT.of hp
    · rintro i zs σ x H2 hx ⟨v, rfl⟩ ⟨rfl, rfl⟩ hz
      rw [List.getElem?_map] at hx
      obtain ⟨l, hli, rfl⟩ : ∃ l, (aO n hs)[i]? = some l /\ V.int l = x := by
        cases q : (aO n hs)[i]? with
        | none => rw [q] at hx; cases hx
        | some l => rw [q] at hx; exact ⟨l, rfl, Option.some.inj hx⟩
      have hb := iQ (List.mem_of_getElem? hli)
      refine dX ?_
      refine ⟨_, rfl, _, rfl, _, _, rfl, rfl, _, _, rfl, rfl, .inl ⟨by omega, by omega⟩, _, _, rfl, rfl, ⟨by decide, by decide⟩, hz, ⟨_, rfl⟩, rfl, ?_⟩
      rw [List.take_succ, hli]
      simp
    · rintro zs H2 ⟨rfl, rfl⟩ q hq
      refine ⟨q, _, rfl, SqL.of aB, fun m hm => ?_, ?_, ?_⟩
      · obtain ⟨l, hl2, rfl⟩ := List.mem_map.mp hm
        have hb := iQ (List.mem_of_mem_take hl2)
        have h0 : 0 <= l * (l + 1) := Int.mul_nonneg hb.1 (by omega)
        have h1 : l * (l + 1) <= 12 * 13 := Int.mul_le_mul (by omega) (by omega) (by omega) (by omega)
        omega
      · rw [List.length_map, List.length_take, aL]; omega
      · have e : ((aO n hs).take ((aO n hs).map V.int).length) = aO n hs := by rw [List.length_map, List.take_length]
        rw [e]
        exact k _ (s1.trans (aE.new hq))
def aBv (K : PySem.W.Frag) : Sp := fun vs H Q _ => ∃ x y1 y2 n ws h1 h2, vs = [x, y1, y2] /\ cL K H x y1 n ws h1 /\ cL K H x y2 n ws h2 /\
  ∀ H' ms ys, aE H H' -> ms.Perm (aO n h1) -> ms.Pairwise (· ≥ ·) -> ys.Perm (aO n h2) -> ys.Pairwise (· ≥ ·) -> Q (.bl (cM ms ys)) H'
theorem vH : FnScope ["book", "one", "other", "spare", "mine", "yours"] ["book", "one", "other"] (aH aBc) := ⟨rfl, rfl, rfl, by decide +kernel, rfl, by decide +kernel, by decide +kernel⟩
theorem aBw {f : Addr} {fd : FuncData} (G : Fn K mg "no_less_even" aBc ["book", "one", "other"] f fd) (B : Bl mg) (R : Pr K mg fW fH fK fB fNB fD fND fL dW dH dK dB dNB dD dND dL) {fF : Addr} {dF : FuncData} (GFa : Fn K mg "falling" gX ["book", "deal"] fF dF) : FnOk P w K mg base CX0 9 f fd ["book", "one", "other"] (aBv K) := by
  have OF : FnOk P w K mg base CX0 8 fF dF ["book", "deal"] (jZ K) := kX GFa B R
  refine G.fn.ok vH (fun vs H Q E h => ?_) (fun cdv A outer s H vs Q E hr h => ?_)
  · obtain ⟨x, y1, y2, n, ws, h1, h2, rfl, _⟩ := h
    rfl
  · obtain ⟨x, y1, y2, n, ws, h1, h2, rfl, g1, g2, k⟩ := h
    refine ⟨_, aD (aU (i := 3) vH.nd rfl (Or.inl rfl) aG)
      (aD (eW PassesOwn.never rfl (oB .l .l rfl B.zip (aA (aQ GFa OF hr rfl (aA (pv 0) (aA (pv 1) aC))) (aA (aQ GFa OF hr rfl (aA (pv 0) (aA (pv 2) aC))) aC))) (fU rfl (aT (aK (i := 4) vH.nd rfl (Or.inl rfl)) (aT (aK (i := 5) vH.nd rfl (Or.inl rfl)) cT)))
        (aD (aCQ (i := 3) vH.nd rfl (Or.inl rfl) (bK rW (pv 5) (pv 4)) aCR)
        (aF (bR (aN tL (pv 3) aG (aS _)) (aF (aM cF)) aW))))
      (aF (aM cF))), ?_⟩
    refine ⟨_, rfl, _, rfl, x, y1, n, ws, h1, rfl, g1, fun p1 H1 ms s1 _ hp1 pm1 pw1 => ⟨_, rfl, _, rfl, x, y2, n, ws, h2, rfl, g2.same s1, fun p2 H2 ys s2 _ hp2 pm2 pw2 => ?_⟩⟩
    have s12 := s1.trans s2
    have hp1' := s2 _ _ hp1
    have hl1 : ms.length = n.toNat := by rw [pm1.length_eq, aL]
    have hl2 : ys.length = n.toNat := by rw [pm2.length_eq, aL]
    have k' : ∀ H', aE H H' -> Q (.bl (cM ms ys)) H' := fun H' s' => k H' ms ys s' pm1 pw1 pm2 pw2
    refine ⟨p1, p2, ms.map V.int, ys.map V.int, rfl, SqL.of hp1', SqL.of hp2, xY (K := K) (k1 := .l) (k2 := .l) (a := p1) (b := p2) (xs := ms.map V.int) (ys := ys.map V.int) (fun i σ H3 => ∃ v4 v5, σ = [some x, some y1, some y2, some (.int (aJ (ys.take i) - aJ (ms.take i))), v4, v5] /\ aE H2 H3 /\ ∀ j, j <= i -> aJ (ms.take j) <= aJ (ys.take j))
      (by rw [List.length_map, List.length_map, hl1, hl2]) ⟨none, none, rfl, aE.refl _, fun j hj => by rw [Nat.le_zero.mp hj]; exact Int.le_refl _⟩ (fun i σ H3 _ ⟨_, _, _, s3, _⟩ => ⟨s3.seqL (SqL.of hp1'), s3.seqL (SqL.of hp2)⟩) ?_ ?_⟩
    · rintro i u v p σ H3 hu hv ⟨v4, v5, rfl, s3, hle⟩ hp
      obtain ⟨m, hm, rfl⟩ := xF hu
      obtain ⟨y, hy, rfl⟩ := xF hv
      have s4 : aE H (upd H3 p (.tup [.int m, .int y])) := (s12.trans s3).trans (aE.new hp)
      have hi : i < ms.length := (List.getElem?_eq_some_iff.mp hm).1
      refine ⟨p, _, rfl, SqT.of aB, rfl, _, _, rfl, _, _, rfl, rfl, ?_⟩
      refine ⟨_, rfl, _, rfl, _, rfl, _, _, rfl, rfl, _, _, rfl, rfl, ?_⟩
      have e1 := oY hm
      have e2 := oY hy
      have e : (aJ (ys.take i) - aJ (ms.take i)) + (y - m) = aJ (ys.take (i + 1)) - aJ (ms.take (i + 1)) := by omega
      refine ⟨_, rfl, _, _, rfl, rfl, _, rfl, ?_⟩
      refine cN (fun c => ?_) (fun c => ?_)
      · have c' : (aJ (ys.take i) - aJ (ms.take i)) + (y - m) < 0 := of_decide_eq_true c
        have e3 : false = cM ms ys := (tD (k := i + 1) (by omega) (by omega)).symm
        show Q (.bl false) _
        rw [e3]
        exact k' _ s4
      · have c' : ¬ (aJ (ys.take i) - aJ (ms.take i)) + (y - m) < 0 := fun z => c (decide_eq_true z)
        refine ⟨some (.int m), some (.int y), by rw [<- e]; rfl, s3.trans (aE.new hp), fun j hj => ?_⟩
        by_cases z : j <= i
        · exact hle j z
        · rw [show j = i + 1 by omega]
          omega
    · rintro σ H3 ⟨v4, v5, rfl, s3, hle⟩
      have e : true = cM ms ys := (mY fun j hj => hle j (by rw [List.length_map]; exact hj)).symm
      show Q (.bl true) _
      rw [e]
      exact k' _ (s12.trans s3)
end
end Ab
set_option Elab.async false
set_option linter.all false
set_option maxRecDepth 100000
namespace Ab
open PySem L2
theorem gM : ∀ (a b : List Int), aJ (a ++ b) = aJ a + aJ b
  | [], b => by rw [List.nil_append, show aJ ([] : List Int) = 0 from rfl, Int.zero_add]
  | x :: a, b => by
    show x + aJ (a ++ b) = x + aJ a + aJ b
    rw [gM a b]; omega
theorem pA {a b : List Int} (h : a.Perm b) : aJ a = aJ b := by
  induction h with
  | nil => rfl
  | cons x _ ih => exact congrArg (x + ·) ih
  | swap x y l => show y + (x + aJ l) = x + (y + aJ l); omega
  | trans _ _ h1 h2 => exact h1.trans h2
theorem pB {α : Type} {f g : α -> Int} : ∀ {l : List α}, (∀ x ∈ l, f x <= g x) -> aJ (l.map f) <= aJ (l.map g)
  | [], _ => Int.le_refl _
  | x :: l, h => by
    show f x + aJ (l.map f) <= g x + aJ (l.map g)
    have h1 := h x (List.mem_cons_self ..)
    have h2 := pB (l := l) (f := f) (g := g) fun y hy => h y (List.mem_cons_of_mem _ hy)
    omega
theorem hX {α : Type} {f g : α -> Int} {l : List α} (h : ∀ x ∈ l, f x = g x) : aJ (l.map f) = aJ (l.map g) := by
  rw [List.map_congr_left h]
theorem fZ {α : Type} (f g : α -> Int) : ∀ (l : List α), aJ (l.map fun x => f x + g x) = aJ (l.map f) + aJ (l.map g)
  | [] => rfl
  | x :: l => by
    show f x + g x + aJ (l.map fun x => f x + g x) = f x + aJ (l.map f) + (g x + aJ (l.map g))
    rw [fZ f g l]; omega
theorem gZ {α : Type} {f : α -> Int} : ∀ {l : List α}, (∀ x ∈ l, f x = 0) -> aJ (l.map f) = 0
  | [], _ => rfl
  | x :: l, h => by
    show f x + aJ (l.map f) = 0
    rw [h x (List.mem_cons_self ..), gZ fun y hy => h y (List.mem_cons_of_mem _ hy)]; rfl
def ex (t : Int) (l : List Int) : Int := aJ (l.map fun x => max (x - t) 0)
theorem rB (t : Int) : ∀ l : List Int, 0 <= ex t l
  | [] => Int.le_refl _
  | x :: l => by
    show 0 <= max (x - t) 0 + ex t l
    have := rB t l
    omega
theorem nM {t : Int} {a b : List Int} (h : a.Perm b) : ex t a = ex t b := pA (h.map _)
theorem vI (t : Int) (l : List Int) (k : Nat) : ex t l = ex t (l.take k) + ex t (l.drop k) := by
  unfold ex
  rw [<- gM, <- List.map_append, List.take_append_drop]
theorem aBx (t : Int) : ∀ l : List Int, aJ l <= l.length * t + ex t l
  | [] => by show (0 : Int) <= _; rw [List.length_nil]; show (0 : Int) <= 0 * t + 0; omega
  | x :: l => by
    have h := aBx t l
    show x + aJ l <= ((l.length + 1 : Nat) : Int) * t + (max (x - t) 0 + ex t l)
    have e : ((l.length + 1 : Nat) : Int) * t = (l.length : Int) * t + t := by rw [Int.natCast_add, Int.add_mul]; simp
    rw [e]
    generalize (l.length : Int) * t = z at h
    omega
theorem aBy {t : Int} : ∀ {l : List Int}, (∀ x ∈ l, t <= x) -> l.length * t + ex t l = aJ l
  | [], _ => by show (0 : Int) * t + 0 = 0; omega
  | x :: l, h => by
    have h1 := aBy (t := t) (l := l) fun y hy => h y (List.mem_cons_of_mem _ hy)
    have h2 := h x (List.mem_cons_self ..)
    show ((l.length + 1 : Nat) : Int) * t + (max (x - t) 0 + ex t l) = x + aJ l
    have e : ((l.length + 1 : Nat) : Int) * t = (l.length : Int) * t + t := by rw [Int.natCast_add, Int.add_mul]; simp
    rw [e]
    generalize (l.length : Int) * t = z at h1
    omega
theorem aCp {t : Int} {l : List Int} (h : ∀ x ∈ l, x <= t) : ex t l = 0 := gZ fun x hx => by have := h x hx; omega
theorem xG {a b ms ys : List Int} (hl : a.length = b.length) (h : ∀ t, ex t a <= ex t b) (hm : ms.Perm a) (hy : ys.Perm b) (sy : ys.Pairwise (· ≥ ·)) (k : Nat) (hk : k <= ms.length) : aJ (ms.take k) <= aJ (ys.take k) := by
  cases k with
  | zero => rw [List.take_zero, List.take_zero]; exact Int.le_refl _
  | succ k =>
    have hyl : ys.length = ms.length := by rw [hy.length_eq, hm.length_eq, hl]
    have hlt : k < ys.length := by omega
    have hd := List.take_append_drop (k + 1) ys
    have hall : ∀ i j, i <= j -> ∀ x y, ys[i]? = some x -> ys[j]? = some y -> y <= x := fun i j hij x y ea eb => by
      rcases Nat.lt_or_ge i j with h | h
      · obtain ⟨hi, rfl⟩ := List.getElem?_eq_some_iff.mp ea
        obtain ⟨hj, rfl⟩ := List.getElem?_eq_some_iff.mp eb
        exact List.pairwise_iff_getElem.mp sy i j hi hj h
      · have := Nat.le_antisymm hij h
        subst this
        rw [ea] at eb
        rw [Option.some.inj eb]; exact Int.le_refl _
    have et : ys[k]? = some ys[k] := List.getElem?_eq_getElem hlt
    generalize ys[k] = t at et
    have h1 : ∀ x ∈ ys.take (k + 1), t <= x := fun x hx => by
      obtain ⟨i, hi⟩ := List.mem_iff_getElem?.mp hx
      have hik : i < k + 1 := by have := (List.getElem?_eq_some_iff.mp hi).1; rw [List.length_take] at this; omega
      rw [List.getElem?_take, if_pos hik] at hi
      exact hall i k (by omega) x t hi et
    have h2 : ∀ x ∈ ys.drop (k + 1), x <= t := fun x hx => by
      obtain ⟨i, hi⟩ := List.mem_iff_getElem?.mp hx
      rw [List.getElem?_drop] at hi
      exact hall k (k + 1 + i) (by omega) t x et hi
    have e1 := aBx t (ms.take (k + 1))
    have e2 := aBy h1
    have e3 := vI t ms (k + 1)
    have e4 := vI t ys (k + 1)
    have e5 := aCp h2
    have e6 := rB t (ms.drop (k + 1))
    have e7 := h t
    rw [<- nM hm, <- nM hy] at e7
    have l1 : (ms.take (k + 1)).length = (ys.take (k + 1)).length := by rw [List.length_take, List.length_take]; omega
    rw [l1] at e1
    omega
theorem eF {a b ms ys : List Int} (hl : a.length = b.length) (h : ∀ t, ex t a <= ex t b) (hm : ms.Perm a) (hy : ys.Perm b) (sy : ys.Pairwise (· ≥ ·)) : cM ms ys = true := mY fun k hk => xG hl h hm hy sy k hk
theorem aDl {x : Int} (h0 : 0 <= x) (h1 : x <= 12) : x * (x + 1) = 2 * aJ ((bF 12).map fun t => max (x - t) 0) := by
  obtain ⟨k, rfl⟩ : ∃ k : Nat, x = k := ⟨x.toNat, by omega⟩
  have hk : k < 13 := by omega
  have : ∀ k : Fin 13, ((k.val : Nat) : Int) * (((k.val : Nat) : Int) + 1) = 2 * aJ ((bF 12).map fun t => max (((k.val : Nat) : Int) - t) 0) := by decide +kernel
  exact this ⟨k, hk⟩
theorem vJ {α β : Type} (f : α -> β -> Int) : ∀ (l : List α) (m : List β), aJ (l.map fun x => aJ (m.map fun y => f x y)) = aJ (m.map fun y => aJ (l.map fun x => f x y))
  | [], m => by
    show (0 : Int) = _
    exact (gZ fun y _ => rfl).symm
  | x :: l, m => by
    show aJ (m.map fun y => f x y) + aJ (l.map fun x => aJ (m.map fun y => f x y)) = aJ (m.map fun y => f x y + aJ (l.map fun x => f x y))
    rw [vJ f l m, fZ]
def inS (p : Int -> Bool) (hs : List Int) : Int := aJ (hs.map fun h => if p h then 1 else 0)
theorem aBz {p : Int -> Bool} : ∀ {hs hs' : List Int}, hs.length = hs'.length -> (∀ (i : Nat) g t, hs[i]? = some g -> hs'[i]? = some t -> p g = true -> p t = true) -> inS p hs <= inS p hs'
  | [], [], _, _ => Int.le_refl _
  | g :: hs, t :: hs', hl, h => by
    have h1 := aBz (p := p) (hs := hs) (hs' := hs') (by simpa using hl) fun i a b ha hb => h (i + 1) a b (by simpa using ha) (by simpa using hb)
    have h2 := h 0 g t rfl rfl
    show (if p g then (1 : Int) else 0) + inS p hs <= (if p t then (1 : Int) else 0) + inS p hs'
    cases hg : p g with
    | false =>
      simp only [Bool.false_eq_true, if_false]
      split <;> omega
    | true =>
      rw [h2 hg]
      simp only [if_true]
      omega
  | [], _ :: _, hl, _ => by simp at hl
  | _ :: _, [], hl, _ => by simp at hl
theorem aCq {m : Nat} {h : Int} (p : Int -> Bool) (h0 : 0 <= h) (h1 : h < m) : aJ ((bF m).map fun i => if p i then (if h = i then 1 else 0) else 0) = if p h then 1 else 0 := by
  induction m with
  | zero => omega
  | succ m ih =>
    have e : bF (m + 1) = bF m ++ [(m : Int)] := by unfold bF; rw [List.range_succ, List.map_append]; rfl
    rw [e, List.map_append, gM]
    show _ + ((if p (m : Int) then (if h = (m : Int) then (1 : Int) else 0) else 0) + 0) = _
    by_cases hm : h = (m : Int)
    · rw [gZ (l := bF m) (f := fun i => if p i then (if h = i then 1 else 0) else 0) fun x hx => by
        unfold bF at hx
        obtain ⟨i, hi, rfl⟩ := List.mem_map.mp hx
        have hi' := List.mem_range.mp hi
        rw [if_neg (show ¬ h = ((i : Nat) : Int) by omega)]
        split <;> rfl]
      rw [if_pos hm, hm]
      omega
    · rw [ih (by omega), if_neg hm]
      have : (if p (m : Int) = true then (0 : Int) else 0) = 0 := by split <;> rfl
      rw [this]
      omega
theorem mO {n : Int} (p : Int -> Bool) : ∀ {hs : List Int}, (∀ h ∈ hs, 0 <= h /\ h < n) -> aJ ((bF n.toNat).map fun h => if p h then ((hs.count h : Nat) : Int) else 0) = inS p hs
  | [], _ => by
    show _ = (0 : Int)
    exact gZ fun x _ => by
      rw [List.count_nil]
      split <;> rfl
  | h :: hs, hh => by
    have ih := mO (n := n) p (hs := hs) fun x hx => hh x (List.mem_cons_of_mem _ hx)
    have hb := hh h (List.mem_cons_self ..)
    have e1 := aCq (m := n.toNat) p hb.1 (by omega)
    show _ = (if p h then (1 : Int) else 0) + inS p hs
    rw [<- ih, <- e1, <- fZ]
    refine hX fun i _ => ?_
    rw [List.count_cons]
    by_cases hp : p i = true
    · rw [if_pos hp, if_pos hp, if_pos hp]
      by_cases hi : h = i
      · rw [if_pos hi, if_pos (by rw [hi]; simp)]; omega
      · rw [if_neg hi, if_neg (by simpa using hi)]; omega
    · rw [if_neg hp, if_neg hp, if_neg hp]; rfl
theorem aAd {n : Int} {ws : List (List Int)} {hs hs' lv : List Int} (L : dZ n ws hs lv) (hr : ∀ h ∈ hs, 0 <= h /\ h < n) (hr' : ∀ h ∈ hs', 0 <= h /\ h < n) (hl : hs.length = hs'.length)
    (ha : ∀ (i : Nat) t, hs'[i]? = some t -> ∃ l, ws[i]? = some l /\ t ∈ l) (t : Int) : ex t (aO n hs) <= ex t (aO n hs') := by
  obtain ⟨hlv, hL⟩ := L
  have at_ : ∀ h : Int, 0 <= h -> h < n -> ∃ v, lv[h.toNat]? = some v /\ kE ws hs n.toNat h v /\ ((hs.count h : Nat) : Int) - v < 2 := fun h h0 h1 => by
    have hlt : h.toNat < lv.length := by omega
    have e := List.getElem?_eq_getElem hlt
    obtain ⟨m1, m2⟩ := hL _ _ e
    rw [show ((h.toNat : Nat) : Int) = h by omega] at m1 m2
    exact ⟨_, e, m1, m2⟩
  let p : Int -> Bool := fun h => decide (t <= lv.getD h.toNat 0)
  have pv : ∀ h v, lv[h.toNat]? = some v -> p h = decide (t <= v) := fun h v e => by
    show decide (t <= lv.getD h.toNat 0) = _
    rw [List.getD_eq_getElem?_getD, e]; rfl
  have up : ∀ x ∈ bF n.toNat, 0 <= x /\ x < n := fun x hx => by
    unfold bF at hx
    obtain ⟨i, hi, rfl⟩ := List.mem_map.mp hx
    have := List.mem_range.mp hi
    omega
  have e1 : ex t (aO n hs) = aJ ((bF n.toNat).map fun h => if p h then ((hs.count h : Nat) : Int) else 0) + aJ ((bF n.toNat).map fun h => if p h then -t else 0) := by
    unfold ex aO
    rw [List.map_map, <- fZ]
    refine hX fun h hh => ?_
    obtain ⟨h0, h1⟩ := up h hh
    obtain ⟨v, ev, mv, dv⟩ := at_ h h0 h1
    have lev := mv.le
    show max (((hs.count h : Nat) : Int) - t) 0 = _
    rw [pv h v ev]
    by_cases hp : t <= v
    · rw [decide_eq_true hp, if_pos rfl, if_pos rfl]; omega
    · rw [decide_eq_false hp, if_neg Bool.false_ne_true, if_neg Bool.false_ne_true]; omega
  have e2 : aJ ((bF n.toNat).map fun h => if p h then ((hs'.count h : Nat) : Int) else 0) + aJ ((bF n.toNat).map fun h => if p h then -t else 0) <= ex t (aO n hs') := by
    unfold ex aO
    rw [List.map_map, <- fZ]
    refine pB fun h hh => ?_
    show _ <= max (((hs'.count h : Nat) : Int) - t) 0
    split <;> omega
  have e3 : inS p hs <= inS p hs' := by
    refine aBz hl fun i g u hg hu hpg => ?_
    obtain ⟨l, el, hul⟩ := ha i u hu
    have gb := hr g (List.mem_of_getElem? hg)
    have ub := hr' u (List.mem_of_getElem? hu)
    obtain ⟨vg, evg, mg, _⟩ := at_ g gb.1 gb.2
    obtain ⟨vu, evu, mu, _⟩ := at_ u ub.1 ub.2
    rw [pv g vg evg] at hpg
    rw [pv u vu evu]
    have hle : vg <= vu := by
      by_cases hgu : u = g
      · subst hgu
        rw [evg] at evu
        rw [Option.some.inj evu]; exact Int.le_refl _
      · exact mg.edge mu (w := i) ⟨hg, l, el, hul, hgu⟩
    exact decide_eq_true (Int.le_trans (of_decide_eq_true hpg) hle)
  rw [mO p hr] at e1
  rw [mO p hr'] at e2
  omega
end Ab
set_option Elab.async false
set_option linter.all false
namespace Ab
open L2
theorem jO {n : Int} {ws : List (List Int)} {hs : List Int} (hb : cI (cK n ws) = true) (hd : cW ws (cG hs) = true) : ∀ h ∈ hs, 0 <= h /\ h < n := fun h hh => by
  obtain ⟨_, _, _, hws⟩ := bS hb
  obtain ⟨hl, hm⟩ := bV hd
  obtain ⟨i, hi⟩ := List.mem_iff_getElem?.mp hh
  have hlt : i < ws.length := by rw [<- hl]; exact (List.getElem?_eq_some_iff.mp hi).1
  have e := List.getElem?_eq_getElem hlt
  exact (bJ (hws _ (List.mem_of_getElem? e))).2.1 h (hm i h _ hi e)
theorem eP {n : Int} {ws : List (List Int)} {hs hs' lv : List Int} (hb : cI (cK n ws) = true) (hd : cW ws (cG hs) = true) (hd' : cW ws (cG hs') = true) (L : dZ n ws hs lv) (t : Int) : ex t (aO n hs) <= ex t (aO n hs') := by
  obtain ⟨hl, hm⟩ := bV hd
  obtain ⟨hl', hm'⟩ := bV hd'
  refine aAd L (jO hb hd) (jO hb hd') (by omega) (fun i u hu => ?_) t
  have hlt : i < ws.length := by rw [<- hl']; exact (List.getElem?_eq_some_iff.mp hu).1
  have e := List.getElem?_eq_getElem hlt
  exact ⟨_, e, hm' i u _ hu e⟩
theorem pC : ∀ {a b : List Int}, a.length = b.length -> (∀ k, k <= a.length -> aJ (a.take k) = aJ (b.take k)) -> a = b
  | [], [], _, _ => rfl
  | [], _ :: _, hl, _ => by simp at hl
  | _ :: _, [], hl, _ => by simp at hl
  | x :: a, y :: b, hl, h => by
    have h1 : x + 0 = y + 0 := h 1 (by simp)
    have e : x = y := by omega
    subst e
    refine congrArg _ (pC (by simpa using hl) fun k hk => ?_)
    have h2 : x + aJ (a.take k) = x + aJ (b.take k) := h (k + 1) (by simpa using hk)
    omega
theorem pD {a b : List Int} (h : cM a b = true) (k : Nat) (hk : k <= a.length) : aJ (a.take k) <= aJ (b.take k) := by
  unfold cM at h
  exact of_decide_eq_true (List.all_eq_true.mp h k (List.mem_range.mpr (by omega)))
theorem rC {a b : List Int} (hl : a.length = b.length) (h1 : cM a b = true) (h2 : cM b a = true) : a = b :=
  pC hl fun k hk => Int.le_antisymm (pD h1 k hk) (pD h2 k (by omega))
theorem pE {a b ms ys : List Int} (hl : a.length = b.length) (h1 : ∀ t, ex t a <= ex t b) (h2 : ∀ t, ex t b <= ex t a) (hm : ms.Perm a) (hy : ys.Perm b) (sm : ms.Pairwise (· ≥ ·)) (sy : ys.Pairwise (· ≥ ·)) : ms = ys :=
  rC (by rw [hm.length_eq, hy.length_eq, hl]) (eF hl h1 hm hy sy) (eF hl.symm h2 hy hm sm)
theorem rD {α β : Type} {f : α -> β} {us ys : List β} (h : us.Perm ys) : ∀ xs : List α, xs.map f = us -> ∃ zs : List α, zs.Perm xs /\ zs.map f = ys := by
  induction h with
  | nil => intro xs e; exact ⟨xs, .refl _, e⟩
  | cons u _ ih =>
    intro xs e
    cases xs with
    | nil => cases e
    | cons x xs =>
      injection e with e1 e2
      obtain ⟨zs, h1, h2⟩ := ih xs e2
      exact ⟨x :: zs, h1.cons x, by rw [List.map_cons, h2, e1]⟩
  | swap u v l =>
    intro xs e
    match xs, e with
    | x :: y :: xs, e =>
      injection e with e1 e2
      injection e2 with e2 e3
      exact ⟨y :: x :: xs, .swap x y xs, by rw [List.map_cons, List.map_cons, e1, e2, e3]⟩
  | trans _ _ ih1 ih2 =>
    intro xs e
    obtain ⟨zs, h1, h2⟩ := ih1 xs e
    obtain ⟨ws, h3, h4⟩ := ih2 zs h2
    exact ⟨ws, h3.trans h1, h4⟩
theorem pF (n : Nat) : (bF n).Nodup := by
  unfold bF
  exact List.Pairwise.map _ (fun a b h z => h (by omega)) List.nodup_range
theorem lQ {p : Int -> Int} {h : Int} : ∀ {hs : List Int}, (∀ x ∈ hs, p x = p h -> x = h) -> (hs.map p).count (p h) = hs.count h
  | [], _ => rfl
  | x :: hs, hi => by
    rw [List.map_cons, List.count_cons, List.count_cons, lQ fun y hy => hi y (List.mem_cons_of_mem _ hy)]
    by_cases e : x = h
    · rw [e]; simp
    · have : ¬ p x = p h := fun z => e (hi x (List.mem_cons_self ..) z)
      simp [e, this]
theorem lR {n : Int} {p : Int -> Int} {hs hs' : List Int} (hp : ((bF n.toNat).map p).Perm (bF n.toNat)) (hr : ∀ h ∈ hs, 0 <= h /\ h < n) (he : hs'.Perm (hs.map p)) : (aO n hs').Perm (aO n hs) := by
  have hmem : ∀ x : Int, 0 <= x -> x < n -> x ∈ bF n.toNat := fun x h0 h1 => by
    unfold bF
    exact List.mem_map.mpr ⟨x.toNat, List.mem_range.mpr (by omega), by omega⟩
  have hinj : ∀ x ∈ bF n.toNat, ∀ y ∈ bF n.toNat, p x = p y -> x = y := by
    have hn : ((bF n.toNat).map p).Nodup := hp.nodup_iff.mpr (pF _)
    intro x hx y hy e
    obtain ⟨i, hi⟩ := List.mem_iff_getElem?.mp hx
    obtain ⟨j, hj⟩ := List.mem_iff_getElem?.mp hy
    have ei : ((bF n.toNat).map p)[i]? = some (p x) := by rw [List.getElem?_map, hi]; rfl
    have ej : ((bF n.toNat).map p)[j]? = some (p x) := by rw [List.getElem?_map, hj, e]; rfl
    have hli := (List.getElem?_eq_some_iff.mp ei).1
    have : i = j := (List.getElem?_inj hli hn).mp (by rw [ei, ej])
    subst this
    rw [hi] at hj
    exact Option.some.inj hj
  unfold aO
  have h1 : ((bF n.toNat).map fun h => ((hs'.count h : Nat) : Int)).Perm (((bF n.toNat).map p).map fun h => ((hs'.count h : Nat) : Int)) := (hp.map _).symm
  refine h1.trans (List.Perm.of_eq ?_)
  rw [List.map_map]
  refine List.map_congr_left fun h hh => ?_
  show ((hs'.count (p h) : Nat) : Int) = _
  rw [he.count_eq, lQ fun x hx e => hinj x (hmem x (hr x hx).1 (hr x hx).2) h hh e]
structure Called (n : Int) (p : Int -> Int) (g : List Int -> List Int) (ws ws' : List (List Int)) : Prop where
  perm : ((bF n.toNat).map p).Perm (bF n.toNat)
  mem : ∀ l ∈ ws, ∀ x, x ∈ g l ↔ ∃ h ∈ l, p h = x
  works : ws'.Perm (ws.map g)
theorem nN {α β : Type} : ∀ {a : List α} {b : List β}, a.length = b.length -> (a.zip b).map Prod.fst = a
  | [], [], _ => rfl
  | x :: a, y :: b, h => congrArg (x :: ·) (nN (by simpa using h))
  | [], _ :: _, h => by simp at h
  | _ :: _, [], h => by simp at h
theorem tE {α β : Type} : ∀ {a : List α} {b : List β}, a.length = b.length -> (a.zip b).map Prod.snd = b
  | [], [], _ => rfl
  | x :: a, y :: b, h => congrArg (y :: ·) (tE (by simpa using h))
  | [], _ :: _, h => by simp at h
  | _ :: _, [], h => by simp at h
theorem kH {ws : List (List Int)} {hs : List Int} (hl : hs.length = ws.length) (h : ∀ q ∈ ws.zip hs, q.2 ∈ q.1) : cW ws (cG hs) = true :=
  lP hl fun j x l e1 e2 => h (l, x) (List.mem_of_getElem? (i := j) (by rw [List.getElem?_zip_eq_some]; exact ⟨e2, e1⟩))
theorem kI {ws : List (List Int)} {hs : List Int} (h : cW ws (cG hs) = true) : ∀ q ∈ ws.zip hs, q.2 ∈ q.1 := fun q hq => by
  obtain ⟨j, hj⟩ := List.mem_iff_getElem?.mp hq
  rw [List.getElem?_zip_eq_some] at hj
  exact (bV h).2 j q.2 q.1 hj.2 hj.1
theorem aBA {α β : Type} : ∀ zs : List (α × β), (zs.map Prod.fst).zip (zs.map Prod.snd) = zs
  | [] => rfl
  | z :: zs => congrArg (z :: ·) (aBA zs)
theorem Called.there {n : Int} {p : Int -> Int} {g : List Int -> List Int} {ws ws' : List (List Int)} {hs : List Int} (c : Called n p g ws ws') (h : cW ws (cG hs) = true) : ∃ hs', cW ws' (cG hs') = true /\ hs'.Perm (hs.map p) := by
  have hl := (bV h).1
  have hz := kI h
  have e1 : ((ws.zip hs).map fun q => (g q.1, p q.2)).map Prod.fst = ws.map g := by
    rw [List.map_map]
    show (ws.zip hs).map (g ∘ Prod.fst) = _
    rw [<- List.map_map, nN hl.symm]
  obtain ⟨zs, h1, h2⟩ := rD (c.works.symm) ((ws.zip hs).map fun q => (g q.1, p q.2)) e1
  refine ⟨zs.map Prod.snd, kH (by rw [<- h2, List.length_map, List.length_map]) fun q hq => ?_, ?_⟩
  · rw [<- h2, aBA] at hq
    obtain ⟨r, hr, rfl⟩ := List.mem_map.mp (h1.mem_iff.mp hq)
    have hrm : r.1 ∈ ws := by rw [<- nN hl.symm]; exact List.mem_map.mpr ⟨r, hr, rfl⟩
    exact (c.mem r.1 hrm _).mpr ⟨r.2, hz r hr, rfl⟩
  · refine (h1.map Prod.snd).trans (List.Perm.of_eq ?_)
    rw [List.map_map]
    show (ws.zip hs).map (p ∘ Prod.snd) = _
    rw [<- List.map_map, tE hl.symm]
theorem yT {n : Int} {p : Int -> Int} {g : List Int -> List Int} : ∀ {ws : List (List Int)} {zs : List (List Int × Int)}, (∀ l ∈ ws, ∀ x, x ∈ g l ↔ ∃ h ∈ l, p h = x) -> zs.map Prod.fst = ws.map g -> (∀ q ∈ zs, q.2 ∈ q.1) -> ∃ hs : List Int, hs.length = ws.length /\ (∀ q ∈ ws.zip hs, q.2 ∈ q.1) /\ hs.map p = zs.map Prod.snd
  | [], [], _, _, _ => ⟨[], rfl, fun _ h => (List.not_mem_nil h).elim, rfl⟩
  | [], _ :: _, _, e, _ => by cases e
  | _ :: _, [], _, e, _ => by cases e
  | l :: ws, z :: zs, hm, e, hq => by
    injection e with e1 e2
    obtain ⟨hs, h1, h2, h3⟩ := yT (n := n) (p := p) (g := g) (ws := ws) (zs := zs) (fun l' hl' => hm l' (List.mem_cons_of_mem _ hl')) e2 fun q h => hq q (List.mem_cons_of_mem _ h)
    have hz := hq z (List.mem_cons_self ..)
    rw [e1] at hz
    obtain ⟨h, hh, eh⟩ := (hm l (List.mem_cons_self ..) z.2).mp hz
    refine ⟨h :: hs, by rw [List.length_cons, List.length_cons, h1], fun q hq' => ?_, by rw [List.map_cons, List.map_cons, eh, h3]⟩
    rcases List.mem_cons.mp hq' with rfl | hq'
    · exact hh
    · exact h2 q hq'
theorem Called.back {n : Int} {p : Int -> Int} {g : List Int -> List Int} {ws ws' : List (List Int)} {hs' : List Int} (c : Called n p g ws ws') (h : cW ws' (cG hs') = true) : ∃ hs, cW ws (cG hs) = true /\ hs'.Perm (hs.map p) := by
  have hl := (bV h).1
  obtain ⟨zs, h1, h2⟩ := rD c.works (ws'.zip hs') (nN hl.symm)
  obtain ⟨hs, k1, k2, k3⟩ := yT (n := n) c.mem h2 fun q hq => kI h q (h1.mem_iff.mp hq)
  refine ⟨hs, kH k1 k2, ?_⟩
  rw [k3]
  have := (h1.map Prod.snd).symm
  rwa [tE hl.symm] at this
theorem Called.falling {n : Int} {p : Int -> Int} {g : List Int -> List Int} {ws ws' : List (List Int)} {hs hs' lv lv' ms ms' : List Int} (c : Called n p g ws ws') (hb : cI (cK n ws) = true) (hb' : cI (cK n ws') = true) (hd : cW ws (cG hs) = true) (hd' : cW ws' (cG hs') = true)
    (L : dZ n ws hs lv) (L' : dZ n ws' hs' lv') (hm : ms.Perm (aO n hs)) (hm' : ms'.Perm (aO n hs')) (sm : ms.Pairwise (· ≥ ·)) (sm' : ms'.Pairwise (· ≥ ·)) : ms' = ms := by
  obtain ⟨h1, d1, p1⟩ := c.there hd
  obtain ⟨h2, d2, p2⟩ := c.back hd'
  refine pE (by rw [aL, aL]) (fun t => ?_) (fun t => ?_) hm' hm sm' sm
  · have := eP hb' hd' d1 L' t
    rwa [nM (lR c.perm (jO hb hd) p1)] at this
  · have := eP hb hd d2 L t
    rwa [<- nM (lR c.perm (jO hb d2) p2)] at this
end Ab
set_option Elab.async false
set_option linter.all false
set_option maxRecDepth 100000
namespace Ab
open PySem L2
theorem kY {n : Int} {ws : List (List Int)} : ∀ {Ws : List (List (Nat × Int × Int))} {hs he : List Int}, kG n ws hs Ws he -> cW ws (cG hs) = true -> cW ws (cG he) = true
  | [], hs, he, c, h => by
    have e : hs = he := c
    rw [<- e]; exact h
  | ss :: Ws, hs, he, ⟨W, c⟩, h => by
    refine kY c ?_
    obtain ⟨hdl, hdg⟩ := bV h
    obtain ⟨h0, xx, hne, hP, _⟩ := W
    refine lP (by rw [jY]; exact hdl) (mM ss (fun s hs' => ?_) hdg)
    obtain ⟨i, hi⟩ := List.mem_iff_getElem?.mp hs'
    obtain ⟨⟨_, l, e2, e3, _⟩, _⟩ := iT hP i s hi
    exact ⟨l, e2, e3⟩
theorem kJ {n : Int} {ws : List (List Int)} {hs lv : List Int} {ss : List (Nat × Int × Int)} (L : dZ n ws hs lv) (W : jN n ws hs ss) : False := by
  obtain ⟨h, x, hne, hP, hN, h0, h1, hRL, hge⟩ := W
  have hlt : h.toNat < lv.length := by rw [L.1]; omega
  obtain ⟨m1, m2⟩ := L.2 h.toNat _ (List.getElem?_eq_getElem hlt)
  rw [show ((h.toNat : Nat) : Int) = h by omega] at m1 m2
  have := m1.2 _ x hRL
  omega
section
variable {P : Program} {w : World} {K : PySem.W.Frag} {mg : Str -> Option Value} {base : Heap}
variable {fW fH fK fB fNB fD fND fL : Addr} {dW dH dK dB dNB dD dND dL : FuncData}
def rE (K : PySem.W.Frag) (Pt : Addr) : Sp := fun vs H Q _ => ∃ (x : V) (n : Int) (ws : List (List Int)), vs = [x] /\ Den K H (cK n ws) x /\ cI (cK n ws) = true /\ H Pt = some (.tab sY) /\
  ∀ (p dp lp : Addr) (hs lv : List Int) H', aE H H' -> H' p = some (.tup [.ref dp, .ref lp]) -> H' dp = some (.tup (hs.map V.int)) -> cW ws (cG hs) = true -> H' lp = some (.tup (lv.map V.int)) -> dZ n ws hs lv -> Q (.ref p) H'
theorem mP : FnScope ["book", "ways", "deal"] ["book"] (aH jI) := ⟨rfl, rfl, rfl, by decide +kernel, rfl, by decide +kernel, by decide +kernel⟩
theorem xH {f fBt fLw Pt : Addr} {fd dBt dLw : FuncData} (G : Fn K mg "evenest" jI ["book"] f fd) (B : Bl mg) (R : Pr K mg fW fH fK fB fNB fD fND fL dW dH dK dB dNB dD dND dL)
    (GBt : Fn K mg "bettered" gO ["book", "deal"] fBt dBt) (OBt : FnOk P w K mg base CX0 10 fBt dBt ["book", "deal"] (iU K Pt)) (GLw : Fn K mg "levels_or_way" wQ ["book", "deal"] fLw dLw) (OLw : FnOk P w K mg base CX0 8 fLw dLw ["book", "deal"] (qZ K Pt)) : FnOk P w K mg base CX0 11 f fd ["book"] (rE K Pt) := by
  have ONB : FnOk P w K mg base CX0 4 fNB dNB ["book"] (sR K) := uV B R
  refine G.fn.ok mP (fun vs H Q E h => ?_) (fun cdv A outer s H vs Q E hr h => ?_)
  · obtain ⟨x, n, ws, rfl, _⟩ := h
    rfl
  · obtain ⟨x, n, ws, rfl, hx, hbk, hT, k⟩ := h
    have r4 : Room 4 _ := hr.mono (by decide)
    have r8 : Room 8 _ := hr.mono (by decide)
    have r10 : Room 10 _ := hr
    refine ⟨_, (aD (eA (aQ R.NB ONB r4 rfl (aA (pv 0) aC)))
    (aD (gR (aQ GBt OBt r10 rfl (aA (pv 0) (aA (bT bN rfl B.tuple cH (aA (dJ (own := ["able"]) (fr := []) (frn := []) (bU (aH jI) ["book", "ways", "deal"] rfl rfl (by decide +kernel)) rfl (gS (bC bP (pv 0) aG (fun _ _ => rfl)))
        (fun _ _ _ _ => (aK (i := 0) (show (["able"] : List Str).Nodup by decide +kernel) rfl (Or.inl rfl))) (fun _ _ _ _ => fV)
        (fun _ _ _ _ => (bC (jS (K := K) rfl) (pv 0) aG (fun _ _ => rfl)))) aC)) aC))) (fU rfl (aT (aK (i := 1) mP.nd rfl (Or.inl rfl)) (aT (aK (i := 2) mP.nd rfl (Or.inl rfl)) cT))))
    (aF (aM (iN (aA (pv 2) (aA (bC bP (aQ GLw OLw r8 rfl (aA (pv 0) (aA (pv 2) aC))) aG (fun _ _ => rfl)) aC))))))), ?_⟩
    obtain ⟨hn1, hn6, hw12, hws⟩ := bS hbk
    refine ⟨_, rfl, x, cK n ws, rfl, hx, hbk, fun H1 s1 => ?_⟩
    have hx1 := s1.den _ _ hx
    obtain ⟨a, b, ys, rfl, ha, hb2, hys⟩ := fM hx1
    have hlw := aR hys
    rw [List.length_map] at hlw
    refine ⟨_, rfl, _, rfl, a, _, 1, .ref b, rfl, rfl, ha, rfl, b, rfl, ⟨_, hb2⟩, iK (K := K) (a := b) (xs := ys) (fun σ => ∃ v, σ = [v]) (fun i zs H2 => H2 = H1 /\ zs = ((ws.take i).map fun l => l.headD 0).map V.int) (hV (by omega)) ⟨none, rfl⟩ ⟨rfl, rfl⟩ (fun i zs H2 z => by rw [z.2, List.length_map, List.length_map, List.length_take]; omega) (fun i zs H2 z => by rw [z.1]; exact hb2) ?_ ?_⟩
    · rintro i zs σ u H2 hu ⟨v, rfl⟩ ⟨rfl, rfl⟩ hz
      obtain ⟨dv, hdv, denv⟩ := cX hys hu
      rw [List.getElem?_map] at hdv
      obtain ⟨l, hl, rfl⟩ : ∃ l, ws[i]? = some l /\ bX l = dv := by
        cases q : ws[i]? with
        | none => rw [q] at hdv; cases hdv
        | some l => rw [q] at hdv; exact ⟨l, rfl, Option.some.inj hdv⟩
      obtain ⟨aw, rfl, haw⟩ := aZ.mp denv
      obtain ⟨l0, _, _⟩ := bJ (hws l (List.mem_of_getElem? hl))
      have hat : atI (l.map V.int) 0 = some (.int (l.headD 0)) := by
        cases l with
        | nil => exact absurd rfl l0
        | cons y l => exact eC (j := 0) rfl
      refine dX ?_
      refine ⟨_, rfl, aw, _, 0, _, rfl, rfl, haw, hat, hz, ⟨_, rfl⟩, rfl, ?_⟩
      rw [List.take_succ, hl, List.map_append, List.map_append]
      rfl
    · rintro zs H2 ⟨rfl, rfl⟩ lq hlq
      rw [List.take_of_length_le (show ws.length <= ys.length by omega)]
      refine ⟨lq, _, rfl, .inl ⟨SqL.of aB, fun dq hdq => ?_⟩⟩
      have s3 := (aE.new (o := .lst ((ws.map fun l => l.headD 0).map V.int)) hlq).trans (aE.new (o := .tup ((ws.map fun l => l.headD 0).map V.int)) hdq)
      have d3 : upd (upd H2 lq (.lst ((ws.map fun l => l.headD 0).map V.int))) dq (.tup ((ws.map fun l => l.headD 0).map V.int)) dq = some (.tup ((ws.map fun l => l.headD 0).map V.int)) := aB
      generalize upd (upd H2 lq (.lst ((ws.map fun l => l.headD 0).map V.int))) dq (.tup ((ws.map fun l => l.headD 0).map V.int)) = H3 at s3 d3 ⊢
      have hd0 : cW ws (cG (ws.map fun l => l.headD 0)) = true := lP (by rw [List.length_map]) fun j h l e1 e2 => by
        rw [List.getElem?_map, e2] at e1
        have e : l.headD 0 = h := Option.some.inj e1
        obtain ⟨l0, _, _⟩ := bJ (hws l (List.mem_of_getElem? e2))
        cases l with
        | nil => exact absurd rfl l0
        | cons y l => rw [<- e]; exact List.mem_cons_self ..
      have s13 := s1.trans s3
      have g3 : cL K H3 (.ref a) (.ref dq) n ws (ws.map fun l => l.headD 0) := ⟨s3.den _ _ hx1, hbk, aZ.mpr ⟨dq, rfl, SqT.of d3⟩, hd0⟩
      refine ⟨.ref a, .ref dq, n, ws, _, rfl, g3, s13 _ _ hT, fun p H4 s4 hp => ?_⟩
      obtain ⟨wl, dl, qs, Ws, he, lv, hp4, _, _, _, hdl, hch, hlv⟩ := hp
      refine ⟨p, _, rfl, SqT.of hp4, rfl, _, _, rfl, _, _, rfl, rfl, ?_⟩
      have hde := kY hch hd0
      have s14 := s13.trans s4
      have g4 : cL K H4 (.ref a) (.ref dl) n ws he := ⟨(s3.trans s4).den _ _ hx1, hbk, aZ.mpr ⟨dl, rfl, SqT.of hdl⟩, hde⟩
      refine ⟨_, rfl, _, rfl, _, rfl, .ref a, .ref dl, n, ws, he, rfl, g4, s14 _ _ hT, fun p2 H5 s5 hp2 => ?_⟩
      rcases hp2 with ⟨lq2, lv2, e1, e2, e3⟩ | ⟨_, _, ss, _, _, _, _, hW⟩
      · refine ⟨p2, _, 1, .ref lq2, rfl, rfl, SqT.of e1, rfl, sz2 _ _, fun r hr' => ?_⟩
        have s6 := aE.new (o := .tup [.ref dl, .ref lq2]) hr'
        exact k r dl lq2 he lv2 _ (s14.trans (s5.trans s6)) aB ((s5.trans s6) _ _ hdl) hde (s6 _ _ e2) e3
      · exact (kJ hlv hW).elim
end
end Ab
set_option Elab.async false
set_option linter.all false
set_option maxRecDepth 100000
namespace Ab
open PySem L2
def vK (hs : List Int) (L : List (List Int)) : Bool := decide (2 <= ((hs.count (iD (L.headD [])) : Nat) : Int) - ((hs.count (mK (L.getLastD [])) : Nat) : Int))
theorem xI {L : List (List Int)} (h : L ≠ []) : ∃ z, L.getLast? = some z /\ L[L.length - 1]? = some z := ⟨L.getLast h, List.getLast?_eq_getLast h, by rw [List.getLast_eq_getElem]; exact List.getElem?_eq_getElem _⟩
section
variable {P : Program} {w : World} {K : PySem.W.Frag} {mg : Str -> Option Value} {base : Heap}
variable {fW fH fK fB fNB fD fND fL : Addr} {dW dH dK dB dNB dD dND dL : FuncData}
def aBB (K : PySem.W.Frag) : Sp := fun vs H Q _ => ∃ x y p xs n ws hs L, vs = [x, y, .ref p] /\ WIn K H x y p xs n ws hs L /\ mL ws hs L = true /\ ∀ H', aE H H' -> Q (.bl (vK hs L)) H'
theorem rF : FnScope ["book", "deal", "some", "many"] ["book", "deal", "some"] (aH lM) := ⟨rfl, rfl, rfl, by decide +kernel, rfl, by decide +kernel, by decide +kernel⟩
theorem rG {n : Int} {hs : List Int} {h : Int} (h0 : 0 <= h) (h1 : h < n) : (aO n hs)[h.toNat]? = some ((hs.count h : Nat) : Int) := by
  unfold aO
  rw [List.getElem?_map, jK (show h.toNat < n.toNat by omega)]
  show some (((hs.count ((h.toNat : Nat) : Int) : Nat)) : Int) = _
  rw [show ((h.toNat : Nat) : Int) = h by omega]
theorem vL {H : Hp} {x y : V} {n : Int} {ws : List (List Int)} {hs : List Int} {kk gg tt : Int} (g : cL K H x y n ws hs) (h : eT ws hs [kk, gg, tt] = true) : (0 <= gg /\ gg < n) /\ 0 <= tt /\ tt < n := by
  obtain ⟨k0, k1, e, _, hm⟩ := mX h
  obtain ⟨_, _, _, hws⟩ := bS g.2.1
  obtain ⟨hdl, _⟩ := bV g.2.2.2
  refine ⟨g.hand e, ?_⟩
  have hlt : kk.toNat < ws.length := by omega
  have e1 : ws.getD kk.toNat [] = ws[kk.toNat] := by rw [List.getD_eq_getElem?_getD, List.getElem?_eq_getElem hlt]; rfl
  rw [e1] at hm
  exact (bJ (hws _ (List.getElem_mem hlt))).2.1 tt hm
theorem aDm {ws : List (List Int)} {hs : List Int} {L : List (List Int)} (hw : mL ws hs L = true) : L ≠ [] := fun z => by subst z; cases hw
theorem xJ {f fN : Addr} {fd dN : FuncData} (G : Fn K mg "betters" lM ["book", "deal", "some"] f fd) (B : Bl mg) (R : Pr K mg fW fH fK fB fNB fD fND fL dW dH dK dB dNB dD dND dL) (GNW : Fn K mg "need_way" mH ["book", "deal", "some"] fN dN) (ONW : FnOk P w K mg base CX0 8 fN dN ["book", "deal", "some"] (nJ K)) : FnOk P w K mg base CX0 9 f fd ["book", "deal", "some"] (aBB K) := by
  have OL : FnOk P w K mg base CX0 7 fL dL ["book", "deal"] (jT K) := jL B R
  refine G.fn.ok rF (fun vs H Q E h => ?_) (fun cdv A outer s H vs Q E hr h => ?_)
  · obtain ⟨x, y, p, xs, n, ws, hs, L, rfl, _⟩ := h
    rfl
  · obtain ⟨x, y, p, xs, n, ws, hs, L, rfl, hi, hw, k⟩ := h
    have r8 : Room 8 _ := hr
    have r7 : Room 7 _ := hr.mono (by decide)
    refine ⟨_, (aD (eA (aQ GNW ONW r8 rfl (aA (pv 0) (aA (pv 1) (aA (pv 2) aC)))))
    (aD (aU (i := 3) rF.nd rfl (Or.inl rfl) (aQ R.L OL r7 rfl (aA (pv 0) (aA (pv 1) aC))))
    (aF (aM (eY qB (bK rW (bC bP (pv 3) (bC bP (bC bZ (pv 2) aG (fun _ _ => rfl)) aG (fun _ _ => rfl)) (fun _ _ => rfl)) (bC bP (pv 3) (bC bP (bC bZ (pv 2) (aAn vV aG) (fun _ _ => rfl)) aG (fun _ _ => rfl)) (fun _ _ => rfl))) aG (aS _)))))), ?_⟩
    refine ⟨_, rfl, _, rfl, _, rfl, x, y, p, xs, n, ws, hs, L, rfl, hi, hw, fun H1 s1 => ?_⟩
    have hi1 := hi.same s1
    refine ⟨_, rfl, _, rfl, x, y, n, ws, hs, rfl, hi1.1, fun q H2 s2 e2 => ?_⟩
    have hi2 := hi1.same s2
    have hxl := aR hi.2.2.1
    rw [List.length_map] at hxl
    have hne := aDm hw
    have hpos := List.length_pos_iff.mpr hne
    obtain ⟨c, kk, gg, tt, eu, el, hc, hst⟩ := hi2.nth hw (List.getElem?_eq_getElem (l := xs) (i := 0) (by omega))
    obtain ⟨c', kk', gg', tt', eu', el', hc', hst'⟩ := hi2.nth hw (List.getElem?_eq_getElem (l := xs) (i := xs.length - 1) (by omega))
    obtain ⟨⟨g0, g1⟩, _⟩ := vL hi2.1 hst
    obtain ⟨_, t0, t1⟩ := vL hi2.1 hst'
    have eb : vK hs L = decide (2 <= ((hs.count gg : Nat) : Int) - ((hs.count tt' : Nat) : Int)) := by
      have h1 : L.headD [] = [kk, gg, tt] := by
        cases L with
        | nil => exact absurd rfl hne
        | cons s r => exact Option.some.inj el
      have h2 : L.getLastD [] = [kk', gg', tt'] := by
        obtain ⟨z, z1, z2⟩ := xI hne
        rw [hxl] at el'
        rw [el'] at z2
        rw [List.getLastD_eq_getLast?, z1, <- Option.some.inj z2]
        rfl
      unfold vK
      rw [h1, h2]
      rfl
    rw [eb] at k
    refine ⟨_, rfl, _, rfl, p, xs, 0, .ref c, rfl, rfl, hi2.2.1, eC (j := 0) (by rw [List.getElem?_eq_getElem (show 0 < xs.length by omega), eu]), c, _, 1, .int gg, rfl, rfl, hc, rfl, q, _, gg, _, rfl, rfl, SqT.of e2, oT g0 (rG g0 g1),
      _, rfl, _, rfl, 1, rfl, p, xs, _, .ref c', rfl, rfl, hi2.2.1, aBs (by rw [List.getElem?_eq_getElem (by omega), eu']), c', _, 2, .int tt', rfl, rfl, hc', rfl, q, _, tt', _, rfl, rfl, SqT.of e2, oT t0 (rG t0 t1), _, _, rfl, rfl, _, _, rfl, rfl, ?_⟩
    exact k H2 (s1.trans s2)
end
end Ab
set_option Elab.async false
set_option linter.all false
set_option maxRecDepth 100000
namespace Ab
open PySem L2
theorem mQ {α β : Type} {as : List α} {bs : List β} {f : α × β -> Bool} (h : ∀ (j : Nat) a b, as[j]? = some a -> bs[j]? = some b -> f (a, b) = true) : (as.zip bs).all f = true := by
  rw [List.all_eq_true]
  rintro ⟨a, b⟩ hm
  obtain ⟨j, hj⟩ := List.mem_iff_getElem?.mp hm
  obtain ⟨h1, h2⟩ := List.getElem?_zip_eq_some.mp hj
  exact h j a b h1 h2
theorem xK {α β : Type} {as : List α} {bs : List β} {f : α × β -> Bool} {j : Nat} {a : α} {b : β} (h1 : as[j]? = some a) (h2 : bs[j]? = some b) (h : f (a, b) = false) : (as.zip bs).all f = false := by
  rw [Bool.eq_false_iff]
  intro z
  have hj : (as.zip bs)[j]? = some (a, b) := List.getElem?_zip_eq_some.mpr ⟨h1, h2⟩
  have := List.all_eq_true.mp z _ (List.mem_of_getElem? hj)
  rw [h] at this
  cases this
def kZ (p : Int × Int) : Bool := decide (p.1 = p.2) || decide (p.1 = p.2 - 1)
def tF (ls : List Int) (p : Int × List Int) : Bool := p.2.all fun o => decide (ls.getD p.1.toNat 0 <= ls.getD o.toNat 0)
def tG (n : Int) (ws : List (List Int)) (hs ls : List Int) : Bool := decide (ls.length = n.toNat) && ((ls.zip (aO n hs)).all kZ && (hs.zip ws).all (tF ls))
theorem aDn (a b : Int) : (!inV (.int a) [.int b, .int (b - 1)]) = !kZ (a, b) := by
  have e := sP a [b, b - 1]
  show (!inV (.int a) ([b, b - 1].map V.int)) = _
  rw [e]
  unfold kZ
  congr 1
  rw [Bool.eq_iff_iff]
  simp [List.any_cons]
  constructor
  · rintro (h | h) <;> omega
  · rintro (h | h) <;> omega
section
variable {P : Program} {w : World} {K : PySem.W.Frag} {mg : Str -> Option Value} {base : Heap}
variable {fW fH fK fB fNB fD fND fL : Addr} {dW dH dK dB dNB dD dND dL : FuncData}
def aBC (K : PySem.W.Frag) : Sp := fun vs H Q _ => ∃ x y p n ws hs ls, vs = [x, y, .ref p] /\ cL K H x y n ws hs /\ SqT K H p (ls.map V.int) /\ ∀ H', aE H H' -> Q (.bl (tG n ws hs ls)) H'
theorem lT : FnScope ["book", "deal", "levels", "many", "level", "load"] ["book", "deal", "levels"] (aH jQ) := ⟨rfl, rfl, rfl, by decide +kernel, rfl, by decide +kernel, by decide +kernel⟩
theorem rH {f : Addr} {fd : FuncData} (G : Fn K mg "are_levels" jQ ["book", "deal", "levels"] f fd) (B : Bl mg) (R : Pr K mg fW fH fK fB fNB fD fND fL dW dH dK dB dNB dD dND dL) : FnOk P w K mg base CX0 8 f fd ["book", "deal", "levels"] (aBC K) := by
  have OL : FnOk P w K mg base CX0 7 fL dL ["book", "deal"] (jT K) := jL B R
  have OW : FnOk P w K mg base CX0 1 fW dW ["thing"] (jR K) := jJ R.W B
  refine G.fn.ok lT (fun vs H Q E h => ?_) (fun cdv A outer s H vs Q E hr h => ?_)
  · obtain ⟨x, y, p, n, ws, hs, ls, rfl, _⟩ := h
    rfl
  · obtain ⟨x, y, p, n, ws, hs, ls, rfl, g, hp, k⟩ := h
    have r7 : Room 7 _ := hr
    have r1 : Room 1 _ := hr.mono (by decide)
    refine ⟨_, (aD (aU (i := 3) lT.nd rfl (Or.inl rfl) (aQ R.L OL r7 rfl (aA (pv 0) (aA (pv 1) aC))))
    (aD (bR (PW.pt (gE (dM (eG (aP cO rfl B.isinstance lK (aA (pv 2) (aA (gL (v := .ty "tuple") rfl B.tuple cH rfl) aC))))) (eI (aN lB (aP bA rfl B.len fP (aA (pv 2) aC)) (aP bA rfl B.len fP (aA (pv 3) aC)) (aS _)))))
      (aF (aM cF))
      aW)
    (aD (eW PassesOwn.never rfl (oB .t .t rfl B.zip (aA (pv 2) (aA (pv 3) aC))) (fU rfl (aT (aK (i := 4) lT.nd rfl (Or.inl rfl)) (aT (aK (i := 5) lT.nd rfl (Or.inl rfl)) cT)))
      (aF (bR (PW.pt (gE (dM (eG (aQ R.W OW r1 rfl (aA (pv 4) aC)))) (eI (aN rX (pv 4) (iN (aA (pv 5) (aA (bK rW (pv 5) aG) aC))) (by with_unfolding_all rfl)))))
      (aF (aM cF))
      aW)))
    (aF (aM (aP (iI rfl) rfl B.all qP (aA (aAT (own := ["hand", "able", "other"]) (fr := [2]) (frn := ["levels"]) (bU (aH jQ) ["book", "deal", "levels", "many", "level", "load"] rfl rfl (by decide +kernel)) rfl (oB .t .t rfl B.zip (aA (pv 1) (aA (bC bP (pv 0) aG (fun _ _ => rfl)) aC)))
        (fun _ _ _ _ => (sQ (K := K) (n := 2) rfl rfl (aT (aK (i := 0) (show (["hand", "able", "other", "levels"] : List Str).Nodup by decide +kernel) rfl (Or.inl rfl)) (aT (aK (i := 1) (show (["hand", "able", "other", "levels"] : List Str).Nodup by decide +kernel) rfl (Or.inl rfl)) cT)))) (fun _ _ _ _ => (aCn (K := K) rfl (pv 1))) (fun _ _ _ _ => (aK (i := 2) (show (["hand", "able", "other", "levels"] : List Str).Nodup by decide +kernel) rfl (Or.inl rfl)))
        (fun _ _ _ _ => (eY tM (bC (jS (K := K) rfl) (pv 3) (pv 0) (fun _ _ => rfl)) (bC (jS (K := K) rfl) (pv 3) (pv 2) (fun _ _ => rfl)) (aS _)))) aC))))))), ?_⟩
    refine ⟨_, rfl, _, rfl, x, y, n, ws, hs, rfl, g, fun q H1 s1 e1 => ?_⟩
    have g1 := g.same s1
    have hp1 := s1.seqT hp
    obtain ⟨hl12, hn1, hn6⟩ := g.len
    refine ⟨_, rfl, .ref p, _, rfl, .inr (.inl ⟨rfl, _, hp1⟩), _, rfl, ?_⟩
    refine eD ?_
    refine ⟨_, rfl, p, _, rfl, .inr hp1, _, rfl, q, _, rfl, .inr (SqT.of e1), rfl, _, rfl, ?_⟩
    rw [List.length_map, List.length_map, aL]
    refine cN (fun c => ?_) (fun c => ?_)
    · have hne : ls.length ≠ n.toNat := fun z => by rw [z] at c; simp at c
      have e : false = tG n ws hs ls := by unfold tG; rw [decide_eq_false hne]; rfl
      show Q (.bl false) _
      rw [e]; exact k H1 s1
    have heq : ls.length = n.toNat := by
      have : V.int (ls.length : Int) = V.int (n.toNat : Int) := by simpa using c
      injection this with this
      omega
    refine ⟨_, rfl, _, rfl, p, q, _, _, rfl, hp1, SqT.of e1, xY (K := K) (k1 := .t) (k2 := .t) (a := p) (b := q) (xs := ls.map V.int) (ys := (aO n hs).map V.int) (fun i σ H3 => (∃ v4 v5, σ = [some x, some y, some (.ref p), some (.ref q), v4, v5]) /\ aE H1 H3 /\ ∀ j a b, j < i -> ls[j]? = some a -> (aO n hs)[j]? = some b -> kZ (a, b) = true)
      (by rw [List.length_map, List.length_map, aL, heq]) ⟨⟨_, _, rfl⟩, aE.refl _, fun j _ _ hj => absurd hj (Nat.not_lt_zero _)⟩ (fun i σ H3 _ ⟨_, s3, _⟩ => ⟨s3.seqT hp1, s3.seqT (SqT.of e1)⟩) ?_ ?_⟩
    · rintro i u v t σ H3 hu hv ⟨⟨v4, v5, rfl⟩, s3, hle⟩ ht
      obtain ⟨a, ha, rfl⟩ := jX hu
      obtain ⟨b, hb, rfl⟩ := jX hv
      refine ⟨t, _, rfl, SqT.of aB, rfl, _, _, rfl, _, _, rfl, rfl, ?_⟩
      refine ⟨_, rfl, .int a, .int a, rfl, eE.mpr rfl, _, rfl, ?_⟩
      refine eD ?_
      have s4 := s3.trans (aE.new (o := .tup [.int a, .int b]) ht)
      refine ⟨_, rfl, _, rfl, _, rfl, _, _, rfl, rfl, sz2 _ _, fun z hz => ⟨z, _, rfl, .inr (SqT.of aB), rfl, rfl, _, rfl, ?_⟩⟩
      have s5 := s4.trans (aE.new (o := .tup [.int b, .int (b - 1)]) hz)
      show if (!inV (.int a) [.int b, .int (b - 1)]) = true then _ else _
      rw [aDn]
      refine cN (fun c2 => ?_) (fun c2 => ?_)
      · have hf : kZ (a, b) = false := by simpa using c2
        have e : false = tG n ws hs ls := by unfold tG; rw [xK ha hb hf, Bool.false_and, Bool.and_false]
        show Q (.bl false) _
        rw [e]; exact k _ (s1.trans s5)
      · have ht' : kZ (a, b) = true := by simpa using c2
        refine ⟨⟨_, _, rfl⟩, s5, fun j a' b' hj h1 h2 => ?_⟩
        by_cases z : j < i
        · exact hle j a' b' z h1 h2
        · have : j = i := by omega
          subst this
          rw [ha] at h1; rw [hb] at h2
          cases h1; cases h2
          exact ht'
    · rintro σ H3 ⟨⟨v4, v5, rfl⟩, s3, hle⟩
      have e1' : (ls.zip (aO n hs)).all kZ = true := mQ fun j a b h1 h2 => hle j a b (by rw [List.length_map]; exact (List.getElem?_eq_some_iff.mp h1).1) h1 h2
      have elev : tG n ws hs ls = (hs.zip ws).all (tF ls) := by unfold tG; rw [e1', decide_eq_true heq, Bool.true_and, Bool.true_and]
      rw [elev] at k
      have g3 := g1.same s3
      have hp3 := s3.seqT hp1
      obtain ⟨a, b, ys, rfl, ha, hb2, hys⟩ := fM g3.1
      obtain ⟨c0, rfl, hc0⟩ := aZ.mp g3.2.2.1
      obtain ⟨hdl, hdg⟩ := bV g.2.2.2
      obtain ⟨_, _, hw12, hws⟩ := bS g.2.1
      have hlw := aR hys
      rw [List.length_map] at hlw
      let bss : List (List Bool) := (hs.zip ws).map fun p => p.2.map fun o => decide (ls.getD p.1.toNat 0 <= ls.getD o.toNat 0)
      have hbl : bss.length = hs.length := by show ((hs.zip ws).map _).length = _; rw [List.length_map, List.length_zip]; omega
      have hbs : ∀ l ∈ bss, l.length <= 6 := fun l hl => by
        obtain ⟨⟨h, wk⟩, hm, rfl⟩ := List.mem_map.mp hl
        obtain ⟨w1, w2, w3⟩ := bJ (hws wk (List.of_mem_zip hm).2)
        have := fY (by omega) w2 w3
        rw [List.length_map]
        show wk.length <= 6
        omega
      have hfl : (bss.map (List.map V.bl)).flatten.length <= 1000 := by
        have : ∀ (L : List (List Bool)), (∀ l ∈ L, l.length <= 6) -> (L.map (List.map V.bl)).flatten.length <= 6 * L.length := fun L => by
          induction L with
          | nil => intro _; exact Nat.zero_le _
          | cons l r ih =>
            intro h
            have h1 := ih fun l' hl' => h l' (List.mem_cons_of_mem _ hl')
            have h2 := h l (List.mem_cons_self ..)
            rw [List.map_cons, List.flatten_cons, List.length_append, List.length_map, List.length_cons]
            omega
        have := this bss hbs
        omega
      refine ⟨_, rfl, _, rfl, a, _, 1, .ref b, rfl, rfl, ha, rfl, c0, b, _, _, rfl, hc0, hb2, aAV (J := Itz K .t .t c0 b) (n := hs.length) (vss := bss.map (List.map V.bl)) (fun σ => ∃ v0 v1 v2, σ = [v0, v1, v2, some (.ref p)]) hfl (by rw [List.length_map, hbl]) ⟨_, _, _, rfl⟩
        (fun H' s' => ⟨hs.map V.int, ys, s'.seqT hc0, s'.seqT hb2, by rw [List.length_map]; omega⟩) (fun i H' hi s' => ⟨hs.map V.int, ys, (hs.map V.int)[i]'(by rw [List.length_map]; exact hi), ys[i]'(by omega), s'.seqT hc0, s'.seqT hb2, List.getElem?_eq_getElem _, List.getElem?_eq_getElem _⟩) ?_ ?_⟩
      · rintro i vs x σ H4 H5 hi hv ⟨v0, v1, v2, rfl⟩ s4 ⟨t, ht, rfl, hy⟩ P' hP
        obtain ⟨xh, xw, h1, h2, rfl⟩ := hy _ _ (s4.seqT hc0) (s4.seqT hb2)
        obtain ⟨h, hh, rfl⟩ := jX h1
        obtain ⟨dv, hdv, denv⟩ := cX hys h2
        rw [List.getElem?_map] at hdv
        obtain ⟨l, hl, rfl⟩ : ∃ l, ws[i]? = some l /\ bX l = dv := by
          cases q : ws[i]? with
          | none => rw [q] at hdv; cases hdv
          | some l => rw [q] at hdv; exact ⟨l, rfl, Option.some.inj hdv⟩
        obtain ⟨aw, rfl, haw⟩ := aZ.mp denv
        obtain ⟨hh0, hh1⟩ := g.hand hh
        obtain ⟨w1, w2, w3⟩ := bJ (hws l (List.mem_of_getElem? hl))
        have evs : vs = l.map fun o => V.bl (decide (ls.getD h.toNat 0 <= ls.getD o.toNat 0)) := by
          have hz : (hs.zip ws)[i]? = some (h, l) := List.getElem?_zip_eq_some.mpr ⟨hh, hl⟩
          have : (bss.map (List.map V.bl))[i]? = some (l.map fun o => V.bl (decide (ls.getD h.toNat 0 <= ls.getD o.toNat 0))) := by
            show (((hs.zip ws).map _).map (List.map V.bl))[i]? = _
            rw [List.getElem?_map, List.getElem?_map, hz]
            show some (List.map V.bl (List.map _ l)) = _
            rw [List.map_map]
            rfl
          rw [this] at hv
          exact (Option.some.inj hv).symm
        have s5 : aE H4 (upd H4 t (.tup [.int h, .ref aw])) := aE.new ht
        have haw5 := (s4.trans s5).seqT haw
        refine ⟨t, _, rfl, SqT.of aB, rfl, _, _, rfl, _, _, rfl, rfl, ?_⟩
        refine ⟨_, rfl, aw, rfl, ⟨_, haw5⟩, hP _ _ _ s5 ⟨fun σ => ∃ v2, σ = [some (.int h), some (.ref aw), v2, some (.ref p)], ⟨_, rfl⟩, fun σ3 ⟨_, e⟩ => ⟨_, _, _, e⟩, fun H' s' => ⟨l.map V.int, s'.seqT haw5, by rw [evs, List.length_map, List.length_map]; exact Nat.le_refl _⟩, fun j H' hj s' => ⟨l.map V.int, (l.map V.int)[j]'(by rw [evs, List.length_map] at hj; rw [List.length_map]; exact hj), s'.seqT haw5, List.getElem?_eq_getElem _⟩, ?_⟩⟩
        rintro j v yv σ3 H6 H7 hvj ⟨v2', rfl⟩ s6 ⟨rfl, hy2⟩ Q' hQ'
        obtain ⟨o, ho, rfl⟩ := jX (hy2 _ (s6.seqT haw5))
        obtain ⟨o0, o1⟩ := w2 o (List.mem_of_getElem? ho)
        have ev : v = V.bl (decide (ls.getD h.toNat 0 <= ls.getD o.toNat 0)) := by
          rw [evs, List.getElem?_map, ho] at hvj
          exact (Option.some.inj hvj).symm
        have hp7 := ((s4.trans s5).trans s6).seqT hp3
        refine ⟨_, rfl, _, rfl, p, _, h, _, rfl, rfl, hp7, vC (xs := ls) hh0 (by omega), _, rfl, _, rfl, p, _, o, _, rfl, rfl, hp7, vC (xs := ls) o0 (by omega), _, _, rfl, rfl, ?_⟩
        rw [ev] at hQ'
        exact hQ' _ _ ⟨_, rfl⟩ (aE.refl _)
      · rintro H4 s4 l hl
        have ef : (bss.map (List.map V.bl)).flatten = bss.flatten.map V.bl := by rw [List.map_flatten]
        have ea : bss.flatten.all id = (hs.zip ws).all (tF ls) := by
          show (List.map _ (hs.zip ws)).flatten.all id = _
          rw [List.all_flatten, List.all_map]
          congr 1
          funext p
          show (List.map _ p.2).all id = _
          rw [List.all_map]
          rfl
        refine ⟨l, bss.flatten, rfl, SqL.of (by rw [<- ef]; exact aB), ?_⟩
        rw [ea]
        exact k _ ((s1.trans s3).trans (s4.trans (aE.new hl)))
end
end Ab
set_option Elab.async false
set_option linter.all false
set_option maxRecDepth 100000
namespace Ab
open PySem L2
theorem rJ (m : Nat) : bF (m + 1) = bF m ++ [(m : Int)] := by unfold bF; rw [List.range_succ, List.map_append]; rfl
theorem xL (d : Int) (h : Int) : ∀ m : Nat, 0 <= h -> aJ ((bF m).map fun i => if i = h then d else 0) = if h < m then d else 0
  | 0, h0 => by rw [if_neg (by omega)]; rfl
  | m + 1, h0 => by
    rw [rJ, List.map_append, gM, xL d h m h0]
    show _ + ((if (m : Int) = h then d else 0) + 0) = _
    by_cases e : (m : Int) = h
    · rw [if_pos e, if_neg (by omega), if_pos (by omega)]; omega
    · rw [if_neg e]
      by_cases l : h < m
      · rw [if_pos l, if_pos (by omega)]; omega
      · rw [if_neg l, if_neg (by omega)]; omega
theorem rK {n : Int} {hs hs' : List Int} {h x : Int} (f : Int -> Int) (h0 : 0 <= h) (h1 : h < n) (x0 : 0 <= x) (x1 : x < n) (hx : h ≠ x) (hc : ∀ c : Int, ((hs'.count c : Nat) : Int) = ((hs.count c : Nat) : Int) - (if c = h then 1 else 0) + (if c = x then 1 else 0)) :
    aJ ((aO n hs').map f) = aJ ((aO n hs).map f) + (f (((hs.count h : Nat) : Int) - 1) - f ((hs.count h : Nat) : Int)) + (f (((hs.count x : Nat) : Int) + 1) - f ((hs.count x : Nat) : Int)) := by
  unfold aO
  rw [List.map_map, List.map_map]
  have e : aJ ((bF n.toNat).map (f ∘ fun h => ((hs'.count h : Nat) : Int))) = aJ ((bF n.toNat).map fun i => ((f ∘ fun h => ((hs.count h : Nat) : Int)) i + (if i = h then f (((hs.count h : Nat) : Int) - 1) - f ((hs.count h : Nat) : Int) else 0)) + (if i = x then f (((hs.count x : Nat) : Int) + 1) - f ((hs.count x : Nat) : Int) else 0)) := hX fun i _ => by
    show f ((hs'.count i : Nat) : Int) = f ((hs.count i : Nat) : Int) + _ + _
    rw [hc i]
    by_cases e1 : i = h
    · subst e1
      rw [if_pos rfl, if_pos rfl, if_neg hx, if_neg hx, Int.add_zero]
      omega
    · by_cases e2 : i = x
      · subst e2
        rw [if_neg e1, if_neg e1, if_pos rfl, if_pos rfl, Int.sub_zero]
        omega
      · rw [if_neg e1, if_neg e1, if_neg e2, if_neg e2, Int.sub_zero, Int.add_zero]
        omega
  rw [e, fZ, fZ, xL _ _ _ h0, xL _ _ _ x0, if_pos (by omega), if_pos (by omega)]
theorem aBD {n : Int} {hs hs' : List Int} {h x : Int} (h0 : 0 <= h) (h1 : h < n) (x0 : 0 <= x) (x1 : x < n) (hd : 2 <= ((hs.count h : Nat) : Int) - ((hs.count x : Nat) : Int)) (hc : ∀ c : Int, ((hs'.count c : Nat) : Int) = ((hs.count c : Nat) : Int) - (if c = h then 1 else 0) + (if c = x then 1 else 0)) (t : Int) : ex t (aO n hs') <= ex t (aO n hs) := by
  have hx : h ≠ x := fun z => by rw [z] at hd; omega
  have := rK (fun x => max (x - t) 0) h0 h1 x0 x1 hx hc
  unfold ex
  omega
theorem rM (a : Int) : a * (a + 1) / 2 = (a - 1) * a / 2 + a := by
  have : a * (a + 1) = (a - 1) * a + a * 2 := by
    rw [Int.mul_add, Int.sub_mul, Int.mul_one, Int.one_mul]; omega
  rw [this, Int.add_mul_ediv_right _ _ (by decide)]
theorem vM {n : Int} {hs hs' : List Int} {h x : Int} (h0 : 0 <= h) (h1 : h < n) (x0 : 0 <= x) (x1 : x < n) (hd : 2 <= ((hs.count h : Nat) : Int) - ((hs.count x : Nat) : Int)) (hc : ∀ c : Int, ((hs'.count c : Nat) : Int) = ((hs.count c : Nat) : Int) - (if c = h then 1 else 0) + (if c = x then 1 else 0)) : cP n hs' < cP n hs := by
  have hx : h ≠ x := fun z => by rw [z] at hd; omega
  have := rK (fun l => l * (l + 1) / 2) h0 h1 x0 x1 hx hc
  unfold cP
  rw [this]
  generalize ((hs.count h : Nat) : Int) = a at hd
  generalize ((hs.count x : Nat) : Int) = b at hd
  have e1 := rM a
  have e2 := rM (b + 1)
  rw [show a - 1 + 1 = a by omega]
  rw [show b + 1 - 1 = b by omega] at e2
  rw [Int.mul_comm b (b + 1)] at *
  rw [Int.mul_comm (a - 1) a] at *
  omega
theorem jP {ws : List (List Int)} {hs : List Int} : ∀ {ss : List (Nat × Int × Int)} {h x : Int}, cZ ws hs h ss x -> ss ≠ [] -> mK ((ss.map eU).getLastD []) = x
  | [], _, _, _, ne => absurd rfl ne
  | [s], _, _, ⟨_, _, e⟩, _ => e
  | s :: s' :: r, _, _, ⟨_, _, e⟩, _ => jP (ss := s' :: r) e (by simp)
theorem aCr {n : Int} {ws : List (List Int)} {hs : List Int} {ss : List (Nat × Int × Int)} (W : jN n ws hs ss) : vK hs (ss.map eU) = true := by
  obtain ⟨h, x, hne, hP, hN, h0, h1, hR, hd⟩ := W
  unfold vK
  rw [jP hP hne]
  cases ss with
  | nil => exact absurd rfl hne
  | cons s r =>
    show decide (2 <= ((hs.count s.2.1 : Nat) : Int) - _) = true
    rw [show s.2.1 = h from hP.1]
    exact decide_eq_true hd
section
variable {P : Program} {w : World} {K : PySem.W.Frag} {mg : Str -> Option Value} {base : Heap}
variable {fW fH fK fB fNB fD fND fL : Addr} {dW dH dK dB dNB dD dND dL : FuncData}
theorem rN {H : Hp} {x y : V} {n : Int} {ws : List (List Int)} {hs : List Int} {ss : List (Nat × Int × Int)} (g : cL K H x y n ws hs) (W : jN n ws hs ss) : (∀ t, ex t (aO n (cS hs ss)) <= ex t (aO n hs)) /\ cP n (cS hs ss) < cP n hs := by
  obtain ⟨h, xx, hne, hP, hN, h0, h1, hR, hd⟩ := W
  have hx : 0 <= xx /\ xx < n := by
    have hl := jP hP hne
    obtain ⟨s, hs', es⟩ : ∃ s ∈ ss, s.2.2 = xx := by
      cases hL : ss.getLast? with
      | none => exact absurd (List.getLast?_eq_none_iff.mp hL) hne
      | some s =>
        refine ⟨s, List.mem_of_getLast? hL, ?_⟩
        rw [<- hl, List.getLastD_eq_getLast?, List.getLast?_map, hL]
        rfl
    obtain ⟨i, hi⟩ := List.mem_iff_getElem?.mp hs'
    have := g.edge _ _ _ (iT hP i s hi).1
    rwa [es] at this
  have hc := kW ss hP hN
  exact ⟨fun t => aBD h0 h1 hx.1 hx.2 hd hc t, vM h0 h1 hx.1 hx.2 hd hc⟩
def vN (K : PySem.W.Frag) : Sp := fun vs H Q _ => ∃ (x y : V) (q : Addr) (ps : List Addr) (ss : List (Nat × Int × Int)) (n : Int) (ws : List (List Int)) (hs : List Int), vs = [x, y, .ref q] /\ cL K H x y n ws hs /\ H q = some (.lst (ps.map V.ref)) /\ StepsAt H ps ss /\ jN n ws hs ss /\
  ∀ (d : Addr) H', aE H H' -> H' d = some (.tup ((cS hs ss).map V.int)) -> cL K H' x (.ref d) n ws (cS hs ss) -> Q (.ref d) H'
theorem vO : FnScope ["book", "deal", "some", "after"] ["book", "deal", "some"] (aH nF) := ⟨rfl, rfl, rfl, by decide +kernel, rfl, by decide +kernel, by decide +kernel⟩
set_option maxHeartbeats 1000000 in
theorem aAe {f fWy fS fN fB' fG fF fL' fT : Addr} {fd dWy dS dN dB' dG dF dL' dT : FuncData} (G : Fn K mg "_law_b_one_way" nF ["book", "deal", "some"] f fd) (B : Bl mg) (R : Pr K mg fW fH fK fB fNB fD fND fL dW dH dK dB dNB dD dND dL)
    (GWy : Fn K mg "is_way" uS ["book", "deal", "some"] fWy dWy) (GS : Fn K mg "is_step" oJ ["book", "deal", "step"] fS dS) (GNW : Fn K mg "need_way" mH ["book", "deal", "some"] fN dN) (GBe : Fn K mg "betters" lM ["book", "deal", "some"] fB' dB') (GGo : Fn K mg "gone" uT ["book", "deal", "some"] fG dG) (GFa : Fn K mg "falling" gX ["book", "deal"] fF dF) (GNl : Fn K mg "no_less_even" aBc ["book", "one", "other"] fL' dL') (GWs : Fn K mg "waits" kQ ["book", "deal"] fT dT) : FnOk P w K mg base CX0 10 f fd ["book", "deal", "some"] (vN K) := by
  have OWy : FnOk P w K mg base CX0 7 fWy dWy ["book", "deal", "some"] (aBo K) := aBq GWy B R GS
  have ONW : FnOk P w K mg base CX0 8 fN dN ["book", "deal", "some"] (nJ K) := vD GNW B R GWy GS
  have OBe : FnOk P w K mg base CX0 9 fB' dB' ["book", "deal", "some"] (aBB K) := xJ GBe B R GNW ONW
  have OGo : FnOk P w K mg base CX0 9 fG dG ["book", "deal", "some"] (xC K) := yQ GGo B GNW ONW
  have ONl : FnOk P w K mg base CX0 9 fL' dL' ["book", "one", "other"] (aBv K) := aBw GNl B R GFa
  have OWs : FnOk P w K mg base CX0 8 fT dT ["book", "deal"] (nK K) := oZ GWs B R
  refine G.fn.ok vO (fun vs H Q E h => ?_) (fun cdv A outer s H vs Q E hr h => ?_)
  · obtain ⟨x, y, q, ps, ss, n, ws, hs, rfl, _⟩ := h
    rfl
  · obtain ⟨x, y, q, ps, ss, n, ws, hs, rfl, g, hq, hS, W, k⟩ := h
    have r7 : Room 7 _ := hr.mono (by decide)
    have r8 : Room 8 _ := hr.mono (by decide)
    have r9 : Room 9 _ := hr
    refine ⟨_, (aD (bR (PW.pt (gE (aN gN (aQ GWy OWy r7 rfl (aA (pv 0) (aA (pv 1) (aA (pv 2) aC)))) cF (aS _)) (eI (aN gN (aQ GBe OBe r9 rfl (aA (pv 0) (aA (pv 1) (aA (pv 2) aC)))) cF (aS _)))))
      (aF (aM rR))
      aW)
    (aD (aU (i := 3) vO.nd rfl (Or.inl rfl) (aQ GGo OGo r9 rfl (aA (pv 0) (aA (pv 1) (aA (pv 2) aC)))))
    (aD (bR (PW.pt (gE (aN gN (aQ GNl ONl r9 rfl (aA (pv 0) (aA (pv 3) (aA (pv 1) aC)))) cF (aS _)) (eI (aN qB (aQ GWs OWs r8 rfl (aA (pv 0) (aA (pv 3) aC))) (aQ GWs OWs r8 rfl (aA (pv 0) (aA (pv 1) aC))) (aS _)))))
      (aF (aM rR))
      aW)
    (aF (aM (pv 3)))))), ?_⟩
    obtain ⟨hx, xx, hne, hP, hN, hrest⟩ := id W
    have hsl := g.short W
    have hlen : (ss.map eU).length <= 30 := by rw [List.length_map]; omega
    have hl3 : ∀ l ∈ ss.map eU, l.length <= 1000 := fun l hl => by
      obtain ⟨s', _, rfl⟩ := List.mem_map.mp hl
      exact (show 3 <= 1000 by decide)
    have hwb := yS hne hP hN
    have wi : WIn K H x y q (ps.map V.ref) n ws hs (ss.map eU) := ⟨g, SqL.of hq, hS.den, hlen, hl3⟩
    refine ⟨_, rfl, _, rfl, _, rfl, x, y, q, ps.map V.ref, n, ws, hs, ss.map eU, rfl, g, SqL.of hq, hS.den, hlen, hl3, fun H1 s1 => ?_⟩
    rw [hwb]
    refine ⟨true, true, rfl, rfl, _, rfl, ?_⟩
    refine eD ?_
    refine ⟨_, rfl, _, rfl, _, rfl, x, y, q, _, n, ws, hs, ss.map eU, rfl, wi.same s1, hwb, fun H2 s2 => ?_⟩
    rw [aCr W]
    refine ⟨true, true, rfl, rfl, _, rfl, ?_⟩
    refine eD ?_
    have s12 := s1.trans s2
    refine ⟨_, rfl, _, rfl, _, rfl, x, y, q, _, n, ws, hs, ss.map eU, rfl, wi.same s12, hwb, fun d H3 s3 hd e3 => ?_⟩
    rw [sZ] at e3
    have s13 := s12.trans s3
    have g3 := (g.same s13).gone W (SqT.of e3)
    obtain ⟨m1, m2⟩ := rN g W
    refine ⟨_, rfl, _, rfl, _, rfl, x, .ref d, y, n, ws, cS hs ss, hs, rfl, g3, g.same s13, fun H4 ms ys s4 p1 w1 p2 w2 => ?_⟩
    rw [eF (by rw [aL, aL]) m1 p1 p2 w2]
    refine ⟨true, true, rfl, rfl, _, rfl, ?_⟩
    refine eD ?_
    refine ⟨_, rfl, _, rfl, x, .ref d, n, ws, _, rfl, g3.same s4, fun H5 s5 => ?_⟩
    refine ⟨_, rfl, _, rfl, x, y, n, ws, hs, rfl, g.same ((s13.trans s4).trans s5), fun H6 s6 => ?_⟩
    refine ⟨_, _, rfl, rfl, _, rfl, ?_⟩
    rw [decide_eq_false (show ¬ cP n hs <= cP n (cS hs ss) by omega)]
    refine eD ?_
    have s36 := (s4.trans s5).trans s6
    exact ⟨_, rfl, k d _ (s13.trans s36) (s36 _ _ e3) (g3.same s36)⟩
end
end Ab
set_option Elab.async false
set_option linter.all false
set_option maxRecDepth 100000
namespace Ab
open PySem L2
theorem yU {a b : TS} {D : Ends} {σ : St} {H : Hp} (I : St -> Hp -> Prop) (h1 : ∀ N : St -> Hp -> Prop, (∀ σ H, I σ H -> N σ H) -> a { D with nx := N } σ H) (h2 : ∀ σ H, I σ H -> b D σ H) : aDx a b D σ H := h1 _ h2
theorem aBE {n : Int} {ws : List (List Int)} {hs lv : List Int} (hb : cI (cK n ws) = true) (hd : cW ws (cG hs) = true) (L : dZ n ws hs lv) : tG n ws hs lv = true := by
  have hr := jO hb hd
  have hat : ∀ h : Int, 0 <= h -> h < n -> ∃ v, lv[h.toNat]? = some v /\ lv.getD h.toNat 0 = v /\ kE ws hs n.toNat h v := fun h h0 h1 => by
    have hlt : h.toNat < lv.length := by rw [L.1]; omega
    have e := List.getElem?_eq_getElem hlt
    refine ⟨_, e, by rw [List.getD_eq_getElem?_getD, e]; rfl, ?_⟩
    have := (L.2 h.toNat _ e).1
    rwa [show ((h.toNat : Nat) : Int) = h by omega] at this
  unfold tG
  rw [decide_eq_true L.1, Bool.true_and, Bool.and_eq_true]
  refine ⟨mQ fun j a b ha hb' => ?_, mQ fun j h l hh hl => ?_⟩
  · obtain ⟨m, hlt2⟩ := L.2 j a ha
    have hj : j < n.toNat := by rw [<- L.1]; exact (List.getElem?_eq_some_iff.mp ha).1
    have eb : b = ((hs.count (j : Int) : Nat) : Int) := by
      unfold aO at hb'
      rw [List.getElem?_map, jK hj] at hb'
      exact (Option.some.inj hb').symm
    have := m.le
    show (decide (a = b) || decide (a = b - 1)) = true
    rw [Bool.or_eq_true, decide_eq_true_iff, decide_eq_true_iff]
    omega
  · show (l.all fun o => decide (lv.getD h.toNat 0 <= lv.getD o.toNat 0)) = true
    rw [List.all_eq_true]
    intro o ho
    obtain ⟨_, _, _, hws⟩ := bS hb
    obtain ⟨o0, o1⟩ := (bJ (hws l (List.mem_of_getElem? hl))).2.1 o ho
    obtain ⟨h0, h1⟩ := hr h (List.mem_of_getElem? hh)
    obtain ⟨v, _, e2, m⟩ := hat h h0 h1
    obtain ⟨u, _, e4, m2⟩ := hat o o0 o1
    refine decide_eq_true ?_
    rw [e2, e4]
    by_cases e : o = h
    · rw [e] at e4; rw [<- e2, <- e4]; exact Int.le_refl _
    · exact m.edge m2 ⟨hh, l, hl, ho, e⟩
theorem aCs {x : Int} (h0 : 0 <= x) (h1 : x <= 12) : x * (x + 1) / 2 = aJ ((bF 12).map fun t => max (x - t) 0) := by
  rw [aDl h0 h1, Int.mul_ediv_cancel_left _ (by decide)]
theorem rO {n : Int} {hs : List Int} (hl : hs.length <= 12) : cP n hs = aJ ((bF 12).map fun t => ex t (aO n hs)) := by
  unfold cP ex
  rw [<- vJ]
  refine hX fun x hx => ?_
  have := iQ hx
  exact aCs this.1 (by omega)
theorem vP {n : Int} {hs hs' : List Int} (hl : hs.length <= 12) (hl' : hs'.length <= 12) (h : ∀ t, ex t (aO n hs) <= ex t (aO n hs')) : cP n hs <= cP n hs' := by
  rw [rO hl, rO hl']
  exact pB fun t _ => h t
theorem pG {n : Int} {hs hs' : List Int} (h : (aO n hs).Perm (aO n hs')) : cP n hs = cP n hs' := pA (h.map _)
section
variable {P : Program} {w : World} {K : PySem.W.Frag} {mg : Str -> Option Value} {base : Heap}
variable {fW fH fK fB fNB fD fND fL : Addr} {dW dH dK dB dNB dD dND dL : FuncData}
def aBF (K : PySem.W.Frag) (Pt : Addr) : Sp := fun vs H Q _ => ∃ (x y z : V) (n : Int) (ws : List (List Int)) (hs be lv : List Int), vs = [x, y, z] /\ cL K H x y n ws hs /\ cL K H x z n ws be /\ dZ n ws be lv /\ H Pt = some (.tab sY) /\ ∀ H', aE H H' -> Q (.bl true) H'
theorem mR : FnScope ["book", "deal", "best", "told", "steps", "last", "some"] ["book", "deal", "best"] (aH yH) := ⟨rfl, rfl, rfl, by decide +kernel, rfl, by decide +kernel, by decide +kernel⟩
set_option maxHeartbeats 2000000 in
theorem aCt {f fLw fBt fOw fF fL' fT fA Pt : Addr} {fd dLw dBt dOw dF dL' dT dA : FuncData} (G : Fn K mg "_law_b_from" yH ["book", "deal", "best"] f fd) (B : Bl mg) (R : Pr K mg fW fH fK fB fNB fD fND fL dW dH dK dB dNB dD dND dL)
    (GLw : Fn K mg "levels_or_way" wQ ["book", "deal"] fLw dLw) (OLw : FnOk P w K mg base CX0 8 fLw dLw ["book", "deal"] (qZ K Pt)) (GBt : Fn K mg "bettered" gO ["book", "deal"] fBt dBt) (OBt : FnOk P w K mg base CX0 10 fBt dBt ["book", "deal"] (iU K Pt))
    (GOw : Fn K mg "_law_b_one_way" nF ["book", "deal", "some"] fOw dOw) (OOw : FnOk P w K mg base CX0 10 fOw dOw ["book", "deal", "some"] (vN K)) (GFa : Fn K mg "falling" gX ["book", "deal"] fF dF) (GNl : Fn K mg "no_less_even" aBc ["book", "one", "other"] fL' dL') (GWs : Fn K mg "waits" kQ ["book", "deal"] fT dT) (GAl : Fn K mg "are_levels" jQ ["book", "deal", "levels"] fA dA) : FnOk P w K mg base CX0 11 f fd ["book", "deal", "best"] (aBF K Pt) := by
  have OFa : FnOk P w K mg base CX0 8 fF dF ["book", "deal"] (jZ K) := kX GFa B R
  have ONl : FnOk P w K mg base CX0 9 fL' dL' ["book", "one", "other"] (aBv K) := aBw GNl B R GFa
  have OWs : FnOk P w K mg base CX0 8 fT dT ["book", "deal"] (nK K) := oZ GWs B R
  have OAl : FnOk P w K mg base CX0 8 fA dA ["book", "deal", "levels"] (aBC K) := rH GAl B R
  refine G.fn.ok mR (fun vs H Q E h => ?_) (fun cdv A outer s H vs Q E hr h => ?_)
  · obtain ⟨x, y, z, n, ws, hs, be, lv, rfl, _⟩ := h
    rfl
  · obtain ⟨x, y, z, n, ws, hs, be, lv, rfl, g, gb, L, hT, k⟩ := h
    have r8 : Room 8 _ := hr.mono (by decide)
    have r9 : Room 9 _ := hr.mono (by decide)
    have r10 : Room 10 _ := hr
    refine ⟨_, (aD (aU (i := 3) mR.nd rfl (Or.inl rfl) (aQ GLw OLw r8 rfl (aA (pv 0) (aA (pv 1) aC))))
    (aD (bR (PW.pt (gE (aN gN (aQ GNl ONl r9 rfl (aA (pv 0) (aA (pv 2) (aA (pv 1) aC)))) cF (aS _)) (eI (aN tN (aQ GWs OWs r8 rfl (aA (pv 0) (aA (pv 2) aC))) (aQ GWs OWs r8 rfl (aA (pv 0) (aA (pv 1) aC))) (aS _)))))
      (aF (aM cF))
      aW)
    (aD (bR (aN lB (eY hJ (bC bP (pv 3) aG (fun _ _ => rfl)) lX (aS _)) (aQ GNl ONl r9 rfl (aA (pv 0) (aA (pv 1) (aA (pv 2) aC)))) (aS _))
      (aF (aM cF))
      aW)
    (aD (bR (PW.pt (vS (aN hJ (bC bP (pv 3) aG (fun _ _ => rfl)) lX (aS _)) (rS (aN gN (aQ GAl OAl r8 rfl (aA (pv 0) (aA (pv 1) (aA (bC bP (pv 3) aG (fun _ _ => rfl)) aC)))) cF (aS _)))))
      (aF (aM cF))
      aW)
    (aD (gR (aQ GBt OBt r10 rfl (aA (pv 0) (aA (pv 1) aC))) (fU rfl (aT (aK (i := 4) mR.nd rfl (Or.inl rfl)) (aT (aK (i := 5) mR.nd rfl (Or.inl rfl)) cT))))
    (aD (eW PassesOwn.never rfl (lA (pv 4)) (aK (i := 6) mR.nd rfl (Or.inl rfl))
      (aD (aU (i := 1) mR.nd rfl (Or.inl rfl) (aQ GOw OOw r10 rfl (aA (pv 0) (aA (pv 1) (aA (pv 6) aC)))))
    (aF (bR (aN aCW (pv 1) rR (aS _))
      (aF (aM cF))
      aW))))
    (aF (aM (kK (eY (wE hr.u64) (pv 1) (pv 5) (aS _)) (lY (eY (wE hr.u64) (aQ GFa OFa r8 rfl (aA (pv 0) (aA (pv 5) aC))) (aQ GFa OFa r8 rfl (aA (pv 0) (aA (pv 2) aC))) (aS _)))))))))))), ?_⟩
    have hb := g.2.1
    have hd := g.2.2.2
    have hdb := gb.2.2.2
    have hl12 : hs.length <= 12 := g.len.1
    have hlb : be.length <= 12 := gb.len.1
    have hex := fun t => eP hb hdb hd L t
    refine ⟨_, rfl, _, rfl, x, y, n, ws, hs, rfl, g, hT, fun tp H1 s1 TD => ?_⟩
    refine ⟨_, rfl, _, rfl, _, rfl, x, z, y, n, ws, be, hs, rfl, gb.same s1, g.same s1, fun H2 ms ys s2 p1 w1 p2 w2 => ?_⟩
    rw [eF (by rw [aL, aL]) hex p1 p2 w2]
    refine ⟨true, true, rfl, rfl, _, rfl, ?_⟩
    refine eD ?_
    have s12 := s1.trans s2
    refine ⟨_, rfl, _, rfl, x, z, n, ws, be, rfl, gb.same s12, fun H3 s3 => ?_⟩
    have s13 := s12.trans s3
    refine ⟨_, rfl, _, rfl, x, y, n, ws, hs, rfl, g.same s13, fun H4 s4 => ?_⟩
    refine ⟨_, _, rfl, rfl, _, rfl, ?_⟩
    rw [decide_eq_false (show ¬ cP n be > cP n hs by have := vP hlb hl12 hex; omega)]
    refine eD ?_
    have s14 := s13.trans s4
    have s1t := (s2.trans s3).trans s4
    dsimp only [aCv]
    refine yU (fun σ' H' => σ' = [some x, some y, some z, some (.ref tp), none, none, none] /\ aE H1 H') (fun N hN => ?_) ?_
    · rcases TD with ⟨q, lw, t1, t2, L2⟩ | ⟨q, ps, ss, t1, _, t2, t3, W⟩
      · refine ⟨_, rfl, tp, _, 0, .str "levels", rfl, rfl, SqT.of (s1t _ _ t1), rfl, rfl, ?_⟩
        refine ⟨_, rfl, _, rfl, _, rfl, x, y, z, n, ws, hs, be, rfl, g.same s14, gb.same s14, fun H5 ms ys s5 p1 w1 p2 w2 => ?_⟩
        rw [eF (by rw [aL, aL]) (fun t => eP hb hd hdb L2 t) p1 p2 w2]
        refine ⟨rfl, _, rfl, ?_⟩
        refine eD ?_
        exact hN _ _ ⟨rfl, s1t.trans s5⟩
      · refine ⟨_, rfl, tp, _, 0, .str "way", rfl, rfl, SqT.of (s1t _ _ t1), rfl, rfl, ?_⟩
        refine ⟨_, rfl, _, rfl, _, rfl, x, y, z, n, ws, hs, be, rfl, g.same s14, gb.same s14, fun H5 ms ys s5 p1 w1 p2 w2 => ?_⟩
        have hno : cM ms ys = false := by
          cases hc : cM ms ys with
          | false => rfl
          | true =>
            exfalso
            have e := rC (by rw [p1.length_eq, p2.length_eq, aL, aL]) hc (eF (by rw [aL, aL]) hex p2 p1 w1)
            have hw : cP n hs = cP n be := pG (p1.symm.trans (by rw [e]; exact p2))
            obtain ⟨_, m2⟩ := rN g W
            have gg : cW ws (cG (cS hs ss)) = true := kY (Ws := [ss]) ⟨W, rfl⟩ hd
            have := vP hlb (by rw [jY]; exact hl12) fun t => eP hb hdb gg L t
            omega
        rw [hno]
        refine ⟨rfl, _, rfl, ?_⟩
        refine eD ?_
        exact hN _ _ ⟨rfl, s1t.trans s5⟩
    rintro _ H5 ⟨rfl, s5⟩
    refine yU (fun σ' H' => σ' = [some x, some y, some z, some (.ref tp), none, none, none] /\ aE H1 H') (fun N hN => ?_) ?_
    · rcases TD with ⟨q, lw, t1, t2, L2⟩ | ⟨q, ps, ss, t1, _, t2, t3, W⟩
      · refine ⟨_, rfl, tp, _, 0, .str "levels", rfl, rfl, SqT.of (s5 _ _ t1), rfl, rfl, _, rfl, ?_⟩
        refine iA ?_
        refine ⟨_, rfl, _, rfl, _, rfl, tp, _, 1, .ref q, rfl, rfl, SqT.of (s5 _ _ t1), rfl, x, y, q, n, ws, hs, lw, rfl, g.same (s1.trans s5), SqT.of (s5 _ _ t2), fun H6 s6 => ?_⟩
        rw [aBE hb hd L2]
        refine ⟨true, true, rfl, rfl, _, rfl, ?_⟩
        refine eD ?_
        exact hN _ _ ⟨rfl, s5.trans s6⟩
      · refine ⟨_, rfl, tp, _, 0, .str "way", rfl, rfl, SqT.of (s5 _ _ t1), rfl, rfl, _, rfl, ?_⟩
        refine eD ?_
        refine eD ?_
        exact hN _ _ ⟨rfl, s5⟩
    rintro _ H6 ⟨rfl, s6⟩
    have s06 := s1.trans s6
    refine ⟨_, rfl, _, rfl, x, y, n, ws, hs, rfl, g.same s06, s06 _ _ hT, fun bp H7 s7 TB => ?_⟩
    obtain ⟨wl, dl, qs, Ws, he, le, b1, b2, b3, b4, b5, b6, b7⟩ := TB
    have s07 := s06.trans s7
    refine ⟨bp, _, rfl, SqT.of b1, rfl, _, _, rfl, _, _, rfl, rfl, ?_⟩
    refine ⟨_, rfl, wl, rfl, ⟨_, SqL.of b2⟩, tK (K := K) (a := wl) (xs := qs.map V.ref) (fun j σ H8 => ∃ (d : V) (v6 : Option V) (hc : List Int), σ = [some x, some d, some z, some (.ref tp), some (.ref wl), some (.ref dl), v6] /\ aE H7 H8 /\ cL K H8 x d n ws hc /\ kG n ws hc (Ws.drop j) he)
      ⟨y, _, hs, rfl, aE.refl _, g.same s07, b6⟩ (fun j σ H8 _ ⟨_, _, _, _, s8, _⟩ => SqL.of (s8 _ _ b2)) ?_ ?_⟩
    · rintro j pv σ H8 hpv ⟨d, v6, hc, rfl, s8, g8, c8⟩
      rw [List.getElem?_map] at hpv
      obtain ⟨q, hq, rfl⟩ : ∃ q, qs[j]? = some q /\ V.ref q = pv := by
        cases z : qs[j]? with
        | none => rw [z] at hpv; cases hpv
        | some p => rw [z] at hpv; exact ⟨p, rfl, Option.some.inj hpv⟩
      have hjs : j < Ws.length := by rw [<- b3.len]; exact (List.getElem?_eq_some_iff.mp hq).1
      have es : Ws[j]? = some Ws[j] := List.getElem?_eq_getElem hjs
      have ed : Ws.drop j = Ws[j] :: Ws.drop (j + 1) := List.drop_eq_getElem_cons hjs
      generalize Ws[j] = ss at es ed
      rw [ed] at c8
      obtain ⟨W, c9⟩ := c8
      obtain ⟨ps, q1, q2⟩ := b3.at_ j q ss hq es
      refine ⟨_, rfl, _, rfl, _, rfl, x, d, q, ps, ss, n, ws, hc, rfl, g8, s8 _ _ q1, q2.tp (Tp.of s8), W, fun d' H9 s9 hd' g9 => ?_⟩
      refine ⟨_, rfl, rfl, _, rfl, ?_⟩
      refine eD ?_
      exact ⟨.ref d', _, cS hc ss, rfl, s8.trans s9, g9, c9⟩
    · rintro σ H8 ⟨d, v6, hc, rfl, s8, g8, c8⟩
      rw [List.length_map, b3.len, List.drop_length] at c8
      have ehe : hc = he := c8
      subst ehe
      have hdl : Den K H8 (cG hc) (.ref dl) := aZ.mpr ⟨dl, rfl, SqT.of (s8 _ _ b5)⟩
      have gl : cL K H8 x (.ref dl) n ws hc := ⟨g8.1, g8.2.1, hdl, g8.2.2.2⟩
      refine ⟨_, rfl, _, rfl, cG hc, cG hc, g8.2.2.1, hdl, lO _, lO _, lN _, lN _, _, rfl, ?_⟩
      rw [show PyData.eqv (cG hc) (cG hc) = true from (zZ hc hc).trans (decide_eq_true rfl)]
      refine iA ?_
      have s08 := s07.trans s8
      refine ⟨_, rfl, _, rfl, x, .ref dl, n, ws, hc, rfl, gl, fun p1 H9 ms s9 _ hp1 pm1 pw1 => ?_⟩
      refine ⟨_, rfl, _, rfl, x, z, n, ws, be, rfl, gb.same (s08.trans s9), fun p2 H10 ys s10 _ hp2 pm2 pw2 => ?_⟩
      have e : ms = ys := pE (by rw [aL, aL]) (fun t => eP hb g8.2.2.2 hdb b7 t) (fun t => eP hb hdb g8.2.2.2 L t) pm1 pm2 pw1 pw2
      refine ⟨.list (ms.map .int), .list (ys.map .int), fX.mpr ⟨p1, rfl, SqL.of (s10 _ _ hp1)⟩, fX.mpr ⟨p2, rfl, SqL.of hp2⟩, cR _, cR _, dY _, dY _, ?_⟩
      rw [mJ, decide_eq_true e]
      exact k _ ((s08.trans s9).trans s10)
end
end Ab
set_option Elab.async false
set_option linter.all false
set_option maxRecDepth 100000
namespace Ab
open PySem L2
theorem rP : ∀ {l m : List Int}, l.Pairwise (· < ·) -> m.Pairwise (· < ·) -> (∀ k, k ∈ l ↔ k ∈ m) -> l = m
  | [], [], _, _, _ => rfl
  | [], b :: m, _, _, h => absurd ((h b).mpr (List.mem_cons_self ..)) List.not_mem_nil
  | a :: l, [], _, _, h => absurd ((h a).mp (List.mem_cons_self ..)) List.not_mem_nil
  | a :: l, b :: m, hl, hm, h => by
    obtain ⟨l1, l2⟩ := List.pairwise_cons.mp hl
    obtain ⟨m1, m2⟩ := List.pairwise_cons.mp hm
    have e : a = b := by
      rcases List.mem_cons.mp ((h a).mp (List.mem_cons_self ..)) with z | z
      · exact z
      · rcases List.mem_cons.mp ((h b).mpr (List.mem_cons_self ..)) with y | y
        · exact y.symm
        · have := m1 a z; have := l1 b y; omega
    subst e
    refine congrArg _ (rP l2 m2 fun k => ⟨fun hk => ?_, fun hk => ?_⟩)
    · rcases List.mem_cons.mp ((h k).mp (List.mem_cons_of_mem _ hk)) with z | z
      · have := l1 k hk; omega
      · exact z
    · rcases List.mem_cons.mp ((h k).mpr (List.mem_cons_of_mem _ hk)) with z | z
      · have := m1 k hk; omega
      · exact z
def bW (c : List Int) (h : Int) : Int := c.getD h.toNat 0
theorem aBG {c : List Int} {n : Nat} (h : c.length = n) : (bF n).map (bW c) = c := by
  apply List.ext_getElem?
  intro i
  rw [List.getElem?_map]
  by_cases hi : i < n
  · rw [jK hi]
    show some (c.getD ((i : Int)).toNat 0) = _
    rw [Int.toNat_natCast, List.getD_eq_getElem?_getD, List.getElem?_eq_getElem (by omega)]
    rfl
  · rw [List.getElem?_eq_none (by rw [cC]; omega), List.getElem?_eq_none (by omega)]
    rfl
theorem aAf {c : List Int} {n : Nat} (h : c.Perm (bF n)) : ((bF n).map (bW c)).Perm (bF n) := by
  rw [aBG (by rw [h.length_eq, cC])]
  exact h
def dI (n : Int) (c l : List Int) : List Int := (bF n.toNat).filter fun x => decide (x ∈ l.map (bW c))
theorem rQ (n : Nat) : (bF n).Pairwise (· < ·) := by
  unfold bF
  rw [List.pairwise_map]
  exact List.Pairwise.imp (fun h => by omega) (List.pairwise_lt_range)
theorem yV {c : List Int} {n : Nat} (h : c.Perm (bF n)) {x : Int} (h0 : 0 <= x) (h1 : x < n) : 0 <= bW c x /\ bW c x < n := by
  have hl : x.toNat < c.length := by rw [h.length_eq, cC]; omega
  have hm : bW c x ∈ c := by
    unfold bW
    rw [List.getD_eq_getElem?_getD, List.getElem?_eq_getElem hl]
    exact List.getElem_mem hl
  have := h.mem_iff.mp hm
  unfold bF at this
  obtain ⟨i, hi, e⟩ := List.mem_map.mp this
  have := List.mem_range.mp hi
  omega
theorem aBH {c : List Int} {n : Nat} (h : c.Perm (bF n)) {x y : Int} (x0 : 0 <= x) (x1 : x < n) (y0 : 0 <= y) (y1 : y < n) (e : bW c x = bW c y) : x = y := by
  have hn : c.Nodup := h.nodup_iff.mpr (pF n)
  have hx : x.toNat < c.length := by rw [h.length_eq, cC]; omega
  have hy : y.toNat < c.length := by rw [h.length_eq, cC]; omega
  have : x.toNat = y.toNat := (List.getElem?_inj hx hn).mp (by
    unfold bW at e
    rw [List.getD_eq_getElem?_getD, List.getD_eq_getElem?_getD, List.getElem?_eq_getElem hx, List.getElem?_eq_getElem hy] at e
    rw [List.getElem?_eq_getElem hx, List.getElem?_eq_getElem hy]
    exact congrArg some e)
  omega
theorem pH {n : Int} {c l : List Int} (hp : c.Perm (bF n.toNat)) (hl : ∀ x ∈ l, 0 <= x /\ x < n) (x : Int) : x ∈ dI n c l ↔ ∃ h ∈ l, bW c h = x := by
  unfold dI
  rw [List.mem_filter, decide_eq_true_iff, List.mem_map]
  refine ⟨fun z => z.2, fun z => ⟨?_, z⟩⟩
  obtain ⟨h, hh, rfl⟩ := z
  have := hl h hh
  have := yV hp this.1 (by omega)
  unfold bF
  exact List.mem_map.mpr ⟨(bW c h).toNat, List.mem_range.mpr (by omega), by omega⟩
theorem aAg {n : Int} {c l : List Int} (hp : c.Perm (bF n.toNat)) (hw : cA n (bX l) = true) : cA n (bX (dI n c l)) = true := by
  obtain ⟨l0, l1, l2⟩ := bJ hw
  have hm := pH hp l1
  refine iR (fun z => ?_) (fun x hx => ?_) (List.Pairwise.filter _ (rQ _))
  · cases l with
    | nil => exact l0 rfl
    | cons y l => exact List.not_mem_nil (z ▸ (hm (bW c y)).mpr ⟨y, List.mem_cons_self .., rfl⟩)
  · obtain ⟨h, hh, rfl⟩ := (hm x).mp hx
    have := l1 h hh
    have := yV hp this.1 (by omega)
    omega
theorem vQ {n : Int} {c l ms : List Int} (hp : c.Perm (bF n.toNat)) (hw : cA n (bX l) = true) (hm : ms.Perm (l.map (bW c))) (hs : ms.Pairwise (· <= ·)) : ms = dI n c l := by
  obtain ⟨l0, l1, l2⟩ := bJ hw
  have hnd : (l.map (bW c)).Nodup := by
    unfold List.Nodup
    rw [List.pairwise_map]
    refine List.Pairwise.imp_of_mem (fun {a b} ha hb hab z => ?_) l2
    have := aBH hp (l1 a ha).1 (by have := l1 a ha; omega) (l1 b hb).1 (by have := l1 b hb; omega) z
    omega
  have hms : ms.Nodup := hm.nodup_iff.mpr hnd
  refine rP ?_ (List.Pairwise.filter _ (rQ _)) fun k => ?_
  · exact List.Pairwise.imp₂ (fun a b (h1 : a <= b) (h2 : a ≠ b) => by omega) hs hms
  · rw [show k ∈ ms ↔ k ∈ l.map (bW c) from hm.mem_iff]
    show _ ↔ k ∈ dI n c l
    rw [pH hp l1, List.mem_map]
theorem aAh {n : Int} {c : List Int} {ws ws' : List (List Int)} (hb : cI (cK n ws) = true) (hp : c.Perm (bF n.toNat)) (hw : ws'.Perm (ws.map (dI n c))) : Called n (bW c) (dI n c) ws ws' :=
  ⟨aAf hp, fun l hl x => pH hp (bJ ((bS hb).2.2.2 l hl)).2.1 x, hw⟩
theorem vR {α : Type} (xs : List α) (x : α) (r : Nat) : (xs.take r ++ x :: xs.drop r).Perm (xs ++ [x]) := by
  have h1 : (xs.take r ++ x :: xs.drop r).Perm (x :: (xs.take r ++ xs.drop r)) := List.perm_middle
  rw [List.take_append_drop] at h1
  exact h1.trans (List.perm_append_singleton x xs).symm
theorem xM {K : PySem.W.Frag} {H : Hp} (i : Nat) {ds : List PyData} {vs : List V} {d : PyData} {v : V} (h : aV K H ds vs) (hd : Den K H d v) : aV K H (ds.take i ++ d :: ds.drop i) (vs.take i ++ v :: vs.drop i) := by
  have key : ∀ (i : Nat) {ds : List PyData} {vs : List V}, aV K H ds vs -> aV K H (ds.take i) (vs.take i) /\ aV K H (ds.drop i) (vs.drop i) := by
    intro i
    induction i with
    | zero => intro ds vs h; exact ⟨bD.mpr rfl, h⟩
    | succ i ih =>
      intro ds vs h
      cases ds with
      | nil => rw [bD.mp h]; exact ⟨bD.mpr rfl, bD.mpr rfl⟩
      | cons e ds =>
        obtain ⟨v, r, rfl, h1, h2⟩ := aX.mp h
        exact ⟨aX.mpr ⟨v, r.take i, rfl, h1, (ih h2).1⟩, (ih h2).2⟩
  exact gB (key i h).1 (aX.mpr ⟨v, _, rfl, hd, (key i h).2⟩)
section
variable {P : Program} {w : World} {K : PySem.W.Frag} {mg : Str -> Option Value} {base : Heap}
def yW (K : PySem.W.Frag) : Sp := fun vs H Q _ => ∃ (t a : Addr) (ns : List Int) (x : V) (n : Int) (ws : List (List Int)), vs = [.ref t, x] /\ eV K H t a ns /\ Den K H (cK n ws) x /\ cI (cK n ws) = true /\ ∀ (p : Addr) (us : List (List Int)) (cl : List Int) H', cI (cK n us) = true -> Called n (bW cl) (dI n cl) ws us -> But t H H' -> eV K H' t a ns -> Den K H' (cK n us) (.ref p) -> Q (.ref p) H'
theorem lU : FnScope ["tape", "book", "called", "k", "works", "able"] ["tape", "book"] (aH oK) := ⟨rfl, rfl, rfl, by decide +kernel, rfl, by decide +kernel, by decide +kernel⟩
set_option maxHeartbeats 2000000 in
theorem aBI {f fD : Addr} {fd fdD : FuncData} (G : Fn K mg "_law_b_otherwise" oK ["tape", "book"] f fd) (B : Bl mg) (GD : Fn K mg "_law_b_digit" kR ["tape", "many"] fD fdD) (OD : FnOk P w K mg base CX0 2 fD fdD ["tape", "many"] (jU K)) : FnOk P w K mg base CX0 3 f fd ["tape", "book"] (yW K) := by
  refine G.fn.ok lU (fun vs H Q E h => ?_) (fun cdv A outer s H vs Q E hr h => ?_)
  · obtain ⟨t, a, ns, x, n, ws, rfl, _⟩ := h
    rfl
  · obtain ⟨t, a, ns, x, n, ws, rfl, T, hx, hbk, k⟩ := h
    have r2 : Room 2 _ := hr
    refine ⟨_, (aD (aU (i := 2) lU.nd rfl (Or.inr rfl) (gI aC))
    (aD (eW PassesOwn.never rfl (eQ rfl B.range (aA (bC bP (pv 1) aG (fun _ _ => rfl)) aC)) (aK (i := 3) lU.nd rfl (Or.inl rfl))
      (aF (eA (lF PySem.F.plainAttrs_list PySem.F.slot_list_insert PySem.F.type_list_insert qO (pv 2) (aA (aQ GD OD r2 rfl (aA (pv 0) (aA (bK dQ (pv 3) aG) aC))) (aA (pv 3) aC))))))
    (aD (aU (i := 4) lU.nd rfl (Or.inl rfl) (gI aC))
    (aD (eW PassesOwn.never rfl (gS (bC bP (pv 1) aG (fun _ _ => rfl))) (aK (i := 5) lU.nd rfl (Or.inl rfl))
      (aF (eA (lF PySem.F.plainAttrs_list PySem.F.slot_list_insert PySem.F.type_list_insert qO (pv 4) (aA (aQ GD OD r2 rfl (aA (pv 0) (aA (bK dQ (aP bA rfl B.len fP (aA (pv 4) aC)) aG) aC))) (aA (bT bN rfl B.tuple cH (aA (aP tW rfl B.sorted uR (aA (dJ (own := ["hand"]) (fr := [2]) (frn := ["called"]) (bU (aH oK) ["tape", "book", "called", "k", "works", "able"] rfl rfl (by decide +kernel)) rfl (gS (pv 5))
        (fun _ _ _ _ => (aK (i := 0) (show (["hand", "called"] : List Str).Nodup by decide +kernel) rfl (Or.inl rfl))) (fun _ _ _ _ => fV)
        (fun _ _ _ _ => (bC (aAS (K := K) rfl) (pv 1) (pv 0) (fun _ _ => rfl)))) aC)) aC)) aC))))))
    (aF (aM (iN (aA (bC bP (pv 1) aG (fun _ _ => rfl)) (aA (bT bN rfl B.tuple cH (aA (pv 4) aC)) aC))))))))), ?_⟩
    obtain ⟨hn1, hn6, hw12, hws⟩ := bS hbk
    refine ⟨hV (show 0 <= 1000 by decide), fun cp hcp => ?_⟩
    have nct : cp ≠ t := T.ne hcp
    have Fc : Far K a cp ns := wX T.2 hcp
    have s1 := aE.new (o := .lst []) hcp
    have T1 := T.same s1
    have c1 : upd H cp (.lst []) cp = some (.lst (([] : List Int).map V.int)) := aB
    have hx1 := s1.den _ _ hx
    have b01 : But t H (upd H cp (.lst [])) := But.of s1
    generalize upd H cp (.lst []) = H1 at s1 T1 c1 hx1 b01 ⊢
    obtain ⟨ba, b, ys, rfl, ha, hb2, hys⟩ := fM hx1
    have hlw := aR hys
    rw [List.length_map] at hlw
    refine ⟨_, rfl, ba, _, 0, .int n, rfl, rfl, ha, rfl, n, rfl, by omega, by omega, iE (lo := 0) (n := n.toNat) (fun i σ H5 => ∃ (c : List Int) (v3 v4 v5 : Option V), σ = [some (.ref t), some (.ref ba), some (.ref cp), v3, v4, v5] /\ c.Perm (bF i) /\ H5 cp = some (.lst (c.map V.int)) /\ eV K H5 t a ns /\ But t H H5 /\ SqT K H5 ba [.int n, .ref b] /\ SqT K H5 b ys /\ aV K H5 (ws.map bX) ys)
      ⟨[], _, _, _, rfl, List.Perm.refl _, c1, T1, b01, ha, hb2, hys⟩ ?_ ?_⟩
    · rintro i σ H5 hi ⟨c, v3, v4, v5, rfl, hc, c5, T5, b5, ha5, hb5, hys5⟩
      have hcl : c.length = i := by rw [hc.length_eq, cC]
      rw [show (0 : Int) + (i : Int) = (i : Int) by omega]
      refine ⟨_, rfl, .inl ⟨rfl, _, SqL.of c5⟩, _, rfl, _, rfl, _, _, rfl, rfl, t, a, ns, (i : Int) + 1, rfl, T5, by omega, by omega, fun r H6 hr0 hr1 b6 T6 => ?_⟩
      have c6 := b6 _ _ nct c5
      obtain ⟨⟨p5, q5, _, ht5⟩, _⟩ := id T5
      have hys6 := b6.denAll ht5 _ _ (bG _ bH ws) hys5
      refine ⟨_, rfl, cp, _, r, _, rfl, rfl, c6, hr0, by rw [List.length_map]; omega, by rw [List.length_map, sizeLine_eq]; omega, ?_⟩
      rw [show (c.map V.int).take r.toNat ++ V.int (i : Int) :: (c.map V.int).drop r.toNat = (c.take r.toNat ++ (i : Int) :: c.drop r.toNat).map V.int by rw [List.map_append, List.map_cons, List.map_take, List.map_drop]]
      have b7 : But cp H6 (upd H6 cp (.lst ((c.take r.toNat ++ (i : Int) :: c.drop r.toNat).map V.int))) := But.at
      refine ⟨_, _, _, _, rfl, ?_, aB, T6.wr b7 (Ne.symm nct) Fc, fun z o nz hz => ?_, b7.seqT c6 (T5.seqT b6 ha5), b7.seqT c6 (T5.seqT b6 hb5), b7.denAll c6 _ _ (bG _ bH ws) hys6⟩
      · rw [rJ]
        exact (vR c (i : Int) r.toNat).trans (hc.append_right _)
      · rw [aI (fun e => by rw [e, hcp] at hz; cases hz)]
        exact (b5.trans b6) z o nz hz
    · rintro σ H5 ⟨c, v3, v4, v5, rfl, hc, c5, T5, b5, ha5, hb5, hys5⟩
      refine ⟨hV (show 0 <= 1000 by decide), fun wp hwp => ?_⟩
      have hcl : c.length = n.toNat := by rw [hc.length_eq, cC]
      have nwt : wp ≠ t := T5.ne hwp
      have ncw : cp ≠ wp := fun e => by rw [e, hwp] at c5; cases c5
      have Fw : Far K a wp ns := wX T5.2 hwp
      have s6 := aE.new (o := .lst []) hwp
      have T6 := T5.same s6
      have w6 : upd H5 wp (.lst []) wp = some (.lst []) := aB
      have c6 := s6 _ _ c5
      have b6 : But t H5 (upd H5 wp (.lst [])) := But.of s6
      have ha6 := s6.seqT ha5
      have hb6 := s6.seqT hb5
      have hys6 := s6.denAll _ _ hys5
      generalize upd H5 wp (.lst []) = H6 at s6 T6 w6 c6 b6 ha6 hb6 hys6 ⊢
      refine ⟨_, rfl, ba, _, 1, .ref b, rfl, rfl, ha6, rfl, b, rfl, ⟨_, hb6⟩, rV (K := K) (a := b) (xs := ys) (fun i σ H7 => ∃ (us : List (List Int)) (xs : List V) (v3 v5 : Option V), σ = [some (.ref t), some (.ref ba), some (.ref cp), v3, some (.ref wp), v5] /\ us.Perm ((ws.take i).map (dI n c)) /\ H7 wp = some (.lst xs) /\ H7 cp = some (.lst (c.map V.int)) /\ aV K H7 (us.map bX) xs /\ eV K H7 t a ns /\ But t H5 H7 /\ SqT K H7 ba [.int n, .ref b] /\ SqT K H7 b ys /\ aV K H7 (ws.map bX) ys)
        ⟨[], [], _, _, rfl, List.Perm.refl _, w6, c6, bD.mpr rfl, T6, b6, ha6, hb6, hys6⟩ (fun i σ H7 _ ⟨_, _, _, _, _, _, _, _, _, _, _, _, h, _⟩ => h) ?_ ?_⟩
      · rintro i u σ H7 hu ⟨us, xs, v3, v5, rfl, hup, w7, c7, hd7, T7, b7, ha7, hb7, hys7⟩
        obtain ⟨dv, hdv, denv⟩ := cX hys7 hu
        rw [List.getElem?_map] at hdv
        obtain ⟨l, hl, rfl⟩ : ∃ l, ws[i]? = some l /\ bX l = dv := by
          cases q : ws[i]? with
          | none => rw [q] at hdv; cases hdv
          | some l => rw [q] at hdv; exact ⟨l, rfl, Option.some.inj hdv⟩
        have hi12 : i < 12 := by have := (List.getElem?_eq_some_iff.mp hl).1; omega
        have hiw : i < ws.length := (List.getElem?_eq_some_iff.mp hl).1
        have hul : us.length = i := by rw [hup.length_eq, List.length_map, List.length_take]; omega
        have hxl : xs.length = i := by rw [aR hd7, List.length_map, hul]
        have hwl := hws l (List.mem_of_getElem? hl)
        obtain ⟨w1, w2, w3⟩ := bJ hwl
        have hl6 := fY (by omega) w2 w3
        obtain ⟨aw, rfl, haw⟩ := aZ.mp denv
        refine ⟨_, rfl, .inl ⟨rfl, _, SqL.of w7⟩, _, rfl, _, rfl, wp, _, rfl, .inl (SqL.of w7), _, _, rfl, rfl, t, a, ns, (xs.length : Int) + 1, rfl, T7, by omega, by omega, fun r H8 hr0 hr1 b8 T8 => ?_⟩
        have w8 := b8 _ _ nwt w7
        have c8 := b8 _ _ nct c7
        obtain ⟨⟨p5, q5, _, ht7⟩, _⟩ := id T7
        have hd8 := b8.denAll ht7 _ _ (bG _ bH us) hd7
        have hys8 := b8.denAll ht7 _ _ (bG _ bH ws) hys7
        have ha8 := T7.seqT b8 ha7
        have hb8 := T7.seqT b8 hb7
        have haw8 := T7.seqT b8 haw
        refine ⟨_, rfl, aw, rfl, ⟨_, haw8⟩, iK (K := K) (a := aw) (xs := l.map V.int) (fun σ => ∃ v, σ = [v, some (.ref cp)]) (fun j zs H9 => H9 = H8 /\ zs = ((l.take j).map (bW c)).map V.int) (hV (by rw [List.length_map]; omega)) ⟨none, rfl⟩ ⟨rfl, rfl⟩ (fun j zs H9 z => by rw [z.2, List.length_map, List.length_map, List.length_take]; omega) (fun j zs H9 z => by rw [z.1]; exact haw8) ?_ ?_⟩
        · rintro j zs σ u H9 hu9 ⟨v0, rfl⟩ ⟨rfl, rfl⟩ hz
          obtain ⟨h, hh, rfl⟩ := xF hu9
          obtain ⟨h0, h1⟩ := w2 h (List.mem_of_getElem? hh)
          have hlt : h.toNat < c.length := by omega
          have hat : atI (c.map V.int) h = some (.int (bW c h)) := by
            have e := eC (xs := c.map V.int) (j := h.toNat) (v := .int (bW c h)) (by unfold bW; rw [List.getElem?_map, List.getD_eq_getElem?_getD, List.getElem?_eq_getElem hlt]; rfl)
            rwa [show ((h.toNat : Nat) : Int) = h by omega] at e
          refine dX ?_
          refine ⟨_, rfl, _, rfl, cp, _, h, _, rfl, rfl, SqL.of c8, hat, hz, ⟨_, rfl⟩, rfl, ?_⟩
          rw [List.take_succ, hh, List.map_append, List.map_append]
          rfl
        rintro zs H9 ⟨rfl, rfl⟩ lp hlp
        rw [List.length_map, List.take_of_length_le (Nat.le_refl _)]
        refine ⟨lp, l.map (bW c), rfl, .inl (SqL.of aB), by rw [List.length_map]; omega, fun sp ms hsp hperm hsort => ?_⟩
        have ems := vQ hc hwl hperm hsort
        subst ems
        refine ⟨sp, _, rfl, .inl ⟨SqL.of aB, fun tq htq => ?_⟩⟩
        have s10 := ((aE.new (o := .lst ((l.map (bW c)).map V.int)) hlp).trans (aE.new (o := .lst ((dI n c l).map V.int)) hsp)).trans (aE.new (o := .tup ((dI n c l).map V.int)) htq)
        have t10 : upd (upd (upd H9 lp (.lst ((l.map (bW c)).map V.int))) sp (.lst ((dI n c l).map V.int))) tq (.tup ((dI n c l).map V.int)) tq = some (.tup ((dI n c l).map V.int)) := aB
        generalize upd (upd (upd H9 lp (.lst ((l.map (bW c)).map V.int))) sp (.lst ((dI n c l).map V.int))) tq (.tup ((dI n c l).map V.int)) = H10 at s10 t10 ⊢
        have w10 := s10 _ _ w8
        have c10 := s10 _ _ c8
        have T10 := T8.same s10
        have ht10 : Den K H10 (bX (dI n c l)) (.ref tq) := aZ.mpr ⟨tq, rfl, SqT.of t10⟩
        refine ⟨wp, xs, r, _, rfl, rfl, w10, hr0, by omega, by rw [sizeLine_eq]; omega, ?_⟩
        have b11 : But wp H10 (upd H10 wp (.lst (xs.take r.toNat ++ .ref tq :: xs.drop r.toNat))) := But.at
        refine ⟨us.take r.toNat ++ dI n c l :: us.drop r.toNat, _, _, _, rfl, ?_, aB, by rw [aI ncw]; exact c10, ?_, T10.wr b11 (Ne.symm nwt) Fw, fun z o nz hz => ?_, b11.seqT w10 (s10.seqT ha8), b11.seqT w10 (s10.seqT hb8), b11.denAll w10 _ _ (bG _ bH ws) (s10.denAll _ _ hys8)⟩
        · rw [List.take_succ, hl, List.map_append]
          exact (vR us _ r.toNat).trans (hup.append_right _)
        · rw [List.map_append, List.map_cons, List.map_take, List.map_drop]
          exact xM r.toNat (b11.denAll w10 _ _ (bG _ bH us) (s10.denAll _ _ hd8)) (b11.den w10 _ _ (bH _) ht10)
        · rw [aI (fun e => by rw [e, hwp] at hz; cases hz)]
          exact s10 _ _ ((b7.trans b8) z o nz hz)
      · rintro σ H7 ⟨us, xs, v3, v5, rfl, hup, w7, c7, hd7, T7, b7, ha7, hb7, hys7⟩
        rw [hlw, List.take_length] at hup
        refine ⟨_, rfl, ba, _, 0, .int n, rfl, rfl, ha7, rfl, _, rfl, wp, _, rfl, .inl ⟨SqL.of w7, fun q hq => ⟨sz2 _ _, fun p hp => ?_⟩⟩⟩
        have sm := (aE.new (o := .tup xs) hq).trans (aE.new (o := .tup [.int n, .ref q]) hp)
        refine k p us c _ (yN hn1 hn6 (by rw [hup.length_eq, List.length_map]; exact hw12) fun l2 hl2 => ?_) (aAh hbk hc hup) ((b5.trans b7).trans (But.of sm)) (T7.same sm) (qV (SqT.of aB) (SqT.of ((aE.new hp) _ _ aB)) (sm.denAll _ _ hd7))
        obtain ⟨l, hl, rfl⟩ := List.mem_map.mp (hup.mem_iff.mp hl2)
        exact aAg hc (hws l hl)
end
end Ab
set_option Elab.async false
set_option linter.all false
set_option maxRecDepth 100000
namespace Ab
open PySem L2
theorem aBJ {tA tB : TT} {σ : St} {H : Hp} {Q : Bool -> Hp -> Prop} (hA : ∀ R : Bool -> Hp -> Prop, (∀ b, R b H) -> tA σ H R) (hB : ∀ R : Bool -> Hp -> Prop, (∀ b, R b H) -> tB σ H R) (h : ∀ b, Q b H) : aDu tA tB σ H Q := by
  refine hA _ fun b => ?_
  cases b with
  | false => exact eD (h false)
  | true => exact iA (hB _ h)
section
variable {P : Program} {w : World} {K : PySem.W.Frag} {mg : Str -> Option Value} {base : Heap}
variable {fW fH fK fB fNB fD fND fL : Addr} {dW dH dK dB dNB dD dND dL : FuncData}
def yX (K : PySem.W.Frag) (P1 : Addr) : Sp := fun vs H Q _ => ∃ (a : Addr) (ns : List Int), vs = [.ref a] /\ SqL K H a (ns.map V.int) /\ H P1 = some (.tab sY) /\ ∀ H', H' P1 = some (.tab sY) -> Q (.bl true) H'
theorem lV : FnScope ["script", "tape", "k", "book", "best", "marks", "turn", "other", "twin"] ["script"] (aH aDb) := ⟨rfl, rfl, rfl, by decide +kernel, rfl, by decide +kernel, by decide +kernel⟩
set_option maxHeartbeats 2000000 in
theorem aDo {f fB' fDl fO fFr fE fF fT fA fLw P1 : Addr} {fd dB' dDl dO dFr dE dF dT dA dLw : FuncData} (G : Fn K mg "law" aDb ["script"] f fd) (B : Bl mg) (R : Pr K mg fW fH fK fB fNB fD fND fL dW dH dK dB dNB dD dND dL)
    (GB : Fn K mg "_law_b_book" yG ["tape", "hands", "works"] fB' dB') (OB : FnOk P w K mg base CX0 4 fB' dB' ["tape", "hands", "works"] (aBk K))
    (GDl : Fn K mg "_law_b_deal" uU ["tape", "book"] fDl dDl) (ODl : FnOk P w K mg base CX0 3 fDl dDl ["tape", "book"] (aBl K))
    (GOt : Fn K mg "_law_b_otherwise" oK ["tape", "book"] fO dO) (OOt : FnOk P w K mg base CX0 3 fO dO ["tape", "book"] (yW K))
    (GFr : Fn K mg "_law_b_from" yH ["book", "deal", "best"] fFr dFr) (OFr : FnOk P w K mg base CX0 11 fFr dFr ["book", "deal", "best"] (aBF K P1))
    (GEv : Fn K mg "evenest" jI ["book"] fE dE) (OEv : FnOk P w K mg base CX0 11 fE dE ["book"] (rE K P1))
    (GLw : Fn K mg "levels_or_way" wQ ["book", "deal"] fLw dLw) (OLw : FnOk P w K mg base CX0 8 fLw dLw ["book", "deal"] (qZ K P1))
    (GFa : Fn K mg "falling" gX ["book", "deal"] fF dF) (GWs : Fn K mg "waits" kQ ["book", "deal"] fT dT) (GAl : Fn K mg "are_levels" jQ ["book", "deal", "levels"] fA dA) : FnOk P w K mg base CX0 12 f fd ["script"] (yX K P1) := by
  have OFa : FnOk P w K mg base CX0 8 fF dF ["book", "deal"] (jZ K) := kX GFa B R
  have OWs : FnOk P w K mg base CX0 8 fT dT ["book", "deal"] (nK K) := oZ GWs B R
  have OAl : FnOk P w K mg base CX0 8 fA dA ["book", "deal", "levels"] (aBC K) := rH GAl B R
  refine G.fn.ok lV (fun vs H Q E h => ?_) (fun cdv A outer s H vs Q E hr h => ?_)
  · obtain ⟨a, ns, rfl, _⟩ := h
    rfl
  · obtain ⟨a, ns, rfl, hns, hP1, k⟩ := h
    have r3 : Room 3 _ := hr.mono (by decide)
    have r4 : Room 4 _ := hr.mono (by decide)
    have r8 : Room 8 _ := hr.mono (by decide)
    have r11 : Room 11 _ := hr
    refine ⟨_, (aD (aU (i := 1) lV.nd rfl (Or.inl rfl) (gI (aA (pv 0) (aA aG (aA aG aC)))))
    (aD (eW PassesOwn.never rfl (eQ rfl B.range (aA aG aC)) (aK (i := 2) lV.nd rfl (Or.inl rfl))
      (aD (bR (PW.pt (vS (aN tN (pv 2) aG (aS _)) (rS (aN qB (bC bZ (pv 1) aG (fun _ _ => rfl)) (aP bA rfl B.len fP (aA (pv 0) aC)) (aS _)))))
      (aF aAl)
      aW)
    (aD (aU (i := 3) lV.nd rfl (Or.inl rfl) (aQ GB OB r4 rfl (aA (pv 1) (aA aG (aA aG aC)))))
    (aD (gR (aQ GEv OEv r11 rfl (aA (pv 3) aC)) (fU rfl (aT (aK (i := 4) lV.nd rfl (Or.inl rfl)) (aT (aK (i := 5) lV.nd rfl (Or.inl rfl)) cT))))
    (aD (bR (PW.pt (gE (aN gN (aQ GAl OAl r8 rfl (aA (pv 3) (aA (pv 4) (aA (pv 5) aC)))) cF (aS _)) (eI (aN lB (bC bP (aQ GLw OLw r8 rfl (aA (pv 3) (aA (pv 4) aC))) aG (fun _ _ => rfl)) lX (aS _)))))
      (aF (aM cF))
      aW)
    (aD (eW PassesOwn.never rfl (eQ rfl B.range (aA aG aC)) (aK (i := 6) lV.nd rfl (Or.inl rfl))
      (aF (bR (dM (eG (aQ GFr OFr r11 rfl (aA (pv 3) (aA (aQ GDl ODl r3 rfl (aA (pv 1) (aA (pv 3) aC))) (aA (pv 4) aC))))))
      (aF (aM cF))
      aW)))
    (aD (aU (i := 7) lV.nd rfl (Or.inl rfl) (aQ GOt OOt r3 rfl (aA (pv 1) (aA (pv 3) aC))))
    (aD (aU (i := 8) lV.nd rfl (Or.inl rfl) (bC bP (aQ GEv OEv r11 rfl (aA (pv 7) aC)) aG (fun _ _ => rfl)))
    (aF (bR (PW.pt (gE (aN (aAC hr.u64) (aQ GFa OFa r8 rfl (aA (pv 7) (aA (pv 8) aC))) (aQ GFa OFa r8 rfl (aA (pv 3) (aA (pv 4) aC))) (aS _)) (eI (aN lB (aQ GWs OWs r8 rfl (aA (pv 7) (aA (pv 8) aC))) (aQ GWs OWs r8 rfl (aA (pv 3) (aA (pv 4) aC))) (aS _)))))
      (aF (aM cF))
      aW))))))))))
    (aF (aM cF)))), ?_⟩
    refine ⟨_, rfl, hV (show 3 <= 1000 by decide), fun t ht => ?_⟩
    have hTape : eV K (upd H t (.lst [.ref a, .int 0, .int 0])) t a ns := ⟨⟨0, 0, by decide, aB⟩, (aE.new ht).seqL hns⟩
    have nP1 : P1 ≠ t := fun z => by rw [z, ht] at hP1; cases hP1
    have p1 := (aE.new (o := .lst [.ref a, .int 0, .int 0]) ht) _ _ hP1
    generalize upd H t (.lst [.ref a, .int 0, .int 0]) = H1 at hTape p1 ⊢
    refine ⟨3, rfl, by decide, by decide, iE (lo := 0) (n := 3) (fun i σ H2 => (∃ v2 v3 v4 v5 v6 v7 v8, σ = [some (.ref a), some (.ref t), v2, v3, v4, v5, v6, v7, v8]) /\ eV K H2 t a ns /\ H2 P1 = some (.tab sY)) ⟨⟨_, _, _, _, _, _, _, rfl⟩, hTape, p1⟩ ?_ ?_⟩
    · rintro i σ H2 hi ⟨⟨v2, v3, v4, v5, v6, v7, v8, rfl⟩, T2, e1⟩
      obtain ⟨⟨p2, q2, hp2, ht2⟩, hns2⟩ := id T2
      refine aBJ (fun R hR => ⟨_, rfl, _, _, rfl, rfl, _, rfl, hR _⟩) (fun R hR => ⟨_, rfl, t, _, 1, .int p2, rfl, rfl, SqL.of ht2, rfl, _, rfl, a, _, rfl, .inl hns2, _, _, rfl, rfl, _, rfl, hR _⟩) (fun b => ?_)
      refine cN (fun _ => ?_) (fun _ => ?_)
      · exact k _ e1
      refine ⟨_, rfl, t, a, ns, rfl, T2, fun n ws bp H3 hb b3 T3 hbk => ?_⟩
      have f3 := b3 _ _ nP1 e1
      refine ⟨_, rfl, .ref bp, n, ws, rfl, hbk, hb, f3, fun ep dp lp hs lv H4 s4 hep hdp hd hlp L => ?_⟩
      refine ⟨ep, _, rfl, SqT.of hep, rfl, _, _, rfl, _, _, rfl, rfl, ?_⟩
      have g4 : cL K H4 (.ref bp) (.ref dp) n ws hs := ⟨s4.den _ _ hbk, hb, aZ.mpr ⟨dp, rfl, SqT.of hdp⟩, hd⟩
      refine ⟨_, rfl, _, rfl, _, rfl, .ref bp, .ref dp, lp, n, ws, hs, lv, rfl, g4, SqT.of hlp, fun H5 s5 => ?_⟩
      rw [aBE hb hd L]
      refine ⟨true, true, rfl, rfl, _, rfl, ?_⟩
      refine eD ?_
      refine ⟨_, rfl, _, rfl, .ref bp, .ref dp, n, ws, hs, rfl, g4.same s5, s5 _ _ (s4 _ _ f3), fun tp H6 s6 TD => ?_⟩
      have s36 := (s4.trans s5).trans s6
      rcases TD with ⟨q, lw, t1, t2, L2⟩ | ⟨q, ps, ss, t1, _, t2, t3, W⟩
      rotate_left
      · exact (kJ L W).elim
      refine ⟨tp, _, 0, .str "levels", rfl, rfl, SqT.of t1, rfl, rfl, _, rfl, ?_⟩
      refine eD ?_
      have g6 := g4.same (s5.trans s6)
      have T6 := T3.same s36
      have f6 := s36 _ _ f3
      obtain ⟨⟨p6, q6, _, ht6⟩, _⟩ := id T6
      refine ⟨2, rfl, by decide, by decide, iE (lo := 0) (n := 2) (fun _ σ H7 => (∃ v6 v7 v8, σ = [some (.ref a), some (.ref t), some (.int (0 + (i : Int))), some (.ref bp), some (.ref dp), some (.ref lp), v6, v7, v8]) /\ eV K H7 t a ns /\ But t H6 H7) ⟨⟨_, _, _, rfl⟩, T6, But.refl _ _⟩ ?_ ?_⟩
      · rintro j σ H7 hj ⟨⟨v6, v7, v8, rfl⟩, T7, b7⟩
        have g7 := g6.but b7 ht6
        have f7 := b7 _ _ nP1 f6
        refine ⟨_, rfl, _, rfl, _, rfl, t, a, ns, .ref bp, n, ws, rfl, T7, g7.1, hb, fun hs1 q1 H8 hd1 b8 T8 hq1 => ?_⟩
        obtain ⟨⟨p7, q7, _, ht7⟩, _⟩ := id T7
        have g8 := g7.but b8 ht7
        refine ⟨_, rfl, .ref bp, .ref q1, .ref dp, n, ws, hs1, hs, lv, rfl, ⟨g8.1, hb, hq1, hd1⟩, g8, L, b8 _ _ nP1 f7, fun H9 s9 => ⟨_, rfl, ?_⟩⟩
        refine eD ?_
        exact ⟨⟨_, _, _, rfl⟩, T8.same s9, (b7.trans b8).trans (But.of s9)⟩
      · rintro σ H7 ⟨⟨v6, v7, v8, rfl⟩, T7, b7⟩
        have g7 := g6.but b7 ht6
        have f7 := b7 _ _ nP1 f6
        refine ⟨_, rfl, _, rfl, t, a, ns, .ref bp, n, ws, rfl, T7, g7.1, hb, fun op us cl H8 hub hCa b8 T8 hop => ?_⟩
        obtain ⟨⟨p7, q7, _, ht7⟩, _⟩ := id T7
        have g8 := g7.but b8 ht7
        have f8 := b8 _ _ nP1 f7
        refine ⟨_, rfl, .ref op, n, us, rfl, hop, hub, f8, fun ep2 dp2 lp2 hs2 lv2 H9 s9 hep2 hdp2 hd2 hlp2 L2 => ?_⟩
        refine ⟨ep2, _, 0, .ref dp2, rfl, rfl, SqT.of hep2, rfl, ?_⟩
        have g9 : cL K H9 (.ref op) (.ref dp2) n us hs2 := ⟨s9.den _ _ hop, hub, aZ.mpr ⟨dp2, rfl, SqT.of hdp2⟩, hd2⟩
        refine ⟨_, rfl, _, rfl, .ref op, .ref dp2, n, us, hs2, rfl, g9, fun q1 H10 ms s10 _ hq1 pm1 pw1 => ?_⟩
        refine ⟨_, rfl, _, rfl, .ref bp, .ref dp, n, ws, hs, rfl, g8.same (s9.trans s10), fun q2 H11 ys s11 _ hq2 pm2 pw2 => ?_⟩
        have e := hCa.falling hb hub hd hd2 L L2 pm2 pm1 pw2 pw1
        refine ⟨.list (ms.map .int), .list (ys.map .int), fX.mpr ⟨q1, rfl, SqL.of (s11 _ _ hq1)⟩, fX.mpr ⟨q2, rfl, SqL.of hq2⟩, cR _, cR _, dY _, dY _, _, rfl, ?_⟩
        rw [mJ, decide_eq_true e]
        refine eD ?_
        have s911 := s10.trans s11
        refine ⟨_, rfl, _, rfl, .ref op, .ref dp2, n, us, hs2, rfl, g9.same s911, fun H12 s12 => ?_⟩
        refine ⟨_, rfl, _, rfl, .ref bp, .ref dp, n, ws, hs, rfl, g8.same ((s9.trans s911).trans s12), fun H13 s13 => ?_⟩
        have ew : cP n hs2 = cP n hs := pG (pm1.symm.trans (by rw [e]; exact pm2))
        rw [ew]
        refine ⟨rfl, _, rfl, ?_⟩
        rw [show ∀ v : V, (!decide (v = v)) = false from fun v => by simp]
        refine eD ?_
        have sl := ((s9.trans s911).trans s12).trans s13
        exact ⟨⟨_, _, _, _, _, _, _, rfl⟩, T8.same sl, sl _ _ f8⟩
    · rintro σ H2 ⟨_, _, e1⟩
      exact k _ e1
end
end Ab
set_option Elab.async false
set_option linter.all false
set_option maxRecDepth 100000
namespace Ab
open PySem L2 PyProof.Rows
theorem cE {K : PySem.W.Frag} {h : Heap} {mg : Str -> Option Value} (X : K.In h) (G : h.Ns mainGlobals mg) {x : Str} {st : Stmt} {ps : List Str} {f : Addr} {oc : Value} {od an : Option Addr} {osl : Array (Option Value)} {kV doc pm cdv ct : Value}
    (hb : ∀ (kV doc pm : Value) (an : Option Addr) (cdv ct : Value) (us : List Value), us.length = ps.length -> bindArgs (PySem.W.fnOf x x (hU st) (gA st) (aH st) .none kV doc pm an cdv ct) ⟨us, []⟩ = pure (ps.zip us))
    (a : PySem.W.nsIn K mainGlobals x = some (some (.ref f))) (l : K.lookup f = some ⟨oc, od, .func (PySem.W.fnOf x x (hU st) (gA st) (aH st) .none kV doc pm an cdv ct), osl⟩) (c : PySem.W.codeIn K cdv x = true) (k : PySem.W.keepIn K (.ref f) = true) :
    ∃ f fd, Fn K mg x st ps f fd := by
  have F := aAy (st := st) l c k
  exact ⟨f, _, F, PySem.W.mg_of X G a, k, F.binds hb⟩
theorem aDp {K : PySem.W.Frag} {h : Heap} {mg : Str -> Option Value} (X : K.In h) (G : h.Ns mainGlobals mg) {x : Str} {st : Stmt} {ps : List Str} {f : Addr} {oc : Value} {od an : Option Addr} {osl : Array (Option Value)} {kV doc pm cdv ct : Value}
    (hb : ∀ (kV doc pm : Value) (an : Option Addr) (cdv ct : Value) (us : List Value), us.length = ps.length -> bindArgs (PySem.W.fnOf x x (hU st) (gA st) (aH st) .none kV doc pm an cdv ct) ⟨us, []⟩ = pure (ps.zip us))
    (a : PySem.W.nsIn K mainGlobals x = some (some (.ref f))) (l : K.lookup f = some ⟨oc, od, .func (PySem.W.fnOf x x (hU st) (gA st) (aH st) .none kV doc pm an cdv ct), osl⟩) (c : PySem.W.codeIn K cdv x = true) (k : PySem.W.keepIn K (.ref f) = true) :
    ∃ f fd, Fn K mg x st ps f fd /\ fd.code = cdv := by
  have F := aAy (st := st) l c k
  exact ⟨f, _, ⟨F, PySem.W.mg_of X G a, k, F.binds hb⟩, rfl⟩
theorem aD0 {K : PySem.W.Frag} {h : Heap} {mg : Str -> Option Value} (X : K.In h) (G : h.Ns mainGlobals mg) {t6 t12 : Tok}
    (z0 : PySem.W.nsIn K mainGlobals "isinstance" = some none)
    (z1 : PySem.W.nsIn K mainGlobals "int" = some none)
    (z2 : PySem.W.nsIn K mainGlobals "bool" = some none)
    (z3 : PySem.W.nsIn K mainGlobals "tuple" = some none)
    (z4 : PySem.W.nsIn K mainGlobals "list" = some none)
    (z5 : PySem.W.nsIn K mainGlobals "len" = some none)
    (z6 : PySem.W.nsIn K mainGlobals "all" = some none)
    (z7 : PySem.W.nsIn K mainGlobals "zip" = some none)
    (z8 : PySem.W.nsIn K mainGlobals "range" = some none)
    (z9 : PySem.W.nsIn K mainGlobals "sorted" = some none)
    (z10 : PySem.W.nsIn K mainGlobals "set" = some none)
    (z11 : PySem.W.nsIn K mainGlobals "sum" = some none)
    (z12 : PySem.W.nsIn K mainGlobals "repr" = some none)
    (z13 : PySem.W.nsIn K mainGlobals "enumerate" = some none)
    (z14 : PySem.W.nsIn K mainGlobals "min" = some none)
    (z15 : PySem.W.nsIn K mainGlobals "any" = some none)
    (zA : PySem.W.nsIn K mainGlobals "MOST_HANDS" = some (some (.int 6 t6))) (zB : PySem.W.nsIn K mainGlobals "MOST_WORKS" = some (some (.int 12 t12))) : Bl mg :=
  ⟨PySem.W.mg_none_of X G z0, PySem.W.mg_none_of X G z1, PySem.W.mg_none_of X G z2, PySem.W.mg_none_of X G z3, PySem.W.mg_none_of X G z4, PySem.W.mg_none_of X G z5, PySem.W.mg_none_of X G z6, PySem.W.mg_none_of X G z7, PySem.W.mg_none_of X G z8, PySem.W.mg_none_of X G z9, PySem.W.mg_none_of X G z10, PySem.W.mg_none_of X G z11, PySem.W.mg_none_of X G z12, PySem.W.mg_none_of X G z13, PySem.W.mg_none_of X G z14, PySem.W.mg_none_of X G z15, ⟨_, PySem.W.mg_of X G zA⟩, ⟨_, PySem.W.mg_of X G zB⟩⟩
theorem aCu {l : PySem.W.OpenLaw} {w : World} {K : PySem.W.Frag} {mg : Str -> Option Value} {fa c Pt : Addr} (hfa : mg "law" = some (.ref fa)) (B : Bl mg)
    (hLO : ∃ f fd, Fn K mg "levels_or_way" wQ ["book", "deal"] f fd /\ fd.code = .ref c) (hZ : ∀ base : Heap, base.BuiltinsAt mg Pt -> Lm K mg base c Pt)
    (hW : ∃ f fd, Fn K mg "is_whole" kP ["thing"] f fd)
    (hH : ∃ f fd, Fn K mg "are_hands" oG ["thing"] f fd)
    (hKw : ∃ f fd, Fn K mg "is_work" oH ["hands", "thing"] f fd)
    (hBP : ∃ f fd, Fn K mg "is_book" oI ["thing"] f fd)
    (hDP : ∃ f fd, Fn K mg "is_deal" sM ["book", "thing"] f fd)
    (hNB : ∃ f fd, Fn K mg "need_book" wN ["book"] f fd)
    (hND : ∃ f fd, Fn K mg "need_deal" wO ["book", "deal"] f fd)
    (hC : ∃ f fd, Fn K mg "counted" jG ["hands", "deal"] f fd)
    (hL : ∃ f fd, Fn K mg "loads" wP ["book", "deal"] f fd)
    (hFA : ∃ f fd, Fn K mg "falling" gX ["book", "deal"] f fd)
    (hNL : ∃ f fd, Fn K mg "no_less_even" aBc ["book", "one", "other"] f fd)
    (hWS : ∃ f fd, Fn K mg "waits" kQ ["book", "deal"] f fd)
    (hHD : ∃ f fd, Fn K mg "handing" jH ["book", "deal"] f fd)
    (hRC : ∃ f fd, Fn K mg "reached" lL ["rows", "first"] f fd)
    (hWT : ∃ f fd, Fn K mg "way_to" sN ["found", "last"] f fd)
    (hST : ∃ f fd, Fn K mg "is_step" oJ ["book", "deal", "step"] f fd)
    (hWY : ∃ f fd, Fn K mg "is_way" uS ["book", "deal", "some"] f fd)
    (hNW : ∃ f fd, Fn K mg "need_way" mH ["book", "deal", "some"] f fd)
    (hGO : ∃ f fd, Fn K mg "gone" uT ["book", "deal", "some"] f fd)
    (hBE : ∃ f fd, Fn K mg "betters" lM ["book", "deal", "some"] f fd)
    (hAL : ∃ f fd, Fn K mg "are_levels" jQ ["book", "deal", "levels"] f fd)
    (hBT : ∃ f fd, Fn K mg "bettered" gO ["book", "deal"] f fd)
    (hEV : ∃ f fd, Fn K mg "evenest" jI ["book"] f fd)
    (hS : ∃ f fd, Fn K mg "_law_b_stirred" yF ["cell", "at"] f fd)
    (hD : ∃ f fd, Fn K mg "_law_b_digit" kR ["tape", "many"] f fd)
    (hWK : ∃ f fd, Fn K mg "_law_b_work" qQ ["tape", "hands", "kind"] f fd)
    (hBK : ∃ f fd, Fn K mg "_law_b_book" yG ["tape", "hands", "works"] f fd)
    (hDL : ∃ f fd, Fn K mg "_law_b_deal" uU ["tape", "book"] f fd)
    (hOW : ∃ f fd, Fn K mg "_law_b_one_way" nF ["book", "deal", "some"] f fd)
    (hFR : ∃ f fd, Fn K mg "_law_b_from" yH ["book", "deal", "best"] f fd)
    (hOT : ∃ f fd, Fn K mg "_law_b_otherwise" oK ["tape", "book"] f fd)
    (hLW : ∃ f fd, Fn K mg "law" aDb ["script"] f fd)
    : ∃ fd : FuncData, (∀ (s : Shared) (v : Value), BindsTo s fd ⟨[v], []⟩ [("script", v)]) /\ ∀ base : Heap, K.In base -> base.Ns mainGlobals mg -> base.BuiltinsAt mg Pt -> FnOk l.prog w K mg base CX0 12 fa fd ["script"] (yX K Pt) := by
  obtain ⟨fLO, dLO, LO, hc⟩ := hLO
  obtain ⟨fW, dW, W⟩ := hW
  obtain ⟨fH, dH, H⟩ := hH
  obtain ⟨fKw, dKw, Kw⟩ := hKw
  obtain ⟨fBP, dBP, BP⟩ := hBP
  obtain ⟨fDP, dDP, DP⟩ := hDP
  obtain ⟨fNB, dNB, NB⟩ := hNB
  obtain ⟨fND, dND, ND⟩ := hND
  obtain ⟨fC, dC, C⟩ := hC
  obtain ⟨fL, dL, L⟩ := hL
  obtain ⟨fFA, dFA, FA⟩ := hFA
  obtain ⟨fNL, dNL, NL⟩ := hNL
  obtain ⟨fWS, dWS, WS⟩ := hWS
  obtain ⟨fHD, dHD, HD⟩ := hHD
  obtain ⟨fRC, dRC, RC⟩ := hRC
  obtain ⟨fWT, dWT, WT⟩ := hWT
  obtain ⟨fST, dST, ST⟩ := hST
  obtain ⟨fWY, dWY, WY⟩ := hWY
  obtain ⟨fNW, dNW, NW⟩ := hNW
  obtain ⟨fGO, dGO, GO⟩ := hGO
  obtain ⟨fBE, dBE, BE⟩ := hBE
  obtain ⟨fAL, dAL, AL⟩ := hAL
  obtain ⟨fBT, dBT, BT⟩ := hBT
  obtain ⟨fEV, dEV, EV⟩ := hEV
  obtain ⟨fS, dS, S⟩ := hS
  obtain ⟨fD, dD, D⟩ := hD
  obtain ⟨fWK, dWK, WK⟩ := hWK
  obtain ⟨fBK, dBK, BK⟩ := hBK
  obtain ⟨fDL, dDL, DL⟩ := hDL
  obtain ⟨fOW, dOW, OW⟩ := hOW
  obtain ⟨fFR, dFR, FR⟩ := hFR
  obtain ⟨fOT, dOT, OT⟩ := hOT
  obtain ⟨fLW, dLW, LW⟩ := hLW
  have e := hfa.symm.trans LW.mgx
  cases e
  have R : Pr K mg fW fH fKw fBP fNB fDP fND fL dW dH dKw dBP dNB dDP dND dL := ⟨W, H, Kw, BP, NB, DP, ND, ⟨fC, dC, C⟩, L⟩
  refine ⟨dLW, fun s v => ?_, fun base _ _ hBu => ?_⟩
  · obtain ⟨oc, od, kV, doc, pm, an, cdv, ct, osl, rfl, lk, hcd⟩ := LW.fn.ex
    exact .of_eq rfl
  · have Z := hZ base hBu
    have OD : FnOk l.prog w K mg base CX0 2 fD dD ["tape", "many"] (jU K) := aBi D B S
    have OW' : FnOk l.prog w K mg base CX0 3 fWK dWK ["tape", "hands", "kind"] (wW K) := aCi WK B D OD
    have OL : FnOk l.prog w K mg base CX0 8 fLO dLO ["book", "deal"] (qZ K Pt) := aDi LO hc Z B R HD RC WT
    have OBt : FnOk l.prog w K mg base CX0 10 fBT dBT ["book", "deal"] (iU K Pt) := vG BT B LO OL GO (yQ GO B NW (vD NW B R WY ST))
    exact aDo LW B R BK (aCj BK B D OD WK OW') DL (aCk DL B D OD) OT (aBI OT B D OD) FR (aCt FR B R LO OL BT OBt OW (aAe OW B R WY ST NW BE GO FA NL WS) FA NL WS AL) EV (xH EV B R BT OBt LO OL) LO OL FA WS AL
theorem walk {l : PySem.W.OpenLaw} {q : Program} {loose : List Str} {XP : (Str -> Option Value) -> Heap -> Prop} {YP : World -> Heap -> Prop} {d : DefRec} {K : Params -> PySem.W.Frag} {c Pt : Addr} (hn : l.most = some 63) (hdf : d.params.defaults = []) (hq : importsNone q = true)
    (hY : ∀ (w : World) (h : Heap), YP w h -> (K w.params).In h) (hT : ∀ (w : World) (h : Heap), YP w h -> h.get? Pt = some (PySem.W.tabObj #[]))
    (F : (∀ w : World, PySem.W.codeHdIn (K w.params) c Pt = true) -> ∀ (w : World) (mg : Str -> Option Value) (fa : Addr) (h : Heap), (K w.params).In h -> h.Ns mainGlobals mg -> mg d.name = some (.ref fa) ->
      ∃ fd : FuncData, (∀ (s : Shared) (u : Value), BindsTo s fd ⟨[u], []⟩ [("script", u)]) /\ ∀ base : Heap, (K w.params).In base -> base.Ns mainGlobals mg -> base.BuiltinsAt mg Pt -> FnOk l.prog w (K w.params) mg base CX0 12 fa fd ["script"] (yX (K w.params) Pt))
    (hKP : ∀ w : World, (K w.params).lookup Pt = none) (hC : ∀ w : World, PySem.W.codeHdIn (K w.params) c Pt = true) :
    PySem.W.WalkO q loose XP YP l.row.toRowW d [] (fun f vs => PySem.call f vs) :=
  L2.aA6 (n := 63) (k := 12) (x := "script") (CX := fun _ => CX0) (sp := fun w => yX (K w.params) Pt) (ts := [(Pt, sY)]) hn (by decide) hdf ⟨rfl, by decide, by decide, rfl⟩ hq hY
    (fun w h Y p hp => by rw [List.mem_singleton.mp hp]; exact ⟨hT w h Y, hKP w, c, PySem.W.codeHd_of_K (hY w h Y) (hC w)⟩) (by simp) (fun w mg fa h a b d => let ⟨fd, h1, h2⟩ := F hC w mg fa h a b d; ⟨fd, h1, fun base k1 k2 k3 => h2 base k1 k2 (k3 _ (List.mem_cons_self ..))⟩)
    (fun _ _ a ns _ hO hS => ⟨a, ns, rfl, hS, hO.2 _ (List.mem_cons_self ..), fun H' h => ⟨rfl, fun p hp => by rw [List.mem_singleton.mp hp]; exact h⟩⟩) fun _ _ _ _ _ z => z
end Ab
open PySem PySem.W PyProof.Rows
set_option maxRecDepth 100000 in
set_option maxHeartbeats 0 in
theorem PySem.Challenge.cw_ablehands_k12_whole_by_every_measure_holds : PySem.Challenge.rw_ablehands_k12_whole_by_every_measure.Holds := by
  w_on; o_law; k_head; (case hw => w_witness2)
  k_fill
  refine' Ab.walk (l := PySem.Challenge.rw_ablehands_k12_whole_by_every_measure) rfl rfl (by decide +kernel) (fun w h Y => PySem.W.km_in_of Y) (fun w h Y => PySem.W.km_tabs_of Y _ (List.mem_cons_self ..)) ?F ?KP ?HC
  case F =>
    intro hC w mg fa h KX G hmg
    refine' Ab.aCu hmg ?B ?hLO ?Z ?hW ?hH ?hKw ?hBP ?hDP ?hNB ?hND ?hC ?hL ?hFA ?hNL ?hWS ?hHD ?hRC ?hWT ?hST ?hWY ?hNW ?hGO ?hBE ?hAL ?hBT ?hEV ?hS ?hD ?hWK ?hBK ?hDL ?hOW ?hFR ?hOT ?hLW
    case Z =>
      intro base hb
      exact ⟨hC w, by decide, hb⟩
    case hLO =>
      refine' Ab.aDp KX G (fun _ _ _ _ _ _ us hl => match us, hl with | [_, _], _ => rfl) ?a ?l ?c ?k
      (case a => k_is); (case l => k_is); (case c => k_is); (case k => k_is)
    case B =>
      refine' Ab.aD0 KX G ?z0 ?z1 ?z2 ?z3 ?z4 ?z5 ?z6 ?z7 ?z8 ?z9 ?z10 ?z11 ?z12 ?z13 ?z14 ?z15 ?zA ?zB
      (case z0 => k_is)
      (case z1 => k_is)
      (case z2 => k_is)
      (case z3 => k_is)
      (case z4 => k_is)
      (case z5 => k_is)
      (case z6 => k_is)
      (case z7 => k_is)
      (case z8 => k_is)
      (case z9 => k_is)
      (case z10 => k_is)
      (case z11 => k_is)
      (case z12 => k_is)
      (case z13 => k_is)
      (case z14 => k_is)
      (case z15 => k_is)
      (case zA => k_is)
      (case zB => k_is)
    case hW =>
      refine' Ab.cE KX G (fun _ _ _ _ _ _ us hl => match us, hl with | [_], _ => rfl) ?a ?l ?c ?k
      (case a => k_is); (case l => k_is); (case c => k_is); (case k => k_is)
    case hH =>
      refine' Ab.cE KX G (fun _ _ _ _ _ _ us hl => match us, hl with | [_], _ => rfl) ?a ?l ?c ?k
      (case a => k_is); (case l => k_is); (case c => k_is); (case k => k_is)
    case hKw =>
      refine' Ab.cE KX G (fun _ _ _ _ _ _ us hl => match us, hl with | [_, _], _ => rfl) ?a ?l ?c ?k
      (case a => k_is); (case l => k_is); (case c => k_is); (case k => k_is)
    case hBP =>
      refine' Ab.cE KX G (fun _ _ _ _ _ _ us hl => match us, hl with | [_], _ => rfl) ?a ?l ?c ?k
      (case a => k_is); (case l => k_is); (case c => k_is); (case k => k_is)
    case hDP =>
      refine' Ab.cE KX G (fun _ _ _ _ _ _ us hl => match us, hl with | [_, _], _ => rfl) ?a ?l ?c ?k
      (case a => k_is); (case l => k_is); (case c => k_is); (case k => k_is)
    case hNB =>
      refine' Ab.cE KX G (fun _ _ _ _ _ _ us hl => match us, hl with | [_], _ => rfl) ?a ?l ?c ?k
      (case a => k_is); (case l => k_is); (case c => k_is); (case k => k_is)
    case hND =>
      refine' Ab.cE KX G (fun _ _ _ _ _ _ us hl => match us, hl with | [_, _], _ => rfl) ?a ?l ?c ?k
      (case a => k_is); (case l => k_is); (case c => k_is); (case k => k_is)
    case hC =>
      refine' Ab.cE KX G (fun _ _ _ _ _ _ us hl => match us, hl with | [_, _], _ => rfl) ?a ?l ?c ?k
      (case a => k_is); (case l => k_is); (case c => k_is); (case k => k_is)
    case hL =>
      refine' Ab.cE KX G (fun _ _ _ _ _ _ us hl => match us, hl with | [_, _], _ => rfl) ?a ?l ?c ?k
      (case a => k_is); (case l => k_is); (case c => k_is); (case k => k_is)
    case hFA =>
      refine' Ab.cE KX G (fun _ _ _ _ _ _ us hl => match us, hl with | [_, _], _ => rfl) ?a ?l ?c ?k
      (case a => k_is); (case l => k_is); (case c => k_is); (case k => k_is)
    case hNL =>
      refine' Ab.cE KX G (fun _ _ _ _ _ _ us hl => match us, hl with | [_, _, _], _ => rfl) ?a ?l ?c ?k
      (case a => k_is); (case l => k_is); (case c => k_is); (case k => k_is)
    case hWS =>
      refine' Ab.cE KX G (fun _ _ _ _ _ _ us hl => match us, hl with | [_, _], _ => rfl) ?a ?l ?c ?k
      (case a => k_is); (case l => k_is); (case c => k_is); (case k => k_is)
    case hHD =>
      refine' Ab.cE KX G (fun _ _ _ _ _ _ us hl => match us, hl with | [_, _], _ => rfl) ?a ?l ?c ?k
      (case a => k_is); (case l => k_is); (case c => k_is); (case k => k_is)
    case hRC =>
      refine' Ab.cE KX G (fun _ _ _ _ _ _ us hl => match us, hl with | [_, _], _ => rfl) ?a ?l ?c ?k
      (case a => k_is); (case l => k_is); (case c => k_is); (case k => k_is)
    case hWT =>
      refine' Ab.cE KX G (fun _ _ _ _ _ _ us hl => match us, hl with | [_, _], _ => rfl) ?a ?l ?c ?k
      (case a => k_is); (case l => k_is); (case c => k_is); (case k => k_is)
    case hST =>
      refine' Ab.cE KX G (fun _ _ _ _ _ _ us hl => match us, hl with | [_, _, _], _ => rfl) ?a ?l ?c ?k
      (case a => k_is); (case l => k_is); (case c => k_is); (case k => k_is)
    case hWY =>
      refine' Ab.cE KX G (fun _ _ _ _ _ _ us hl => match us, hl with | [_, _, _], _ => rfl) ?a ?l ?c ?k
      (case a => k_is); (case l => k_is); (case c => k_is); (case k => k_is)
    case hNW =>
      refine' Ab.cE KX G (fun _ _ _ _ _ _ us hl => match us, hl with | [_, _, _], _ => rfl) ?a ?l ?c ?k
      (case a => k_is); (case l => k_is); (case c => k_is); (case k => k_is)
    case hGO =>
      refine' Ab.cE KX G (fun _ _ _ _ _ _ us hl => match us, hl with | [_, _, _], _ => rfl) ?a ?l ?c ?k
      (case a => k_is); (case l => k_is); (case c => k_is); (case k => k_is)
    case hBE =>
      refine' Ab.cE KX G (fun _ _ _ _ _ _ us hl => match us, hl with | [_, _, _], _ => rfl) ?a ?l ?c ?k
      (case a => k_is); (case l => k_is); (case c => k_is); (case k => k_is)
    case hAL =>
      refine' Ab.cE KX G (fun _ _ _ _ _ _ us hl => match us, hl with | [_, _, _], _ => rfl) ?a ?l ?c ?k
      (case a => k_is); (case l => k_is); (case c => k_is); (case k => k_is)
    case hBT =>
      refine' Ab.cE KX G (fun _ _ _ _ _ _ us hl => match us, hl with | [_, _], _ => rfl) ?a ?l ?c ?k
      (case a => k_is); (case l => k_is); (case c => k_is); (case k => k_is)
    case hEV =>
      refine' Ab.cE KX G (fun _ _ _ _ _ _ us hl => match us, hl with | [_], _ => rfl) ?a ?l ?c ?k
      (case a => k_is); (case l => k_is); (case c => k_is); (case k => k_is)
    case hS =>
      refine' Ab.cE KX G (fun _ _ _ _ _ _ us hl => match us, hl with | [_, _], _ => rfl) ?a ?l ?c ?k
      (case a => k_is); (case l => k_is); (case c => k_is); (case k => k_is)
    case hD =>
      refine' Ab.cE KX G (fun _ _ _ _ _ _ us hl => match us, hl with | [_, _], _ => rfl) ?a ?l ?c ?k
      (case a => k_is); (case l => k_is); (case c => k_is); (case k => k_is)
    case hWK =>
      refine' Ab.cE KX G (fun _ _ _ _ _ _ us hl => match us, hl with | [_, _, _], _ => rfl) ?a ?l ?c ?k
      (case a => k_is); (case l => k_is); (case c => k_is); (case k => k_is)
    case hBK =>
      refine' Ab.cE KX G (fun _ _ _ _ _ _ us hl => match us, hl with | [_, _, _], _ => rfl) ?a ?l ?c ?k
      (case a => k_is); (case l => k_is); (case c => k_is); (case k => k_is)
    case hDL =>
      refine' Ab.cE KX G (fun _ _ _ _ _ _ us hl => match us, hl with | [_, _], _ => rfl) ?a ?l ?c ?k
      (case a => k_is); (case l => k_is); (case c => k_is); (case k => k_is)
    case hOW =>
      refine' Ab.cE KX G (fun _ _ _ _ _ _ us hl => match us, hl with | [_, _, _], _ => rfl) ?a ?l ?c ?k
      (case a => k_is); (case l => k_is); (case c => k_is); (case k => k_is)
    case hFR =>
      refine' Ab.cE KX G (fun _ _ _ _ _ _ us hl => match us, hl with | [_, _, _], _ => rfl) ?a ?l ?c ?k
      (case a => k_is); (case l => k_is); (case c => k_is); (case k => k_is)
    case hOT =>
      refine' Ab.cE KX G (fun _ _ _ _ _ _ us hl => match us, hl with | [_, _], _ => rfl) ?a ?l ?c ?k
      (case a => k_is); (case l => k_is); (case c => k_is); (case k => k_is)
    case hLW =>
      refine' Ab.cE KX G (fun _ _ _ _ _ _ us hl => match us, hl with | [_], _ => rfl) ?a ?l ?c ?k
      (case a => k_is); (case l => k_is); (case c => k_is); (case k => k_is)
  case KP => intro w; first | k_is | kernel_rfl
  case HC => intro w; kernel_rfl
