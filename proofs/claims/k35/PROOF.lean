import PyProof.Rows.All
import Wide.All
import OpenK.AllK
import Wide.FinOn
import PyProof.EqAt
import PyProof.EqKinds
import PyProof.TupleCall
import PyProof.DictCompW
import PyProof.WalksMore
import PyProof.MinMaxWalk
import PyProof.DictDisplay
import PyProof.DictWalks
import Lean
import PySem.Challenge.RW_ablehands_k35_loads_that_grow_and_fall
def PySem.W.Fast.tw12601375959674752062 : Nat := 0
def PySem.W.Fast.tw5022261546370095032 : Nat := 0
def PySem.W.Fast.tw14419282700797507997 : Nat := 0
def PySem.W.Fast.tw15884677483407024009 : Nat := 0
def PySem.W.Fast.tw18329989283850216591 : Nat := 0
def PySem.W.Fast.tw1238901007455707658 : Nat := 0
def PySem.W.Fast.tw5021372032000007751 : Nat := 0
def PySem.W.Fast.tw8333717132099515895 : Nat := 0
def PySem.W.Fast.tw9927882606086151675 : Nat := 0
def PySem.W.Fast.tw378743214431544480 : Nat := 0
def PySem.W.Fast.tw1430675321137478715 : Nat := 0
def PySem.W.Fast.tw8403807587765702829 : Nat := 0
def PySem.W.Fast.tw14046538732702727133 : Nat := 0
def PySem.W.Fast.tw13003500995688337641 : Nat := 0
def PySem.W.Fast.tw10006114199931090323 : Nat := 0
def PySem.W.Fast.tw299156774222111565 : Nat := 0
def PySem.W.Fast.tw7548161758242547077 : Nat := 0
def PySem.W.Fast.tw8544376551567009092 : Nat := 0
def PySem.W.Fast.tw3076328912492895788 : Nat := 0
def PySem.W.Fast.tw10367566397049443031 : Nat := 0
def PySem.W.Fast.tw15627327499171002721 : Nat := 0
def PySem.W.Fast.tw5217799339979382508 : Nat := 0
def PySem.W.Fast.tw13044814541846886229 : Nat := 0
def PySem.W.Fast.tw899790732982490523 : Nat := 0
def PySem.W.Fast.tw4232309558318990811 : Nat := 0
def PySem.W.Fast.tw16884578767693723373 : Nat := 0
def PySem.W.Fast.tw1121885468399614004 : Nat := 0
def PySem.W.Fast.tw7542615133621108276 : Nat := 0
def PySem.W.Fast.tw14682033002874478390 : Nat := 0
def PySem.W.Fast.tw13134676897580430630 : Nat := 0
def PySem.W.Fast.tw276310204011369608 : Nat := 0
def PySem.W.Fast.tw8342038357363986643 : Nat := 0
def PySem.W.Fast.tw8364739513908984756 : Nat := 0
def PySem.W.Fast.tw2296403534223947437 : Nat := 0
def PySem.W.Fast.tw1301604715667171320 : Nat := 0
def PySem.W.Fast.tw171033176026496875 : Nat := 0
def PySem.W.Fast.tw2258836505416149914 : Nat := 0
def PySem.W.Fast.tw14292411086955320214 : Nat := 0
def PySem.W.Fast.tw14320478434267817974 : Nat := 0
def PySem.W.Fast.tw12903596437901978433 : Nat := 0
def PySem.W.Fast.tw13428818031869112101 : Nat := 0
def PySem.W.Fast.tw5758506208372470120 : Nat := 0
def PySem.W.Fast.tw3827277673790241576 : Nat := 0
def PySem.W.Fast.tw17405713427036597029 : Nat := 0
def PySem.W.Fast.tw13636535239109440609 : Nat := 0
def PySem.W.Fast.tw6065889931874783734 : Nat := 0
def PySem.W.Fast.tw4035174684076945229 : Nat := 0
def PySem.W.Fast.tw5751814733578710051 : Nat := 0
def PySem.W.Fast.tw6388521622923636770 : Nat := 0
def PySem.W.Fast.tw7964173801208216938 : Nat := 0
def PySem.W.Fast.tw14145461905474416878 : Nat := 0
def PySem.W.Fast.tw16075730136641223457 : Nat := 0
def PySem.W.Fast.tw16487770613131110774 : Nat := 0
def PySem.W.Fast.tw5378875242894942309 : Nat := 0
def PySem.W.Fast.tw1159069459225316656 : Nat := 0
def PySem.W.Fast.tw12837610314477181512 : Nat := 0
def PySem.W.Fast.tw9556222518087260262 : Nat := 0
def PySem.W.Fast.tw145113327475403323 : Nat := 0
def PySem.W.Fast.tw4104154751270944114 : Nat := 0
def PySem.W.Fast.tw10076324445552168635 : Nat := 0
def PySem.W.Fast.tw6991742337538659172 : Nat := 0
def PySem.W.Fast.tw6219295362538475013 : Nat := 0
def PySem.W.Fast.tw10384763399214330684 : Nat := 0
def PySem.W.Fast.tw14975344370385343977 : Nat := 0
def PySem.W.Fast.tw17800410717211927735 : Nat := 0
def PySem.W.Fast.tw8458501292088038115 : Nat := 0
def PySem.W.Fast.tw5017724271167806467 : Nat := 0
def PySem.W.Fast.tw6460299411415905842 : Nat := 0
def PySem.W.Fast.tw14616292265857154294 : Nat := 0
def PySem.W.Fast.tw7022985547670969396 : Nat := 0
def PySem.W.Fast.tw16573482056789197750 : Nat := 0
def PySem.W.Fast.tw7767558568029064295 : Nat := 0
def PySem.W.Fast.tw13902531660716284552 : Nat := 0
def PySem.W.Fast.tw11793078718356796387 : Nat := 0
def PySem.W.Fast.tw13302979552421832127 : Nat := 0
def PySem.W.Fast.tw16468015850589657974 : Nat := 0
def PySem.W.Fast.tw12033005200512129231 : Nat := 0
def PySem.W.Fast.tw16831176190560975845 : Nat := 0
def PySem.W.Fast.tw9923820324299262949 : Nat := 0
def PySem.W.Fast.tw13145282010274325902 : Nat := 0
def PySem.W.Fast.tw3942066821190651412 : Nat := 0
def PySem.W.Fast.tw3121439338863837858 : Nat := 0
def PySem.W.Fast.tw8021680660677230604 : Nat := 0
def PySem.W.Fast.tw7526750842777383036 : Nat := 0
def PySem.W.Fast.tw3864342270814034911 : Nat := 0
def PySem.W.Fast.tw7511033532642731611 : Nat := 0
def PySem.W.Fast.tw7489474330424986032 : Nat := 0
def PySem.W.Fast.tw9136387653960544053 : Nat := 0
def PySem.W.Fast.tw10758283638973996749 : Nat := 0
def PySem.W.Fast.tw1287667468860403620 : Nat := 0
def PySem.W.Fast.tw15944415964884789409 : Nat := 0
def PySem.W.Fast.tw3325846404180981156 : Nat := 0
def PySem.W.Fast.tw9032796883178340719 : Nat := 0
def PySem.W.Fast.tw793645654667354757 : Nat := 0
def PySem.W.Fast.tw16202017069721359499 : Nat := 0
def PySem.W.Fast.tw5229361476906163537 : Nat := 0
def PySem.W.Fast.tw14032553036121029864 : Nat := 0
def PySem.W.Fast.tw2072461039093382910 : Nat := 0
def PySem.W.Fast.tw7513842146368350288 : Nat := 0
def PySem.W.Fast.tw1095312309587986858 : Nat := 0
def PySem.W.Fast.tw5328546046140979400 : Nat := 0
def PySem.W.Fast.tw17471648810039057036 : Nat := 0
def PySem.W.Fast.tw11724845969601888467 : Nat := 0
def PySem.W.Fast.tw3606784185839441917 : Nat := 0
def PySem.W.Fast.tw17627458774318892905 : Nat := 0
def PySem.W.Fast.tw12532966705874082937 : Nat := 0
def PySem.W.Fast.tw5391251187108114660 : Nat := 0
def PySem.W.Fast.tw16488779603877944827 : Nat := 0
def PySem.W.Fast.tw13793733649159247163 : Nat := 0
def PySem.W.Fast.tw7212012655139999145 : Nat := 0
def PySem.W.Fast.tw16234405255242520482 : Nat := 0
def PySem.W.Fast.tw15126029252748377814 : Nat := 0
def PySem.W.Fast.tw12265046989954785003 : Nat := 0
def PySem.W.Fast.tw16451296719312711392 : Nat := 0
set_option Elab.async false
set_option linter.all false
set_option maxRecDepth 100000
namespace L2
open PySem PySem.Spec PyProof.Rows
abbrev Key := Sum Int Str
def qC : Key -> Value -> Bool
  | .inl k, v => Value.isInt k v
  | .inr x, v => Value.isStrOf x v
def aD2 (w : World) : Key -> Int
  | .inl k => hashInt k
  | .inr x => hashStr w x
theorem cA : ∀ {k : Key} {v : Value}, qC k v = true -> (∃ i t, k = Sum.inl i /\ v = Value.int i t) ∨ (∃ x t, k = Sum.inr x /\ v = Value.str x t)
  | .inl i, v, h => by
    obtain ⟨t, e⟩ := Value.isInt_shape (k := i) (v := v) h
    exact .inl ⟨i, t, rfl, e⟩
  | .inr x, v, h => by
    obtain ⟨t, e⟩ := Value.isStrOf_shape (x := x) (v := v) h
    exact .inr ⟨x, t, rfl, e⟩
theorem yG (i : Int) (t : Tok) : qC (.inl i) (.int i t) = true := by simp [qC, Value.isInt]
theorem yH (x : Str) (t : Tok) : qC (.inr x) (.str x t) = true := by simp [qC, Value.isStrOf]
theorem aCE (a b : Int) : decide ((Sum.inl a : Key) = Sum.inl b) = (a == b) := by
  by_cases e : a = b
  · subst e; simp
  · have h : ¬ (Sum.inl a : Key) = Sum.inl b := fun q => e (Sum.inl.inj q)
    rw [decide_eq_false h]
    exact (beq_eq_false_iff_ne.mpr e).symm
theorem aCF (a b : Str) : decide ((Sum.inr a : Key) = Sum.inr b) = decide (a = b) := by
  by_cases e : a = b
  · subst e; simp
  · have h : ¬ (Sum.inr a : Key) = Sum.inr b := fun q => e (Sum.inr.inj q)
    rw [decide_eq_false h, decide_eq_false e]
theorem aCG (a : Int) (b : Str) : decide ((Sum.inl a : Key) = Sum.inr b) = false := decide_eq_false (fun q => nomatch q)
theorem aCH (a : Str) (b : Int) : decide ((Sum.inr a : Key) = Sum.inl b) = false := decide_eq_false (fun q => nomatch q)
def bZ (prog : Program) (w : World) : PySem.KeyKind prog w Key where
  is := qC
  hash := aD2 w
  inj := fun v a b ha hb => by
    rcases cA ha with ⟨i, t, rfl, rfl⟩ | ⟨x, t, rfl, rfl⟩
    · rcases cA hb with ⟨j, u, rfl, e⟩ | ⟨y, u, rfl, e⟩
      · injection e with e1 _; rw [e1]
      · exact nomatch e
    · rcases cA hb with ⟨j, u, rfl, e⟩ | ⟨y, u, rfl, e⟩
      · exact nomatch e
      · injection e with e1 _; rw [e1]
  byValue := fun k v h => by
    rcases cA h with ⟨i, t, rfl, rfl⟩ | ⟨x, t, rfl, rfl⟩ <;> rfl
  pyHash := fun hv h => by
    rcases cA hv with ⟨i, t, rfl, rfl⟩ | ⟨x, t, rfl, rfl⟩
    · exact wpAny_pyHash_int h
    · exact wpAny_pyHash_str h
  eqBool := fun hu hv h => by
    rcases cA hu with ⟨i, t, rfl, rfl⟩ | ⟨x, t, rfl, rfl⟩
    · rcases cA hv with ⟨j, u, rfl, rfl⟩ | ⟨y, u, rfl, rfl⟩
      · rw [aCE] at h; exact wpAny_eqBool_int h
      · rw [aCG] at h; exact SeqAt.EqAt.int_str i t y u _ _ _ _ h
    · rcases cA hv with ⟨j, u, rfl, rfl⟩ | ⟨y, u, rfl, rfl⟩
      · rw [aCH] at h; exact SeqAt.EqAt.str_int x t j u _ _ _ _ h
      · rw [aCF] at h; exact wpAny_eqBool_str h
  «strs» := fun k x t v h => by
    rcases cA h with ⟨i, u, rfl, e⟩ | ⟨y, u, rfl, e⟩
    · exact nomatch e
    · injection e with e1 _
      subst e1
      cases v <;> rfl
theorem sI (prog : Program) (w : World) (i : Int) (t : Tok) : (bZ prog w).is (.inl i) (.int i t) = true := yG i t
theorem sJ (prog : Program) (w : World) (x : Str) (t : Tok) : (bZ prog w).is (.inr x) (.str x t) = true := yH x t
end L2
namespace L2
open PySem PySem.Spec PyProof.Rows
inductive V where
  | non | bl (b : Bool) | int (i : Int) | str (x : Str) | byt (b : Array UInt8) | flt (b : UInt64) | ref (a : Addr) | ty (n : String)
  deriving DecidableEq
def bG : V -> Value -> Prop
  | .non, u => u = Value.none
  | .bl b, u => u = Value.bool b
  | .int i, u => ∃ t, u = Value.int i t
  | .str x, u => ∃ t, u = Value.str x t
  | .byt b, u => ∃ t, u = Value.bytes b t
  | .flt b, u => ∃ t, u = Value.float b t
  | .ref a, u => u = Value.ref a
  | .ty n, u => u = Value.type n
abbrev aX : List V -> List Value -> Prop := Paired bG
theorem aX.length {xs : List V} {us : List Value} (r : aX xs us) : xs.length = us.length := Paired.length r
theorem aX.get : ∀ {xs : List V} {us : List Value} {i : Nat} {x : V}, aX xs us -> xs[i]? = some x -> ∃ u, us[i]? = some u /\ bG x u
  | _, _, _, _, .nil, e => by simp at e
  | _, _, 0, _, .cons r _, e => by simp at e; subst e; exact ⟨_, rfl, r⟩
  | _, _, i + 1, x, .cons _ t, e => by
    obtain ⟨u, h1, h2⟩ := aX.get (i := i) (x := x) t (by simpa using e)
    exact ⟨u, by simpa using h1, h2⟩
theorem aX.set {x : V} {u : Value} (r : bG x u) : ∀ {xs : List V} {us : List Value} (i : Nat), aX xs us -> aX (xs.set i x) (us.set i u)
  | _, _, _, .nil => .nil
  | _, _, 0, .cons _ t => .cons r t
  | _, _, i + 1, .cons q t => .cons q (aX.set r i t)
theorem aX.append : ∀ {xs ys : List V} {us ws : List Value}, aX xs us -> aX ys ws -> aX (xs ++ ys) (us ++ ws)
  := by
  intro xs ys us ws h s
  induction h with
  | nil => exact s
  | cons r t ih => exact .cons r ih
theorem aX.take : ∀ {xs : List V} {us : List Value} (n : Nat), aX xs us -> aX (xs.take n) (us.take n)
  | _, _, 0, _ => .nil
  | _, _, _ + 1, .nil => .nil
  | _, _, n + 1, .cons r t => .cons r (aX.take n t)
theorem aX.drop : ∀ {xs : List V} {us : List Value} (n : Nat), aX xs us -> aX (xs.drop n) (us.drop n)
  | _, _, 0, r => r
  | _, _, _ + 1, .nil => .nil
  | _, _, n + 1, .cons _ t => aX.drop n t
def mS : Option V -> Option Value -> Prop
  | some v, some u => bG v u
  | none, none => True
  | _, _ => False
def KV {κ : Type} : List (κ × V) -> List (κ × Value) -> Prop := Paired fun (p : κ × V) (q : κ × Value) => p.1 = q.1 /\ bG p.2 q.2
def kV : Key -> V
  | .inl i => .int i
  | .inr x => .str x
inductive HO where
  /-- a list -/
  | lst (xs : List V)
  /-- a tuple (never changes) -/
  | tup (xs : List V)
  /-- a dict whose keys are ints and texts; one whose keys are tuples of ints and texts (the empty one is both) -/
  | dK (kvs : List (Key × V)) | dT (kvs : List (List Key × V))
  /-- a set of ints: its members, its size -/
  | set (S : Int -> Bool) (n : Nat)
  /-- an instance of the class at C, its dict at dx, its attributes -/
  | ins (C dx : Addr) (fs : List (Str × V))
  /-- the dict of the instance at x -/
  | own (x : Addr)
  /-- the dict of an exception -/
  | xd (fs : List (Str × V))
  /-- a bound method, f of x -/
  | met (f x : Addr)
  /-- a range object lo, lo + 1, .. below hi -/
  | rng (lo hi : Int)
  /-- a thing that is known to the object (the script; a dict while a loop walks it): read, never written while it is so -/
  | frz (o : Obj) (u : HO)
  /-- a code object's table -/
  | tbl (ps : Array Value)
  /-- a code object's table, all of whose codes have the name q; they are tracked as its own -/
  | tab (q : Str)
  /-- any other thing, by what is true of its one object (a def of one's own: aEk a S n := HO.ext fun h => ..) -/
  | ext (φ : Heap -> Prop)
abbrev Hp := Addr -> Option HO
def upd (H : Hp) (a : Addr) (o : HO) : Hp := fun b => if b = a then some o else H b
theorem aC {H : Hp} {a : Addr} {o : HO} : upd H a o a = some o := by unfold upd; rw [if_pos rfl]
theorem aH {H : Hp} {a b : Addr} {o : HO} (h : b ≠ a) : upd H a o b = H b := by unfold upd; rw [if_neg h]
theorem rB {H : Hp} {a : Addr} {o u : HO} : upd (upd H a o) a u = upd H a u := by
  funext b; unfold upd; split <;> rfl
theorem aDm {H : Hp} {a b : Addr} {o u : HO} (h : H a = some o) (h' : H b = some u) (d : o ≠ u) : a ≠ b := by
  intro e; subst e; rw [h] at h'; exact d (Option.some.inj h')
theorem eZ {H : Hp} {a b : Addr} {o : HO} (h : H a = some o) (h' : H b = none) : a ≠ b := by
  intro e; subst e; rw [h] at h'; cases h'
section
variable (P : Program) (w : World)
def bM (H : Hp) (h : Heap) (a : Addr) : HO -> Prop
  | .lst xs => xs.length <= sizeLine /\ ∃ (its : List Value) (n : Nat), aX xs its /\ h.get? a = some { cls := .type "list", data := .seq its.toArray n }
  | .tup xs => xs.length <= sizeLine /\ ∃ (its : List Value) (n : Nat), aX xs its /\ h.get? a = some { cls := .type "tuple", data := .seq its.toArray n }
  | .dK kvs => kvs.length <= sizeLine /\ (a == sysModules) = false /\ ∃ vs, KV kvs vs /\ h.DictOf (bZ P w) a vs
  | .dT kvs => kvs.length <= sizeLine /\ (a == sysModules) = false /\ ∃ xs : List (List Key × Addr × Value),
      Paired (fun (p : List Key × V) (q : List Key × Addr × Value) => p.1 = q.1 /\ H q.2.1 = some (.tup (p.1.map kV)) /\ bG p.2 q.2.2) kvs xs /\
      ∃ o es ep, h.get? a = some o /\ o.ExactDict /\ o.data = .dict es ep /\ es.toList = xs.map (entryOfKey (tupleKind (bZ P w))) /\ (xs.map (·.1)).Nodup
  | .set S n => h.SetOf (intKind P w) a S n
  | .ins C dx fs => H dx = some (.own a) /\ fs.length <= 1000 /\ dx ≠ a /\ h.get? a = some (PySem.W.instObj C dx) /\
      ∃ mA, h.Ns1 dx mA /\ (∀ f, mS (fs.lookup f) (mA f)) /\ PySem.Within mA (fs.map (·.1))
  | .own _ => ∃ o, h.get? a = some o
  | .xd fs => ∃ mA, h.Ns1 a mA /\ ∀ f, mS (fs.lookup f) (mA f)
  | .rng lo hi => ∃ t u v, h.get? a = some { cls := .type "range", data := .fields #[.int lo t, .int hi u, .int 1 v] }
  | .frz o u => h.get? a = some o /\ bM H h a u
  | .tbl ps => h.get? a = some { cls := .none, data := .fields ps }
  | .tab q => ∃ ps : Array Value, h.get? a = some { cls := .none, data := .fields ps } /\ TriplesOk ps.toList /\ ∀ (pos : Pos) (cv : Value), codeAmong pos ps.toList = some cv -> ∃ (c : Addr) (o : Obj) (vs : Array Value) (t : Tok), cv = .ref c /\ H c = some (.own a) /\ h.get? c = some o /\ o.data = .fields vs /\ vs[1]? = some (.str q t)
  | .met f x => h.get? a = some (PySem.W.methodObj (.ref f) (.ref x))
  | .ext φ => φ h /\ (∃ o, h.get? a = some o) /\ ∀ h1 h2 : Heap, φ h1 -> (∀ o, h1.get? a = some o -> h2.get? a = some o) -> φ h2
def HOk (H : Hp) (h : Heap) : Prop := ∀ a o, H a = some o -> bM P w H h a o
end
section
variable {P : Program} {w : World} {H H' : Hp} {h h' : Heap} {a : Addr} {o : HO}
theorem bM.lt (x : bM P w H h a o) : a < h.objs.size := by
  cases o with
  | lst xs => obtain ⟨_, _, _, _, e⟩ := x; exact Heap.lt_size e
  | tup xs => obtain ⟨_, _, _, _, e⟩ := x; exact Heap.lt_size e
  | dK kvs => obtain ⟨_, _, _, _, o, _, _, e, _⟩ := x; exact Heap.lt_size e
  | dT kvs => obtain ⟨_, _, _, _, o, _, _, e, _⟩ := x; exact Heap.lt_size e
  | set S n => obtain ⟨o, _, _, _, e, _⟩ := x; exact Heap.lt_size e
  | ins C dx fs => obtain ⟨_, _, _, e, _⟩ := x; exact Heap.lt_size e
  | own y => obtain ⟨_, e⟩ := x; exact Heap.lt_size e
  | xd fs => obtain ⟨_, ⟨_, _, _, e, _⟩, _⟩ := x; exact Heap.lt_size e
  | rng lo hi => obtain ⟨_, _, _, e⟩ := x; exact Heap.lt_size e
  | frz ob u => obtain ⟨e, _⟩ := x; exact Heap.lt_size e
  | tbl ps => exact Heap.lt_size (show h.get? a = some _ from x)
  | tab q => obtain ⟨_, e, _⟩ := x; exact Heap.lt_size e
  | met f y => exact Heap.lt_size (show h.get? a = some _ from x)
  | ext φ => obtain ⟨_, ⟨_, e⟩, _⟩ := x; exact Heap.lt_size e
theorem Paired.mapP {α β : Type} {F G : α -> β -> Prop} : ∀ {l₁ : List α} {l₂ : List β}, Paired F l₁ l₂ -> (∀ a b, F a b -> G a b) -> Paired G l₁ l₂
  := by
  intro l₁ l₂ h f
  induction h with
  | nil => exact .nil
  | cons r t ih => exact .cons (f _ _ r) ih
theorem bM.stay (x : bM P w H h a o) (k : ∀ b u, (b = a ∨ H b = some (.own a)) -> h.get? b = some u -> h'.get? b = some u)
    (ho : ∀ b, H b = some (.own a) -> H' b = some (.own a)) (ht : ∀ b xs, H b = some (.tup xs) -> H' b = some (.tup xs)) : bM P w H' h' a o := by
  induction o with
  | lst xs => obtain ⟨z, its, n, r, e⟩ := x; exact ⟨z, its, n, r, k _ _ (.inl rfl) e⟩
  | tup xs => obtain ⟨z, its, n, r, e⟩ := x; exact ⟨z, its, n, r, k _ _ (.inl rfl) e⟩
  | dK kvs => obtain ⟨z, y, vs, r, ob, es, ep, e, c⟩ := x; exact ⟨z, y, vs, r, ob, es, ep, k _ _ (.inl rfl) e, c⟩
  | dT kvs =>
    obtain ⟨z, y, xs, r, ob, es, ep, e, c⟩ := x
    exact ⟨z, y, xs, Paired.mapP r fun p q z => ⟨z.1, ht _ _ z.2.1, z.2.2⟩, ob, es, ep, k _ _ (.inl rfl) e, c⟩
  | set S n => obtain ⟨ob, es, ep, t, e, c⟩ := x; exact ⟨ob, es, ep, t, k _ _ (.inl rfl) e, c⟩
  | ins C dx fs =>
    obtain ⟨d, z, ne, e, mA, ⟨od, es, ep, e2, c⟩, r⟩ := x
    exact ⟨ho _ d, z, ne, k _ _ (.inl rfl) e, mA, ⟨od, es, ep, k _ _ (.inr d) e2, c⟩, r⟩
  | own y => obtain ⟨ob, e⟩ := x; exact ⟨ob, k _ _ (.inl rfl) e⟩
  | xd fs => obtain ⟨mA, ⟨od, es, ep, e, c⟩, r⟩ := x; exact ⟨mA, ⟨od, es, ep, k _ _ (.inl rfl) e, c⟩, r⟩
  | rng lo hi => obtain ⟨t, u, v, e⟩ := x; exact ⟨t, u, v, k _ _ (.inl rfl) e⟩
  | frz ob u ih => obtain ⟨e, q⟩ := x; exact ⟨k _ _ (.inl rfl) e, ih q⟩
  | tbl ps =>
    have e : h.get? a = some { cls := .none, data := .fields ps } := x
    show h'.get? a = some { cls := .none, data := .fields ps }
    exact k a _ (.inl rfl) e
  | tab q =>
    obtain ⟨ps, e, z, r⟩ := x
    refine ⟨ps, k _ _ (.inl rfl) e, z, fun pos cv q => ?_⟩
    obtain ⟨c, o, vs, t, r1, r2, r3, r4⟩ := r pos cv q
    exact ⟨c, o, vs, t, r1, ho _ r2, k _ _ (.inr r2) r3, r4⟩
  | met f y =>
    have e : h.get? a = some (PySem.W.methodObj (.ref f) (.ref y)) := x
    show h'.get? a = some (PySem.W.methodObj (.ref f) (.ref y))
    exact k a _ (.inl rfl) e
  | ext φ => obtain ⟨p, ⟨o, e⟩, st⟩ := x; exact ⟨st _ _ p fun o q => k _ _ (.inl rfl) q, ⟨o, k _ _ (.inl rfl) e⟩, st⟩
theorem HOk.lt (x : HOk P w H h) (e : H a = some o) : a < h.objs.size := (x a o e).lt
theorem HOk.fresh (x : HOk P w H h) (e : h.objs.size <= a) : H a = none := by
  cases q : H a with
  | none => rfl
  | some u => exact absurd (Nat.lt_of_lt_of_le (x.lt q) e) (Nat.lt_irrefl _)
theorem HOk.kept (x : HOk P w H h) (k : ∀ b u, h.get? b = some u -> h'.get? b = some u) : HOk P w H h' := fun a o e =>
  (x a o e).stay (fun b u _ q => k b u q) (fun _ q => q) fun _ _ q => q
theorem HOk.laid (x : HOk P w H h) (k : ∀ b u, h.get? b = some u -> h'.get? b = some u) (hp : h.objs.size <= a) (new : bM P w (upd H a o) h' a o) : HOk P w (upd H a o) h' := fun b u e => by
  have hn := x.fresh hp
  by_cases hb : b = a
  · subst hb; rw [aC] at e; cases e; exact new
  · rw [aH hb] at e
    exact (x b u e).stay (fun c v _ q => k c v q) (fun c q => by rw [aH (eZ q hn)]; exact q) fun c xs q => by rw [aH (eZ q hn)]; exact q
end
def Rd (H : Hp) (a : Addr) (u : HO) : Prop := H a = some u ∨ ∃ o, H a = some (.frz o u)
theorem Rd.of {H : Hp} {a : Addr} {u : HO} (h : H a = some u) : Rd H a u := .inl h
theorem Rd.ok {P : Program} {w : World} {H : Hp} {h : Heap} {a : Addr} {u : HO} (r : Rd H a u) (x : HOk P w H h) : bM P w H h a u := by
  rcases r with r | ⟨o, r⟩
  · exact x a u r
  · obtain ⟨_, q⟩ := x a _ r
    exact q
def Mut : Option HO -> Prop
  | some (.lst _) => True
  | some (.dK _) => True
  | some (.dT _) => True
  | some (.set _ _) => True
  | some (.ins _ _ _) => True
  | some (.ext _) => True
  | some (.tab _) => True
  | _ => False
section
variable {P : Program} {w : World} {H : Hp} {h h' : Heap} {x e : Addr} {o' : HO}
theorem HOk.write (ok : HOk P w H h) (mu : Mut (H x)) (he : e = x ∨ H e = some (.own x)) (k : ∀ b u, b ≠ e -> h.get? b = some u -> h'.get? b = some u) (heo : ∃ u, h'.get? e = some u)
    (new : bM P w (upd H x o') h' x o') : HOk P w (upd H x o') h' := fun b u q => by
  have nown : ∀ c y, H c = some (.own y) -> c ≠ x := fun c y r z => by subst z; rw [r] at mu; exact mu
  have ntup : ∀ c xs, H c = some (.tup xs) -> c ≠ x := fun c xs r z => by subst z; rw [r] at mu; exact mu
  by_cases hb : b = x
  · subst hb; rw [aC] at q; cases q; exact new
  · rw [aH hb] at q
    by_cases hbe : b = e
    · have q' : H b = some (.own x) := by
        rcases he with z | z
        · exact absurd (hbe.trans z) hb
        · rw [hbe]; exact z
      rw [q] at q'; cases q'
      obtain ⟨v, hv⟩ := heo
      exact ⟨v, by rw [hbe]; exact hv⟩
    · refine (ok b u q).stay (fun c v hc r => k c v ?_ r) (fun c r => by rw [aH (nown c b r)]; exact r) fun c xs r => by rw [aH (ntup c xs r)]; exact r
      rcases hc with rfl | hc
      · exact hbe
      · rintro rfl
        rcases he with z | z
        · exact nown c b hc z
        · rw [hc] at z; cases z; exact hb rfl
end
structure Un (fs ex : List Addr) (H H' : Hp) (h h' : Heap) : Prop where
  keep : ∀ b o, h.get? b = some o -> H b = none -> b ∉ fs -> b ∉ ex -> h'.get? b = some o
  slot : ∀ b o, h.get? b = some o -> H b = none -> b ∈ fs -> b ∉ ex -> ∃ sl, h'.get? b = some { o with slots := sl }
  free : ∀ b o, h.get? b = some o -> H b = none -> b ∉ ex -> H' b = none
  there : ∀ b o, h.get? b = some o -> b ∉ ex -> ∃ o', h'.get? b = some o'
  tups : ∀ b xs, H b = some (.tup xs) -> H' b = some (.tup xs)
  frzs : ∀ b o u, H b = some (.frz o u) -> H' b = some (.frz o u)
  tbls : ∀ b ps, H b = some (.tbl ps) -> ∃ more, H' b = some (.tbl (ps ++ more))
section
variable {fs fs' ex ex' : List Addr} {H H1 H2 : Hp} {h h1 h2 h' : Heap} {a x e : Addr} {o : HO}
theorem Un.any (u : Un fs ex H H1 h h1) {b : Addr} {ob : Obj} (q : h.get? b = some ob) (n : H b = none) (hx : b ∉ ex) : ∃ sl, h1.get? b = some { ob with slots := sl } := by
  by_cases hb : b ∈ fs
  · exact u.slot b ob q n hb hx
  · exact ⟨ob.slots, u.keep b ob q n hb hx⟩
theorem Un.trans (a : Un fs ex H H1 h h1) (b : Un fs ex H1 H2 h1 h2) : Un fs ex H H2 h h2 where
  keep := fun c ob q n hc hx => b.keep c ob (a.keep c ob q n hc hx) (a.free c ob q n hx) hc hx
  slot := fun c ob q n hc hx => by
    obtain ⟨sl, e1⟩ := a.slot c ob q n hc hx
    obtain ⟨sl', e2⟩ := b.slot c _ e1 (a.free c ob q n hx) hc hx
    exact ⟨sl', e2⟩
  free := fun c ob q n hx => by
    obtain ⟨o', e1⟩ := a.there c ob q hx
    exact b.free c o' e1 (a.free c ob q n hx) hx
  there := fun c ob q hx => by
    obtain ⟨o', e1⟩ := a.there c ob q hx
    exact b.there c o' e1 hx
  tups := fun c xs q => b.tups c xs (a.tups c xs q)
  frzs := fun c ob xs q => b.frzs c ob xs (a.frzs c ob xs q)
  tbls := fun c ps q => by
    obtain ⟨m1, e1⟩ := a.tbls c ps q
    obtain ⟨m2, e2⟩ := b.tbls c _ e1
    exact ⟨m1 ++ m2, by rw [e2, Array.append_assoc]⟩
theorem Un.kept (k : ∀ b u, h.get? b = some u -> h'.get? b = some u) : Un fs ex H H h h' :=
  ⟨fun b ob q _ _ _ => k b ob q, fun b ob q _ _ _ => ⟨ob.slots, k b ob q⟩, fun _ _ _ n _ => n, fun b ob q _ => ⟨ob, k b ob q⟩, fun _ _ q => q, fun _ _ _ q => q, fun _ ps q => ⟨#[], by rw [q]; simp⟩⟩
theorem Un.refl : Un fs ex H H h h := Un.kept fun _ _ q => q
theorem Un.laid (k : ∀ b u, h.get? b = some u -> h'.get? b = some u) (hp : h.objs.size <= a) (hn : H a = none) : Un fs ex H (upd H a o) h h' where
  keep := fun b u q _ _ _ => k b u q
  slot := fun b u q _ _ _ => ⟨u.slots, k b u q⟩
  free := fun b u q n _ => by rw [aH (Nat.ne_of_lt (Nat.lt_of_lt_of_le (Heap.lt_size q) hp))]; exact n
  there := fun b u q _ => ⟨u, k b u q⟩
  tups := fun b xs q => by rw [aH (eZ q hn)]; exact q
  frzs := fun b u xs q => by rw [aH (eZ q hn)]; exact q
  tbls := fun b ps q => ⟨#[], by rw [aH (eZ q hn), q]; simp⟩
theorem Un.write (mu : Mut (H x)) (he : e = x ∨ H e = some (.own x)) (k : ∀ b u, b ≠ e -> h.get? b = some u -> h'.get? b = some u) (heo : ∃ u, h'.get? e = some u) : Un fs ex H (upd H x o) h h' := by
  have hx : ∀ b, H b = none -> b ≠ x := fun b n z => by subst z; rw [n] at mu; exact mu
  have hb : ∀ b, H b = none -> b ≠ e := fun b n z => by
    subst z
    rcases he with r | r
    · exact hx b n r
    · rw [n] at r; cases r
  have hm : ∀ b u, H b = some u -> ¬ Mut (some u) -> b ≠ x := fun b u q nm z => by subst z; rw [q] at mu; exact nm mu
  refine ⟨fun b u q n _ _ => k b u (hb b n) q, fun b u q n _ _ => ⟨u.slots, k b u (hb b n) q⟩, fun b u q n _ => by rw [aH (hx b n)]; exact n, fun b u q _ => ?_,
    fun b xs q => by rw [aH (hm b _ q fun z => z)]; exact q, fun b u xs q => by rw [aH (hm b _ q fun z => z)]; exact q, fun b ps q => ⟨#[], by rw [aH (hm b _ q fun z => z), q]; simp⟩⟩
  by_cases hbe : b = e
  · subst hbe; exact heo
  · exact ⟨u, k b u hbe q⟩
theorem Un.mono (u : Un fs ex H H1 h h1) (hs : ∀ b ∈ fs, b ∈ fs') (hx : ∀ b ∈ ex, b ∈ ex') : Un fs' ex' H H1 h h1 :=
  ⟨fun b ob q n hb he => u.keep b ob q n (fun z => hb (hs b z)) fun z => he (hx b z), fun _ _ q n _ he => u.any q n fun z => he (hx _ z), fun b ob q n he => u.free b ob q n fun z => he (hx b z), fun b ob q he => u.there b ob q fun z => he (hx b z), u.tups, u.frzs, u.tbls⟩
end
def trk (h : Heap) (H : Hp) : List Addr := (List.range h.objs.size).filter fun a => (H a).isSome
def pO (h : Heap) (H : Hp) : Heap := PySem.W.hideAll h (trk h H)
theorem yI (h : Heap) (H : Hp) : (pO h H).objs.size = h.objs.size := PySem.W.hideAll_size _ _
theorem aAc {h : Heap} {H : Hp} {b : Addr} {o : Obj} (e : h.get? b = some o) (n : H b = none) : (pO h H).get? b = some o :=
  PySem.W.hideAll_get _ e fun hm => by
    have q : (H b).isSome = true := (List.mem_filter.mp hm).2
    rw [n] at q; simp at q
theorem aBC {h : Heap} {H : Hp} {b : Addr} {o : Obj} (e : (pO h H).get? b = some o) : h.get? b = some o /\ H b = none := by
  have e' : h.get? b = some o := PySem.W.of_hideAll (trk h H) e
  refine ⟨e', ?_⟩
  cases q : H b with
  | none => rfl
  | some x =>
    have hm : b ∈ trk h H := List.mem_filter.mpr ⟨List.mem_range.mpr (Heap.lt_size e'), by simp [q]⟩
    have z : (pO h H).get? b = none := PySem.W.hideAll_none (trk h H) hm
    rw [z] at e; cases e
def aBD (g h : Heap) (L : Addr) : List (Addr × Obj) := (List.range h.objs.size).filterMap fun a => if a = L ∨ (g.get? a).isSome = true then none else (h.get? a).map fun o => (a, o)
def gH (g h : Heap) (L d : Addr) : List (Addr × Obj) := (aBD g h L).filter fun p => decide (p.1 ≠ d)
end L2
namespace L2
open PySem PySem.Spec PyProof.Rows
structure Mod (K : PySem.W.Frag) (mg : Str -> Option Value) (base : Heap) : Prop where
  kin : K.In base
  glob : base.Ns mainGlobals mg
  blt : ∃ mb, base.Ns builtinsNs mb /\ ∀ x : Str, x ≠ "__name__" -> mb x = bootBuiltins x
  nolimit : base.NoLimit
  mods : ∃ mm, base.Ns sysModules mm
structure Cx where
  prog : Program
  w : World
  K : PySem.W.Frag
  mg : Str -> Option Value
  base : Heap
  A : Around
  N : List Str
  s₀ : Shared
  H₀ : Hp
  env : Env
  outer : List Env
  stack : List Env
  ex : List Addr
  fn : Str -> Bool
  calm : Bool
  pn : List (Addr × Obj)
  xe : Value -> Shared -> Prop
def frs (l : List Env) : List Addr := l.filterMap (·.frame)
abbrev Cx.fs (X : Cx) : List Addr := frs X.outer
def Vis (sc : Scope) (x : Str) : Prop := sc.names.lookup x = some .local ∨ sc.names.lookup x = some .cell ∨ sc.names.lookup x = some .free
def Loc (sc : Scope) (x : Str) : Prop := sc.names.lookup x = some .local ∨ sc.names.lookup x = some .cell
def aCI (env : Env) (h : Heap) (m : Str -> Option Value) (x : Str) (u : Value) : Prop :=
  (env.kindOf x = some .local /\ m x = some u) ∨ ((env.kindOf x = some .cell ∨ env.kindOf x = some .free) /\ ∃ c, env.cells.lookup x = some c /\ h.IsCell c (some u))
structure Cx.Ok (X : Cx) : Prop where
  mod : Mod X.K X.mg X.base
  kind : X.env.scope.kind = .function
  glob : X.env.globals = mainGlobals
  blt : X.env.builtins = builtinsNs
  above : X.s₀.heap.objs.size <= X.env.locals
  inj : ∀ x y c, X.env.cells.lookup x = some c -> X.env.cells.lookup y = some c -> x = y
  has : ∀ x, (X.env.kindOf x = some .cell ∨ X.env.kindOf x = some .free) -> ∃ c, X.env.cells.lookup x = some c
  cab : ∀ x c, X.fn x = true -> X.env.cells.lookup x = some c -> X.s₀.heap.objs.size <= c
  hd : X.calm = true -> X.A.handled = none
  frames : X.A.frames = some X.stack
  stk : X.stack = X.outer ∨ (X.stack = X.env :: X.outer /\ X.env.frame = some X.env.locals)
  exf : ∀ b ∈ X.ex, b ≠ X.env.locals /\ ∀ x c, X.env.cells.lookup x = some c -> c ≠ b
  bs : ∀ b o, X.base.get? b = some o -> X.s₀.heap.get? b = some o /\ X.H₀ b = none
  bsz : X.base.objs.size <= X.s₀.heap.objs.size
  noex : ∀ b o, X.base.get? b = some o -> b ∉ X.ex
  exfs : ∀ b ∈ X.ex, b ∉ X.fs
  funs : X.s₀.heap.FunFrames X.base X.outer
  frf : ∀ b ∈ X.fs, X.H₀ b = none
structure Inv (X : Cx) (pins : List (Addr × Obj)) (σ : List (Option V)) (H : Hp) (s : Shared) : Prop where
  ok : X.Ok
  os : s.os = X.s₀.os
  bare : AllBare s.gens
  base : Un X.fs X.ex X.H₀ H X.s₀.heap s.heap
  loc : ∃ m, s.heap.Ns X.env.locals m /\ ∀ (i : Nat) (x : Str) (v : V), X.N[i]? = some x -> σ[i]? = some (some v) -> Vis X.env.scope x -> ∃ u, bG v u /\ aCI X.env s.heap m x u
  cell : ∀ x c, X.env.cells.lookup x = some c -> ∃ v, s.heap.IsCell c v
  free : H X.env.locals = none
  freeC : ∀ x c, X.env.cells.lookup x = some c -> H c = none
  pin : ∀ p ∈ X.pn ++ pins, s.heap.get? p.1 = some p.2 /\ H p.1 = none /\ p.1 ≠ X.env.locals /\ p.1 ∉ X.fs /\ ∀ v, p.2.data ≠ .cell v
  hok : HOk X.prog X.w H s.heap
  len : σ.length = X.N.length
section
variable {X : Cx} {pins : List (Addr × Obj)} {σ : List (Option V)} {H H' : Hp} {s : Shared} {h' : Heap}
theorem Cx.Ok.nofr (ok : X.Ok) {b : Addr} {o : Obj} (e : X.base.get? b = some o) : b ∉ X.fs := fun hb => by
  have := (ok.funs.mem hb).1
  rw [e] at this; cases this
theorem Inv.bs (I : Inv X pins σ H s) : ∀ b o, X.base.get? b = some o -> s.heap.get? b = some o /\ H b = none := fun b o e =>
  ⟨I.base.keep b o (I.ok.bs b o e).1 (I.ok.bs b o e).2 (I.ok.nofr e) (I.ok.noex b o e), I.base.free b o (I.ok.bs b o e).1 (I.ok.bs b o e).2 (I.ok.noex b o e)⟩
theorem Inv.bk (I : Inv X pins σ H s) : ∀ b o, X.base.get? b = some o -> s.heap.get? b = some o := fun b o e => (I.bs b o e).1
theorem Inv.mod (I : Inv X pins σ H s) : Mod X.K X.mg X.base := I.ok.mod
theorem Inv.kIn (I : Inv X pins σ H s) : X.K.In s.heap := I.ok.mod.kin.keeps I.bk
theorem Inv.nolimit (I : Inv X pins σ H s) : s.heap.NoLimit := I.ok.mod.nolimit.keeps I.bk
theorem Inv.fr (I : Inv X pins σ H s) : ∃ m, Fr X.base X.env.locals s.heap m :=
  let ⟨m, hn, _⟩ := I.loc
  ⟨m, hn, I.bk, Nat.le_trans I.ok.bsz I.ok.above⟩
theorem Inv.lt (I : Inv X pins σ H s) : X.env.locals < s.heap.objs.size := let ⟨_, hn, _⟩ := I.loc; hn.lt
theorem Inv.sz (I : Inv X pins σ H s) : X.s₀.heap.objs.size <= s.heap.objs.size := Nat.le_trans I.ok.above (Nat.le_of_lt I.lt)
theorem Inv.nofs (I : Inv X pins σ H s) {a : Addr} (h : s.heap.objs.size <= a) : a ∉ X.fs := fun hb => by
  obtain ⟨_, o, ho, _⟩ := I.ok.funs.mem hb
  exact absurd (Nat.lt_of_lt_of_le (Heap.lt_size ho) (Nat.le_trans I.sz h)) (Nat.lt_irrefl _)
theorem Inv.cne (I : Inv X pins σ H s) : ∀ x c, X.env.cells.lookup x = some c -> c ≠ X.env.locals := fun x c e z => by
  obtain ⟨v, o, ho, hd⟩ := I.cell x c e
  obtain ⟨m, ⟨o', es, ep, ho', hd', _⟩, _⟩ := I.loc
  rw [z, ho'] at ho; cases ho; rw [hd'] at hd; cases hd
theorem Inv.funs (I : Inv X pins σ H s) : s.heap.FunFrames X.base X.outer := by
  have all : ∀ (l : List Env), (∀ b ∈ frs l, b ∈ X.fs) -> X.s₀.heap.FunFrames X.base l -> s.heap.FunFrames X.base l := by
    intro l
    induction l with
    | nil => intro _ _; trivial
    | cons env r ih =>
      intro hs hl
      obtain ⟨hk, ⟨L, o, hf, hn, ho, hd⟩, hr⟩ := hl
      have hL : L ∈ X.fs := hs L (by unfold frs; rw [List.filterMap_cons, hf]; exact List.mem_cons_self)
      obtain ⟨sl, e⟩ := I.base.slot L o ho (I.ok.frf L hL) hL fun z => I.ok.exfs L z hL
      exact ⟨hk, ⟨L, _, hf, hn, e, hd⟩, ih (fun b hb => hs b (by unfold frs; rw [List.filterMap_cons, hf]; exact List.mem_cons_of_mem _ hb)) hr⟩
  exact all X.outer (fun _ hb => hb) I.ok.funs
theorem Inv.stack (I : Inv X pins σ H s) : s.heap.FunFrames X.base X.stack := by
  rcases I.ok.stk with e | ⟨e, hf⟩
  · rw [e]; exact I.funs
  · rw [e]
    obtain ⟨m, hn, _⟩ := I.loc
    refine .cons (by rw [I.ok.kind]; decide) hf hn ?_ I.funs
    exact Heap.get?_none_of_le (Nat.le_trans I.ok.bsz I.ok.above)
theorem Inv.stkSub (I : Inv X pins σ H s) : ∀ b ∈ frs X.stack, b ∈ X.env.locals :: X.fs := fun b hb => by
  rcases I.ok.stk with e | ⟨e, hf⟩
  · rw [e] at hb; exact List.mem_cons_of_mem _ hb
  · rw [e] at hb
    unfold frs at hb
    rw [List.filterMap_cons, hf] at hb
    exact hb
theorem Inv.stkFree (I : Inv X pins σ H s) : ∀ b ∈ frs X.stack, H b = none := fun b hb => by
  rcases List.mem_cons.mp (I.stkSub b hb) with e | hb
  · rw [e]; exact I.free
  · obtain ⟨_, o, ho, _⟩ := I.ok.funs.mem hb
    exact I.base.free b o ho (I.ok.frf b hb) fun z => I.ok.exfs b z hb
theorem Inv.step {g' : Array GenState} {t' : Nat} {d' : Drawn} {ch : List Addr} (I : Inv X pins σ H s)
    (hch : ∀ b ∈ ch, (b ∈ X.ex ∨ X.s₀.heap.objs.size <= b) /\ b ≠ X.env.locals /\ (∀ x c, X.env.cells.lookup x = some c -> c ≠ b) /\ ∀ p ∈ X.pn ++ pins, p.1 ≠ b)
    (keep : ∀ b o, b ≠ X.env.locals -> b ∉ X.fs -> b ∉ ch -> s.heap.get? b = some o -> H b = none -> h'.get? b = some o)
    (slot : ∀ b o, b ≠ X.env.locals -> b ∈ X.fs -> b ∉ ch -> s.heap.get? b = some o -> H b = none -> ∃ sl, h'.get? b = some { o with slots := sl }) (free : ∀ b o, b ∉ ch -> s.heap.get? b = some o -> H b = none -> H' b = none)
    (there : ∀ b o, b ∉ ch -> s.heap.get? b = some o -> ∃ o', h'.get? b = some o')
    (tups : ∀ b xs, H b = some (.tup xs) -> H' b = some (.tup xs)) (frzs : ∀ b o u, H b = some (.frz o u) -> H' b = some (.frz o u)) (tbls : ∀ b ps, H b = some (.tbl ps) -> ∃ more, H' b = some (.tbl (ps ++ more)))
    (ns : ∀ m, s.heap.Ns X.env.locals m -> h'.Ns X.env.locals m) (hok : HOk X.prog X.w H' h') (hg : AllBare g') :
    Inv X pins σ H' { s with heap := h', gens := g', drawn := d', toks := t' } := by
  have neL : ∀ b o, X.s₀.heap.get? b = some o -> b ≠ X.env.locals := fun b o e => Nat.ne_of_lt (Nat.lt_of_lt_of_le (Heap.lt_size e) I.ok.above)
  have neC : ∀ b o, X.s₀.heap.get? b = some o -> b ∉ X.ex -> b ∉ ch := fun b o e hx hb => by
    rcases (hch b hb).1 with z | z
    · exact hx z
    · exact absurd (Nat.lt_of_lt_of_le (Heap.lt_size e) z) (Nat.lt_irrefl _)
  have cellK : ∀ x c, X.env.cells.lookup x = some c -> ∀ v, s.heap.IsCell c v -> h'.IsCell c v := fun x c e v ⟨o, ho, hd⟩ => by
    have nch : c ∉ ch := fun z => (hch c z).2.2.1 x c e rfl
    by_cases hc : c ∈ X.fs
    · obtain ⟨sl, q⟩ := slot c o (I.cne x c e) hc nch ho (I.freeC x c e)
      exact ⟨_, q, hd⟩
    · exact ⟨o, keep c o (I.cne x c e) hc nch ho (I.freeC x c e), hd⟩
  refine ⟨I.ok, I.os, hg, ⟨fun b o e n hb hx => ?_, fun b o e n hb hx => ?_, fun b o e n hx => ?_, fun b o e hx => ?_, fun b xs e => tups b xs (I.base.tups b xs e), fun b o xs e => frzs b o xs (I.base.frzs b o xs e), fun b ps e => ?_⟩, ?_, fun x c e => ?_, ?_, fun x c e => ?_, fun p hp => ?_, hok, I.len⟩
  · exact keep b o (neL b o e) hb (neC b o e hx) (I.base.keep b o e n hb hx) (I.base.free b o e n hx)
  · obtain ⟨sl, e1⟩ := I.base.slot b o e n hb hx
    obtain ⟨sl', e2⟩ := slot b _ (neL b o e) hb (neC b o e hx) e1 (I.base.free b o e n hx)
    exact ⟨sl', e2⟩
  · obtain ⟨o', e1⟩ := I.base.there b o e hx
    exact free b o' (neC b o e hx) e1 (I.base.free b o e n hx)
  · obtain ⟨o', e1⟩ := I.base.there b o e hx
    exact there b o' (neC b o e hx) e1
  · obtain ⟨m1, e1⟩ := I.base.tbls b ps e
    obtain ⟨m2, e2⟩ := tbls b _ e1
    exact ⟨m1 ++ m2, by rw [e2, Array.append_assoc]⟩
  · obtain ⟨m, hn, hl⟩ := I.loc
    refine ⟨m, ns m hn, fun i x v e1 e2 e3 => ?_⟩
    obtain ⟨u, r, l⟩ := hl i x v e1 e2 e3
    refine ⟨u, r, ?_⟩
    rcases l with l | ⟨k, c, e, z⟩
    · exact .inl l
    · exact .inr ⟨k, c, e, cellK x c e _ z⟩
  · obtain ⟨v, z⟩ := I.cell x c e
    exact ⟨v, cellK x c e v z⟩
  · obtain ⟨m, ⟨o, _, _, ho, _⟩, _⟩ := I.loc
    exact free _ o (fun z => (hch _ z).2.1 rfl) ho I.free
  · obtain ⟨v, o, ho, hd⟩ := I.cell x c e
    exact free c o (fun z => (hch c z).2.2.1 x c e rfl) ho (I.freeC x c e)
  · obtain ⟨e, n, ne, nf, d⟩ := I.pin p hp
    have nch : p.1 ∉ ch := fun z => (hch p.1 z).2.2.2 p hp rfl
    exact ⟨keep p.1 p.2 ne nf nch e n, free p.1 p.2 nch e n, ne, nf, d⟩
theorem Inv.un {t' : Nat} (I : Inv X pins σ H s) (u : Un X.fs [] H H' s.heap h') (hok : HOk X.prog X.w H' h') : Inv X pins σ H' { s with heap := h', toks := t' } := by
  obtain ⟨m, ⟨o, es, ep, ho, r⟩, _⟩ := id I.loc
  obtain ⟨sl, hL⟩ := u.any ho I.free (by simp)
  exact I.step (g' := s.gens) (d' := s.drawn) (ch := []) (fun _ z => nomatch z) (fun b o _ hb _ e n => u.keep b o e n hb (by simp)) (fun b o _ hb _ e n => u.slot b o e n hb (by simp)) (fun b o _ e n => u.free b o e n (by simp)) (fun b o _ e => u.there b o e (by simp)) u.tups u.frzs u.tbls (fun m' hm => by
    obtain ⟨o', es', ep', ho', r'⟩ := hm
    rw [ho] at ho'; cases ho'
    exact ⟨_, es', ep', hL, r'⟩) hok I.bare
theorem Inv.call {g' : Array GenState} {t' : Nat} {d' : Drawn} {ch : List Addr} (I : Inv X pins σ H s) (u : Un (frs X.stack) ch H H' s.heap h') (hok : HOk X.prog X.w H' h') (hg : AllBare g')
    (hch : ∀ b ∈ ch, (b ∈ X.ex ∨ X.s₀.heap.objs.size <= b) /\ b ≠ X.env.locals /\ (∀ x c, X.env.cells.lookup x = some c -> c ≠ b) /\ ∀ p ∈ X.pn ++ pins, p.1 ≠ b) :
    Inv X pins σ H' { s with heap := h', gens := g', drawn := d', toks := t' } := by
  obtain ⟨m, ⟨o, es, ep, ho, r⟩, _⟩ := id I.loc
  obtain ⟨sl, hL⟩ := u.any ho I.free fun z => (hch _ z).2.1 rfl
  exact I.step (ch := ch) hch (fun b o hL hb hc e n => u.keep b o e n (fun z => (List.mem_cons.mp (I.stkSub b z)).elim hL hb) hc) (fun b o _ _ hc e n => u.any e n hc) (fun b o hc e n => u.free b o e n hc) (fun b o hc e => u.there b o e hc) u.tups u.frzs u.tbls (fun m' hm => by
    obtain ⟨o', es', ep', ho', r'⟩ := hm
    rw [ho] at ho'; cases ho'
    exact ⟨_, es', ep', hL, r'⟩) hok hg
theorem Inv.turned {t' : Nat} {it : Addr} (I : Inv X pins σ H s) (k : ∀ b o, b ≠ it -> s.heap.get? b = some o -> h'.get? b = some o) (hn : H it = none) (hL : it ≠ X.env.locals)
    (h1 : it ∈ X.ex ∨ X.s₀.heap.objs.size <= it) (h2 : ∀ x c, X.env.cells.lookup x = some c -> c ≠ it) (h3 : ∀ p ∈ X.pn ++ pins, p.1 ≠ it) : Inv X pins σ H { s with heap := h', toks := t' } := by
  have nit : ∀ b u, H b = some u -> b ≠ it := fun b u e z => by rw [z, hn] at e; cases e
  refine I.step (g' := s.gens) (d' := s.drawn) (ch := [it]) (fun b hb => ?_) (fun b o _ _ hc e _ => k b o (fun z => hc (by simp [z])) e) (fun b o _ _ hc e _ => ⟨o.slots, k b o (fun z => hc (by simp [z])) e⟩) (fun _ _ _ _ n => n)
    (fun b o hc e => ⟨o, k b o (fun z => hc (by simp [z])) e⟩) (fun _ _ e => e) (fun _ _ _ e => e) (fun b ps e => ⟨#[], by rw [e]; simp⟩) (fun m hm => ?_) (fun b u e => ?_) I.bare
  · have e : b = it := by simpa using hb
    subst e
    exact ⟨h1, hL, h2, h3⟩
  · obtain ⟨o, es, ep, ho, r⟩ := hm
    exact ⟨o, es, ep, k _ o (Ne.symm hL) ho, r⟩
  · refine (I.hok b u e).stay (fun c v hc q => k c v ?_ q) (fun _ q => q) fun _ _ q => q
    rcases hc with z | z
    · rw [z]; exact nit b u e
    · exact nit c _ z
theorem Inv.tok (I : Inv X pins σ H s) (t : Nat) : Inv X pins σ H { s with toks := t } := I.un (h' := s.heap) (t' := t) Un.refl I.hok
theorem Inv.kept {t' : Nat} (I : Inv X pins σ H s) (k : ∀ b u, s.heap.get? b = some u -> h'.get? b = some u) : Inv X pins σ H { s with heap := h', toks := t' } := I.un (Un.kept k) (I.hok.kept k)
theorem Inv.laid {a : Addr} {o : HO} {t' : Nat} (I : Inv X pins σ H s) (k : ∀ b u, s.heap.get? b = some u -> h'.get? b = some u) (hp : s.heap.objs.size <= a) (new : bM X.prog X.w (upd H a o) h' a o) :
    Inv X pins σ (upd H a o) { s with heap := h', toks := t' } := I.un (Un.laid k hp (I.hok.fresh hp)) (I.hok.laid k hp new)
theorem Inv.write {x e : Addr} {o : HO} {t' : Nat} (I : Inv X pins σ H s) (mu : Mut (H x)) (he : e = x ∨ H e = some (.own x)) (k : ∀ b u, b ≠ e -> s.heap.get? b = some u -> h'.get? b = some u) (heo : ∃ u, h'.get? e = some u)
    (new : bM X.prog X.w (upd H x o) h' x o) : Inv X pins σ (upd H x o) { s with heap := h', toks := t' } := I.un (Un.write mu he k heo) (I.hok.write mu he k heo new)
theorem Inv.pins_of {pins' : List (Addr × Obj)} (I : Inv X pins σ H s) (h : ∀ p ∈ pins', s.heap.get? p.1 = some p.2 /\ H p.1 = none /\ p.1 ≠ X.env.locals /\ p.1 ∉ X.fs /\ ∀ v, p.2.data ≠ .cell v) : Inv X pins' σ H s :=
  ⟨I.ok, I.os, I.bare, I.base, I.loc, I.cell, I.free, I.freeC, fun p hp => (List.mem_append.mp hp).elim (fun z => I.pin p (List.mem_append_left _ z)) (h p), I.hok, I.len⟩
theorem sK {N : List Str} (hN : N.Nodup) {i j : Nat} {x : Str} (a : N[i]? = some x) (b : N[j]? = some x) : i = j := by
  obtain ⟨h1, e1⟩ := List.getElem?_eq_some_iff.mp a
  obtain ⟨h2, e2⟩ := List.getElem?_eq_some_iff.mp b
  exact (List.getElem_inj hN).mp (e1.trans e2.symm)
theorem qD {M : Model} {A : Around} {E : Value -> Shared -> Prop} {i : Nat} {x : Str} {v : V} {u : Value} {Q : Unit -> Shared -> Prop} (I : Inv X pins σ H s) (hN : X.N.Nodup) (hi : X.N[i]? = some x) (hx : Loc X.env.scope x) (r : bG v u)
    (h : ∀ s', Inv X pins (σ.set i (some v)) H s' -> (∃ a, Heap.SameBut a s.heap s'.heap /\ (a = X.env.locals ∨ X.env.cells.lookup x = some a)) -> Q () s') (hf : X.fn x = true ∨ X.env.scope.names.lookup x = some .local := by first | exact .inl rfl | exact .inr rfl | assumption) : wpAny M A (storeName X.env x u) Q E s := by
  obtain ⟨m, hn, hl⟩ := id I.loc
  have hcls : (X.env.scope.kind == .class || (X.env.scope.kind == .module && X.env.locals != X.env.globals)) = false := by rw [I.ok.kind]; rfl
  have hiσ : i < σ.length := by rw [I.len]; exact (List.getElem?_eq_some_iff.mp hi).1
  have cne := I.cne
  have tracked : ∀ {a : Addr} {h' : Heap}, (∃ o, s.heap.get? a = some o /\ H a = none) -> Heap.SameBut a s.heap h' -> HOk X.prog X.w H h' := fun {a h'} ha hs b ob e => by
    obtain ⟨_, _, hfree⟩ := ha
    refine (I.hok b ob e).stay (fun c w' hc q => (hs.2 c ?_).trans q) (fun _ q => q) fun _ _ q => q
    rintro rfl
    rcases hc with rfl | hc
    · rw [hfree] at e; cases e
    · rw [hfree] at hc; cases hc
  rcases hx with hk | hk
  · refine wpAny_storeName_local hk hn (fun h' hn' hs => ?_) hcls
    obtain ⟨oL, _, _, hoL, _⟩ := id hn
    refine h _ ⟨I.ok, I.os, I.bare, ⟨fun b o e n hb hx => ?_, fun b o e n hb hx => ?_, I.base.free, fun b o e hx => ?_, I.base.tups, I.base.frzs, I.base.tbls⟩, ⟨_, hn', fun j y v' e1 e2 e3 => ?_⟩, fun y c e => ?_, I.free, I.freeC, fun p hp => ?_, tracked ⟨oL, hoL, I.free⟩ hs, by simpa using I.len⟩ ⟨_, hs, .inl rfl⟩
    · exact (hs.2 b (Nat.ne_of_lt (Nat.lt_of_lt_of_le (Heap.lt_size e) I.ok.above))).trans (I.base.keep b o e n hb hx)
    · obtain ⟨sl, e1⟩ := I.base.slot b o e n hb hx
      exact ⟨sl, (hs.2 b (Nat.ne_of_lt (Nat.lt_of_lt_of_le (Heap.lt_size e) I.ok.above))).trans e1⟩
    · obtain ⟨o', e1⟩ := I.base.there b o e hx
      exact ⟨o', (hs.2 b (Nat.ne_of_lt (Nat.lt_of_lt_of_le (Heap.lt_size e) I.ok.above))).trans e1⟩
    · by_cases hj : j = i
      · subst hj
        rw [hi] at e1; cases e1
        rw [List.getElem?_set_self hiσ] at e2
        cases e2
        exact ⟨u, r, .inl ⟨hk, by simp⟩⟩
      · rw [List.getElem?_set_ne (Ne.symm hj)] at e2
        obtain ⟨u', r', q⟩ := hl j y v' e1 e2 e3
        refine ⟨u', r', ?_⟩
        rcases q with ⟨k, e⟩ | ⟨k, c, e, z⟩
        · refine .inl ⟨k, ?_⟩
          have : y ≠ x := fun e => hj (sK hN e1 (e ▸ hi))
          simp [this, e]
        · exact .inr ⟨k, c, e, z.sameBut hs (cne y c e)⟩
    · obtain ⟨w', z⟩ := I.cell y c e
      exact ⟨w', z.sameBut hs (cne y c e)⟩
    · obtain ⟨e, n, ne, nf, d⟩ := I.pin p hp
      exact ⟨(hs.2 p.1 ne).trans e, n, ne, nf, d⟩
  · have hfn : X.fn x = true := by
      rcases hf with z | z
      · exact z
      · rw [z] at hk; cases hk
    obtain ⟨c, hc⟩ := I.ok.has x (.inl hk)
    obtain ⟨w', z⟩ := I.cell x c hc
    refine wpAny_storeName_cell I.ok.kind hk hc z (fun h' hc' hs => ?_)
    obtain ⟨oc, hoc, hocd⟩ := id z
    refine h { s with heap := h' } ⟨I.ok, I.os, I.bare, ⟨fun b o e n hb hx => ?_, fun b o e n hb hx => ?_, I.base.free, fun b o e hx => ?_, I.base.tups, I.base.frzs, I.base.tbls⟩, ⟨m, hn.sameBut hs (Ne.symm (cne x c hc)), fun j y v' e1 e2 e3 => ?_⟩, fun y c' e => ?_, I.free, I.freeC, fun p hp => ?_, tracked ⟨oc, hoc, I.freeC x c hc⟩ hs, by simpa using I.len⟩ ⟨c, hs, .inr hc⟩
    · exact (hs.2 b (Nat.ne_of_lt (Nat.lt_of_lt_of_le (Heap.lt_size e) (I.ok.cab x c hfn hc)))).trans (I.base.keep b o e n hb hx)
    · obtain ⟨sl, e1⟩ := I.base.slot b o e n hb hx
      exact ⟨sl, (hs.2 b (Nat.ne_of_lt (Nat.lt_of_lt_of_le (Heap.lt_size e) (I.ok.cab x c hfn hc)))).trans e1⟩
    · obtain ⟨o', e1⟩ := I.base.there b o e hx
      exact ⟨o', (hs.2 b (Nat.ne_of_lt (Nat.lt_of_lt_of_le (Heap.lt_size e) (I.ok.cab x c hfn hc)))).trans e1⟩
    · by_cases hj : j = i
      · subst hj
        rw [hi] at e1; cases e1
        rw [List.getElem?_set_self hiσ] at e2
        cases e2
        exact ⟨u, r, .inr ⟨.inl hk, c, hc, hc'⟩⟩
      · rw [List.getElem?_set_ne (Ne.symm hj)] at e2
        obtain ⟨u', r', q⟩ := hl j y v' e1 e2 e3
        refine ⟨u', r', ?_⟩
        rcases q with q | ⟨k, c', e, z'⟩
        · exact .inl q
        · refine .inr ⟨k, c', e, z'.sameBut hs ?_⟩
          rintro rfl
          exact hj (sK hN e1 (I.ok.inj _ _ _ e hc ▸ hi))
    · by_cases hcc : c' = c
      · subst hcc; exact ⟨_, hc'⟩
      · obtain ⟨w2, z2⟩ := I.cell y c' e
        exact ⟨w2, z2.sameBut hs hcc⟩
    · obtain ⟨e, n, ne, nf, d⟩ := I.pin p hp
      refine ⟨(hs.2 p.1 ?_).trans e, n, ne, nf, d⟩
      intro q
      rw [q, hoc] at e
      have q' : oc = p.2 := Option.some.inj e
      exact d w' (by rw [<- q']; exact hocd)
theorem sL {M : Model} {A : Around} {E : Value -> Shared -> Prop} {i : Nat} {x : Str} {v : V} {u : Value} {Q : Unit -> Shared -> Prop} (I : Inv X pins σ H s) (hN : X.N.Nodup) (hi : X.N[i]? = some x) (hx : Loc X.env.scope x) (r : bG v u)
    (h : ∀ s', Inv X pins (σ.set i (some v)) H s' -> Q () s') (hf : X.fn x = true ∨ X.env.scope.names.lookup x = some .local := by first | exact .inl rfl | exact .inr rfl | assumption) : wpAny M A (storeName X.env x u) Q E s :=
  qD I hN hi hx r (fun s' I' _ => h s' I') hf
theorem Inv.call' {s' : Shared} {ch : List Addr} (I : Inv X pins σ H s) (ho : s'.os = s.os) (u : Un (frs X.stack) ch H H' s.heap s'.heap) (hok : HOk X.prog X.w H' s'.heap) (hg : AllBare s'.gens)
    (hch : ∀ b ∈ ch, (b ∈ X.ex ∨ X.s₀.heap.objs.size <= b) /\ b ≠ X.env.locals /\ (∀ x c, X.env.cells.lookup x = some c -> c ≠ b) /\ ∀ p ∈ X.pn ++ pins, p.1 ≠ b) : Inv X pins σ H' s' := by
  obtain ⟨h', g', d', t', o'⟩ := s'
  have e : o' = s.os := ho
  subst e
  exact I.call (g' := g') (t' := t') (d' := d') u hok hg hch
end
abbrev XK := Value -> Option Addr -> Hp -> Prop
abbrev St := List (Option V)
abbrev VK := V -> Hp -> Prop
abbrev TE := St -> Hp -> VK -> Prop
abbrev TT := St -> Hp -> (Bool -> Hp -> Prop) -> Prop
abbrev TA := St -> Hp -> (List V -> Hp -> Prop) -> Prop
structure Ends where
  nx : St -> Hp -> Prop
  rt : VK
  bk : St -> Hp -> Prop := fun _ _ => False
  ct : St -> Hp -> Prop := fun _ _ => False
abbrev TS := Ends -> St -> Hp -> Prop
def EP (X : Cx) (pins : List (Addr × Obj)) (σ : St) (Q : VK) (u : Value) (s' : Shared) : Prop := ∃ v H', Inv X pins σ H' s' /\ bG v u /\ Q v H'
def TP (X : Cx) (pins : List (Addr × Obj)) (σ : St) (Q : Bool -> Hp -> Prop) (b : Bool) (s' : Shared) : Prop := ∃ H', Inv X pins σ H' s' /\ Q b H'
def AP (X : Cx) (pins : List (Addr × Obj)) (σ : St) (Q : List V -> Hp -> Prop) (us : List Value) (s' : Shared) : Prop := ∃ vs H', Inv X pins σ H' s' /\ aX vs us /\ Q vs H'
def SP (X : Cx) (pins : List (Addr × Obj)) (D : Ends) (f : Flow) (s' : Shared) : Prop :=
  match f with
  | .next => ∃ σ' H', Inv X pins σ' H' s' /\ D.nx σ' H'
  | .brk => ∃ σ' H', Inv X pins σ' H' s' /\ D.bk σ' H'
  | .cont => ∃ σ' H', Inv X pins σ' H' s' /\ D.ct σ' H'
  | .ret u => ∃ v σ' H', Inv X pins σ' H' s' /\ bG v u /\ D.rt v H'
def PE (X : Cx) (e : Expr) (t : TE) : Prop :=
  ∀ (pins : List (Addr × Obj)) (s : Shared) (σ : St) (H : Hp) (Q : VK), Inv X pins σ H s -> t σ H Q -> wpAny (model X.prog X.w) X.A (eval e X.env) (EP X pins σ Q) X.xe s
def PT (X : Cx) (e : Expr) (t : TT) : Prop :=
  ∀ (pins : List (Addr × Obj)) (s : Shared) (σ : St) (H : Hp) (Q : Bool -> Hp -> Prop), Inv X pins σ H s -> t σ H Q -> wpAny (model X.prog X.w) X.A (isTrue e X.env (eval e X.env)) (TP X pins σ Q) X.xe s
def PW (X : Cx) (e : Expr) (t : TT) : Prop :=
  ∀ (whole : Sem Value) (pins : List (Addr × Obj)) (s : Shared) (σ : St) (H : Hp) (Q : Bool -> Hp -> Prop), Inv X pins σ H s -> t σ H Q -> wpAny (model X.prog X.w) X.A (isTrue e X.env whole) (TP X pins σ Q) X.xe s
theorem PW.pt {X : Cx} {e : Expr} {t : TT} (h : PW X e t) : PT X e t := h _
def PA (X : Cx) (es : List Expr) (t : TA) : Prop :=
  ∀ (pos : Pos) (pins : List (Addr × Obj)) (s : Shared) (σ : St) (H : Hp) (Q : List V -> Hp -> Prop), Inv X pins σ H s -> t σ H Q -> wpAny (model X.prog X.w) X.A (spliced (backTo pos (starEach es X.env))) (AP X pins σ Q) X.xe s
def PS (X : Cx) (st : Stmt) (t : TS) : Prop :=
  ∀ (pins : List (Addr × Obj)) (s : Shared) (σ : St) (H : Hp) (D : Ends), Inv X pins σ H s -> t D σ H -> wpAny (model X.prog X.w) X.A (exec st X.env) (SP X pins D) X.xe s
def PSs (X : Cx) (st : List Stmt) (t : TS) : Prop :=
  ∀ (pins : List (Addr × Obj)) (s : Shared) (σ : St) (H : Hp) (D : Ends), Inv X pins σ H s -> t D σ H -> wpAny (model X.prog X.w) X.A (execs st X.env) (SP X pins D) X.xe s
theorem thn {α : Type} {t : Sem α} {Q Q' : α -> Shared -> Prop} {M : Model} {A : Around} {E : Value -> Shared -> Prop} {s : Shared} (h : wpAny M A t Q E s) (hQ : ∀ a s, Q a s -> Q' a s) : wpAny M A t Q' E s := wpAny_mono h hQ fun _ _ x => x
end L2
namespace L2
open PySem PySem.Spec PyProof.Rows
section
variable {X : Cx}
def aDn (i : Nat) : TE := fun σ H Q => ∃ v, σ[i]? = some (some v) /\ Q v H
abbrev tC (v : V) : TE := fun _ H Q => Q v H
theorem aCJ {i : Nat} {x : Str} {pos : Pos} (hN : X.N[i]? = some x) (hv : Vis X.env.scope x) (hd : (x == ("__debug__" : Str)) = false := by decide) (hcd : (x == ("__classdict__" : Str)) = false := by decide) : PE X (.Name x pos) (aDn i) := by
  intro pins s σ H Q I h
  obtain ⟨v, e, h⟩ := h
  obtain ⟨m, hn, hl⟩ := I.loc
  obtain ⟨u, r, l⟩ := hl i x v hN e hv
  have fin : EP X pins σ Q u s := ⟨v, H, I, r, h⟩
  rcases l with ⟨hk, hm⟩ | ⟨hk, c, hc, hcell⟩
  · exact wpAny_Name (wpAny_loadName_local I.ok.kind hk hn hm fin) hd
  · rcases hk with hk | hk
    · exact wpAny_Name (wpAny_loadName_cell I.ok.kind hk hc hcell fin) hd
    · exact wpAny_Name (wpAny_loadName_free I.ok.kind hk hc hcell fin hcd) hd
theorem aK {i j pos} : PE X (.Constant (.int i) j pos) (tC (.int i)) := fun _ _ _ H _ I h => wpAny_Constant_int ⟨.int i, H, I.tok _, ⟨_, rfl⟩, h⟩
theorem dY {b j pos} : PE X (.Constant (.bool b) j pos) (tC (.bl b)) := fun _ _ _ H _ I h => Constant_bool ⟨.bl b, H, I, rfl, h⟩
theorem aAd {j pos} : PE X (.Constant .none j pos) (tC .non) := fun _ _ _ H _ I h => Constant_none ⟨.non, H, I, rfl, h⟩
theorem uT {x j pos} : PE X (.Constant (.str x) j pos) (tC (.str x)) := fun _ _ _ H _ I h => Calls.Constant_str ⟨.str x, H, I.tok _, ⟨_, rfl⟩, h⟩
def Gl (X : Cx) (x : Str) : Prop := X.env.kindOf x = some .globalImplicit
theorem wM {E : Value -> Shared -> Prop} {pins : List (Addr × Obj)} {s : Shared} {σ : St} {H : Hp} {x : Str} {u : Value} {pos : Pos} {Q : Value -> Shared -> Prop} (I : Inv X pins σ H s) (hg : Gl X x) (hm : X.mg x = some u) (h : Q u s)
    (hd : (x == ("__debug__" : Str)) = false := by decide) : wpAny (model X.prog X.w) X.A (eval (.Name x pos) X.env) Q E s :=
  Calls.Name_function_global I.ok.kind hg (Calls.loadGlobal_global (by rw [I.ok.glob]; exact I.mod.glob.keeps I.bk) hm h) hd
theorem gX {E : Value -> Shared -> Prop} {pins : List (Addr × Obj)} {s : Shared} {σ : St} {H : Hp} {x : Str} {u : Value} {pos : Pos} {Q : Value -> Shared -> Prop} (I : Inv X pins σ H s) (hg : Gl X x) (hm : X.mg x = none) (hv : bootBuiltins x = some u) (h : Q u s)
    (hn : x ≠ "__name__" := by decide) (hd : (x == ("__debug__" : Str)) = false := by decide) : wpAny (model X.prog X.w) X.A (eval (.Name x pos) X.env) Q E s := by
  obtain ⟨mb, h1, h2⟩ := I.mod.blt
  exact Calls.Name_function_global I.ok.kind hg (Calls.loadGlobal_builtin (by rw [I.ok.glob]; exact I.mod.glob.keeps I.bk) hm (by rw [I.ok.blt]; exact h1.keeps I.bk) ((h2 x hn).trans hv) h) hd
theorem wN {x : Str} {v : V} {u : Value} {pos : Pos} (hg : Gl X x) (hm : X.mg x = some u) (r : bG v u) (hd : (x == ("__debug__" : Str)) = false := by decide) : PE X (.Name x pos) (tC v) :=
  fun _ _ _ H _ I h => wM I hg hm ⟨v, H, I, r, h⟩ hd
theorem eE {x : Str} {v : V} {u : Value} {pos : Pos} (hg : Gl X x) (hm : X.mg x = none) (hv : bootBuiltins x = some u) (r : bG v u) (hn : x ≠ "__name__" := by decide) (hd : (x == ("__debug__" : Str)) = false := by decide) : PE X (.Name x pos) (tC v) :=
  fun _ _ _ H _ I h => gX I hg hm hv ⟨v, H, I, r, h⟩ hn hd
variable {a b : Expr} {ta tb : TE} {pos : Pos}
def PC (X : Cx) (op : CmpOp) (a b : Expr) (t : TE) : Prop :=
  ∀ (pins : List (Addr × Obj)) (s : Shared) (σ : St) (H : Hp) (Q : VK), Inv X pins σ H s -> t σ H Q ->
    wpAny (model X.prog X.w) X.A (eval a X.env) (fun v s₁ => wpAny (model X.prog X.w) X.A (eval b X.env) (fun u s₂ => wpAny (model X.prog X.w) X.A (compareOp op v u) (EP X pins σ Q) X.xe s₂) X.xe s₁) X.xe s
theorem aAe (b : Expr) {op : CmpOp} (h : op ≠ .In) (h2 : op ≠ .NotIn) : behindInMarks op b = false := by
  have e1 : (op == CmpOp.In) = false := by cases op <;> first | rfl | exact absurd rfl h
  have e2 : (op == CmpOp.NotIn) = false := by cases op <;> first | rfl | exact absurd rfl h2
  cases b <;> simp [behindInMarks, e1, e2]
def aDo (ta : TE) : TE := fun σ H Q => ta σ H fun x H1 => Q (.bl (!decide (x = .non))) H1
theorem bG.none_iff {x : V} {v : Value} (r : bG x v) : (v == Value.none) = decide (x = .non) := by
  cases x with
  | non => cases r; rfl
  | bl _ => cases r; rfl
  | int _ => obtain ⟨t, rfl⟩ := r; rfl
  | str _ => obtain ⟨t, rfl⟩ := r; rfl
  | byt _ => obtain ⟨t, rfl⟩ := r; rfl
  | flt _ => obtain ⟨t, rfl⟩ := r; rfl
  | ref _ => cases r; rfl
  | ty _ => cases r; rfl
theorem aBE {j pos'} (ha : PE X a ta) : PC X .IsNot a (.Constant .none j pos') (aDo ta) := by
  intro pins s σ H Q I h
  refine thn (ha pins s σ H _ I h) fun v s1 hx9 => ?_
  obtain ⟨x, H1, I1, r1, q1⟩ := hx9
  exact Constant_none (isnot_none_gen ⟨.bl _, H1, I1, by rw [r1.none_iff]; rfl, q1⟩)
def tB (t : TE) : TT := fun σ H Q => t σ H fun x H1 => ∃ c, x = .bl c /\ Q c H1
theorem uU {op : CmpOp} {t : TE} (h : PC X op a b t) (h1 : behindInMarks op b = false := by first | exact aAe _ (by decide) (by decide) | rfl) : PT X (.Compare a [op] [b] pos) (tB t) := by
  intro pins s σ H Q I hw
  refine wpAny_isTrue_Compare1 (thn (h pins s σ H _ I hw) fun v s1 h1 => thn h1 fun u s2 h2 => thn h2 fun c s3 hx9 => ?_) h1
  obtain ⟨x, H1, I1, r1, q1⟩ := hx9
  obtain ⟨d, rfl, q⟩ := q1
  cases r1
  exact wpAny_truthy_bool ⟨H1, I1, q⟩
theorem dZ {e : Expr} {t : TE} (h : PE X e t) (he : ∀ whole, isTrue e X.env whole = (do let v <- whole; standAt e.pos; holding [v] (truthy v)) := by intro _; rfl) : PT X e (tB t) := by
  intro pins s σ H Q I hw
  refine isTrue_plain (thn (h pins s σ H _ I hw) fun v s1 hx9 => ?_) (he _)
  obtain ⟨x, H1, I1, r1, q1⟩ := hx9
  obtain ⟨d, rfl, q⟩ := q1
  cases r1
  exact wpAny_truthy_bool ⟨H1, I1, q⟩
variable {tA tB' : TT} {gH : List Expr}
def aD3 (t u : TT) : TT := fun σ H Q => t σ H fun c H1 => if c = true then u σ H1 Q else Q false H1
def tOr (t u : TT) : TT := fun σ H Q => t σ H fun c H1 => if c = true then Q true H1 else u σ H1 Q
def aD4 (t : TT) : TT := fun σ H Q => t σ H fun c H1 => Q (!c) H1
theorem aBF (ha : PT X a tA) : PW X (.BoolOp .And [a] pos) tA := by
  intro wh pins s σ H Q I h
  refine isTrue_and (thn (ha pins s σ H Q I h) fun c s1 e => ?_)
  cases c with
  | true => exact isTrue_and_nil e
  | false => exact e
theorem iJ (ha : PT X a tA) : PW X (.BoolOp .Or [a] pos) tA := by
  intro wh pins s σ H Q I h
  refine isTrue_or (thn (ha pins s σ H Q I h) fun c s1 e => ?_)
  cases c with
  | false => exact isTrue_or_nil e
  | true => exact e
theorem aCK (ha : PT X a tA) (hb : PW X (.BoolOp .And (b :: gH) pos) tB') : PW X (.BoolOp .And (a :: b :: gH) pos) (aD3 tA tB') := by
  intro wh pins s σ H Q I h
  refine isTrue_and (thn (ha pins s σ H _ I h) fun c s1 hx9 => ?_)
  obtain ⟨H1, I1, q1⟩ := hx9
  cases c with
  | true => exact hb wh pins s1 σ H1 Q I1 q1
  | false => exact ⟨H1, I1, q1⟩
theorem jA (ha : PT X a tA) (hb : PW X (.BoolOp .Or (b :: gH) pos) tB') : PW X (.BoolOp .Or (a :: b :: gH) pos) (tOr tA tB') := by
  intro wh pins s σ H Q I h
  refine isTrue_or (thn (ha pins s σ H _ I h) fun c s1 hx9 => ?_)
  obtain ⟨H1, I1, q1⟩ := hx9
  cases c with
  | true => exact ⟨H1, I1, q1⟩
  | false => exact hb wh pins s1 σ H1 Q I1 q1
theorem cY (ha : PT X a tA) : PT X (.UnaryOp .Not a pos) (aD4 tA) := by
  intro pins s σ H Q I h
  exact isTrue_not (ha pins s σ H (fun c H1 => Q (!c) H1) I h)
def aDp (ta tb : TE) : TE := fun σ H Q => ta σ H fun x H1 => ∃ c, x = .bl c /\ if c = true then tb σ H1 Q else Q (.bl false) H1
def aDq (ta : TE) : TE := fun σ H Q => ta σ H fun x H1 => ∃ c, x = .bl c /\ Q (.bl (!c)) H1
theorem kH {op} {t : TE} (h : PE X a t) : PE X (.BoolOp op [a] pos) t := fun pins s σ H Q I hw => BoolOp_one (h pins s σ H Q I hw)
theorem jF (ha : PE X a ta) (hb : PE X (.BoolOp .And (b :: gH) pos) tb) : PE X (.BoolOp .And (a :: b :: gH) pos) (aDp ta tb) := by
  intro pins s σ H Q I h
  refine BoolOp_and (thn (ha pins s σ H _ I h) fun v s1 hx9 => ?_)
  obtain ⟨x, H1, I1, r1, q1⟩ := hx9
  obtain ⟨c, rfl, q1⟩ := q1
  cases r1
  refine wpAny_truthy_bool ?_
  cases c with
  | true => exact hb pins s1 σ H1 Q I1 q1
  | false => exact ⟨.bl false, H1, I1, rfl, q1⟩
theorem aAf (ha : PE X a ta) : PE X (.UnaryOp .Not a pos) (aDq ta) := by
  intro pins s σ H Q I h
  refine UnaryOp_ (thn (ha pins s σ H _ I h) fun v s1 hx9 => ?_)
  obtain ⟨x, H1, I1, r1, q1⟩ := hx9
  obtain ⟨c, rfl, q1⟩ := q1
  cases r1
  exact not_of (wpAny_truthy_bool ⟨.bl (!c), H1, I1, rfl, q1⟩)
end
end L2
namespace L2
open PySem PySem.Spec PyProof.Rows
def SqL (K : PySem.W.Frag) (H : Hp) (a : Addr) (xs : List V) : Prop :=
  Rd H a (.lst xs) ∨
    ∃ (o : Obj) (its : Array Value) (n : Nat), K.lookup a = some o /\ o.cls = .type "list" /\ o.dict = none /\ o.data = .seq its n /\ its.size <= sizeLine /\ aX xs its.toList
def SqT (K : PySem.W.Frag) (H : Hp) (a : Addr) (xs : List V) : Prop :=
  Rd H a (.tup xs) ∨
    ∃ (o : Obj) (its : Array Value) (n : Nat), K.lookup a = some o /\ o.cls = .type "tuple" /\ o.dict = none /\ o.data = .seq its n /\ its.size <= sizeLine /\ aX xs its.toList
def aD5 : Value -> Option V
  | .none => some .non
  | .bool b => some (.bl b)
  | .int i _ => some (.int i)
  | .str x _ => some (.str x)
  | .bytes b _ => some (.byt b)
  | .float b _ => some (.flt b)
  | .ref a => some (.ref a)
  | .type n => some (.ty n)
  | _ => none
theorem bG.abs {x : V} {u : Value} (r : bG x u) : aD5 u = some x := by
  cases x with
  | non => cases r; rfl
  | bl _ => cases r; rfl
  | int _ => obtain ⟨t, rfl⟩ := r; rfl
  | str _ => obtain ⟨t, rfl⟩ := r; rfl
  | byt _ => obtain ⟨t, rfl⟩ := r; rfl
  | flt _ => obtain ⟨t, rfl⟩ := r; rfl
  | ref _ => cases r; rfl
  | ty _ => cases r; rfl
theorem bG.inj {x y : V} {u : Value} (r : bG x u) (q : bG y u) : x = y := Option.some.inj (r.abs.symm.trans q.abs)
theorem aX.inj : ∀ {xs ys : List V} {us : List Value}, aX xs us -> aX ys us -> xs = ys
  := by
  intro xs ys us h
  induction h generalizing ys with
  | nil => intro q; cases q; rfl
  | cons r t ih => intro q; cases q with | cons r' t' => rw [r.inj r', ih t']
section
variable {X : Cx} {pins : List (Addr × Obj)} {σ : St} {H : Hp} {s : Shared} {a : Addr} {xs ys : List V}
theorem SqL.of {K : PySem.W.Frag} (h : H a = some (.lst xs)) : SqL K H a xs := .inl (.inl h)
theorem SqT.of {K : PySem.W.Frag} (h : H a = some (.tup xs)) : SqT K H a xs := .inl (.inl h)
theorem Inv.list (I : Inv X pins σ H s) (h : SqL X.K H a xs) : ∃ its : List Value, aX xs its /\ PlainL s.heap a its.toArray /\ xs.length <= sizeLine := by
  rcases h with h | ⟨o, its, n, hk, hc, hd, hs, hz, r⟩
  · obtain ⟨z, its, n, r, e⟩ := h.ok I.hok
    exact ⟨its, r, ⟨_, n, e, rfl, rfl, rfl⟩, z⟩
  · refine ⟨its.toList, r, ⟨o, n, I.kIn a o hk, hc, hd, by simpa using hs⟩, ?_⟩
    have e := r.length
    simp only [Array.length_toList] at e
    omega
theorem Inv.tuple (I : Inv X pins σ H s) (h : SqT X.K H a xs) : ∃ its : List Value, aX xs its /\ IsTup s.heap a its.toArray /\ xs.length <= sizeLine := by
  rcases h with h | ⟨o, its, n, hk, hc, _, hs, hz, r⟩
  · obtain ⟨z, its, n, r, p⟩ := h.ok I.hok
    exact ⟨its, r, ⟨_, p, rfl, n, rfl⟩, z⟩
  · refine ⟨its.toList, r, ⟨o, I.kIn a o hk, hc, n, by simpa using hs⟩, ?_⟩
    have e := r.length
    simp only [Array.length_toList] at e
    omega
theorem Inv.list_inj (I : Inv X pins σ H s) (h : SqL X.K H a xs) (h' : SqL X.K H a ys) : xs = ys := by
  obtain ⟨its, r, ⟨o, n, e, _, _, d⟩, _⟩ := I.list h
  obtain ⟨its', r', ⟨o', n', e', _, _, d'⟩, _⟩ := I.list h'
  rw [e] at e'; cases e'
  rw [d] at d'
  injection d' with d1 _
  have : its = its' := by simpa using congrArg Array.toList d1
  subst this
  exact r.inj r'
theorem Inv.tuple_inj (I : Inv X pins σ H s) (h : SqT X.K H a xs) (h' : SqT X.K H a ys) : xs = ys := by
  obtain ⟨its, r, ⟨o, e, _, n, d⟩, _⟩ := I.tuple h
  obtain ⟨its', r', ⟨o', e', _, n', d'⟩, _⟩ := I.tuple h'
  rw [e] at e'; cases e'
  rw [d] at d'
  injection d' with d1 _
  have : its = its' := by simpa using congrArg Array.toList d1
  subst this
  exact r.inj r'
end
abbrev Cx.wish (X : Cx) (E : Value -> Shared -> Prop) : Cx := { X with xe := E }
abbrev Cx.nox (X : Cx) : Cx := X.wish fun _ _ => False
theorem Cx.Ok.wish {X : Cx} (ok : X.Ok) (E : Value -> Shared -> Prop) : (X.wish E).Ok :=
  ⟨ok.mod, ok.kind, ok.glob, ok.blt, ok.above, ok.inj, ok.has, ok.cab, ok.hd, ok.frames, ok.stk, ok.exf, ok.bs, ok.bsz, ok.noex, ok.exfs, ok.funs, ok.frf⟩
theorem Cx.Ok.unwish {X : Cx} {E : Value -> Shared -> Prop} (ok : (X.wish E).Ok) : X.Ok :=
  ⟨ok.mod, ok.kind, ok.glob, ok.blt, ok.above, ok.inj, ok.has, ok.cab, ok.hd, ok.frames, ok.stk, ok.exf, ok.bs, ok.bsz, ok.noex, ok.exfs, ok.funs, ok.frf⟩
section
variable {X : Cx} {pins : List (Addr × Obj)} {σ : St} {H : Hp} {s : Shared} {E : Value -> Shared -> Prop}
theorem Inv.wish (I : Inv X pins σ H s) (E : Value -> Shared -> Prop) : Inv (X.wish E) pins σ H s := ⟨I.ok.wish E, I.os, I.bare, I.base, I.loc, I.cell, I.free, I.freeC, I.pin, I.hok, I.len⟩
theorem Inv.unwish (I : Inv (X.wish E) pins σ H s) : Inv X pins σ H s := ⟨I.ok.unwish, I.os, I.bare, I.base, I.loc, I.cell, I.free, I.freeC, I.pin, I.hok, I.len⟩
theorem SP.unwish {D : Ends} {f : Flow} {s' : Shared} (h : SP (X.wish E) pins D f s') : SP X pins D f s' := by
  cases f with
  | next => obtain ⟨σ', H', I, q⟩ := h; exact ⟨σ', H', I.unwish, q⟩
  | brk => obtain ⟨σ', H', I, q⟩ := h; exact ⟨σ', H', I.unwish, q⟩
  | cont => obtain ⟨σ', H', I, q⟩ := h; exact ⟨σ', H', I.unwish, q⟩
  | ret u => obtain ⟨v, σ', H', I, r, q⟩ := h; exact ⟨v, σ', H', I.unwish, r, q⟩
theorem PE.nox {e : Expr} {t : TE} (h : PE X.nox e t) : PE X e t := fun pins s σ H Q I hw =>
  wpAny_mono (h pins s σ H Q (I.wish _) hw) (fun _ _ ⟨v, H', I', r, q⟩ => ⟨v, H', I'.unwish, r, q⟩) fun _ _ z => False.elim z
theorem PT.nox {e : Expr} {t : TT} (h : PT X.nox e t) : PT X e t := fun pins s σ H Q I hw =>
  wpAny_mono (h pins s σ H Q (I.wish _) hw) (fun _ _ ⟨H', I', q⟩ => ⟨H', I'.unwish, q⟩) fun _ _ z => False.elim z
theorem PSs.nox {st : List Stmt} {t : TS} (h : PSs X.nox st t) : PSs X st t := fun pins s σ H D I hw =>
  wpAny_mono (h pins s σ H D (I.wish _) hw) (fun _ _ q => q.unwish) fun _ _ z => False.elim z
end
section
variable {X : Cx} {st : Stmt} {gH : List Stmt} {t u : TS} {e : Expr} {te : TE} {pos : Pos}
def aDr : TS := fun D σ H => D.nx σ H
def aDs (t u : TS) : TS := fun D σ H => t { D with nx := u D } σ H
theorem bE : PSs X [] aDr := fun _ _ σ H _ I h => wpAny_execs_nil ⟨σ, H, I, h⟩
theorem aD (h1 : PS X st t) (h2 : PSs X gH u) : PSs X (st :: gH) (aDs t u) := by
  intro pins s σ H D I h
  refine wpAny_execs_cons (thn (h1 pins s σ H { D with nx := u D } I h) fun f s1 q => ?_)
  cases f with
  | next =>
    obtain ⟨σ', H', I', q⟩ := q
    exact h2 pins s1 σ' H' D I' q
  | ret v => exact q
  | brk => exact q
  | cont => exact q
theorem aG (h1 : PS X st t) : PSs X [st] t := by
  intro pins s σ H D I h
  refine wpAny_execs_cons (thn (h1 pins s σ H D I h) fun f s1 q => ?_)
  cases f with
  | next => exact wpAny_execs_nil q
  | ret v => exact q
  | brk => exact q
  | cont => exact q
theorem Inv.quiet {pins : List (Addr × Obj)} {σ : St} {H : Hp} {s : Shared} (I : Inv X pins σ H s) : interactive X.env = false := by simp [interactive, I.ok.kind]
def aDt (te : TE) : TS := fun D σ H => te σ H fun _ H1 => D.nx σ H1
theorem eQ (he : PE X e te) (hs : swapsWith e none pos.line X.env = pure false := by rfl) : PS X (.Expr e pos) (aDt te) := by
  intro pins s σ H D I h
  refine wpAny_Expr_any (thn (he pins s σ H _ I h) fun v s1 hx9 => ?_) I.quiet hs
  obtain ⟨x, H1, I1, r1, q1⟩ := hx9
  exact ⟨σ, H1, I1, q1⟩
def aD6 (te : TE) : TS := fun D σ H => te σ H D.rt
theorem aP (he : PE X e te) : PS X (.Return (some e) pos) (aD6 te) := by
  intro pins s σ H D I h
  refine wpAny_Return_some (thn (he pins s σ H _ I h) fun v s1 hx9 => ?_)
  obtain ⟨x, H1, I1, r1, q1⟩ := hx9
  exact ⟨x, σ, H1, I1, r1, q1⟩
def aD7 (c : TT) (t u : TS) : TS := fun D σ H => c σ H fun b H1 => if b = true then t D σ H1 else u D σ H1
theorem cL {c : Expr} {a b : List Stmt} {tc : TT} (hc : PT X c tc) (ha : PSs X a t) (hb : PSs X b u) : PS X (.If c a b pos) (aD7 tc t u) := by
  intro pins s σ H D I h
  refine wpAny_If (thn (hc pins s σ H _ I h) fun d s1 hx9 => ?_)
  obtain ⟨H1, I1, q1⟩ := hx9
  cases d with
  | true => exact ha pins s1 σ H1 D I1 q1
  | false => exact hb pins s1 σ H1 D I1 q1
def aCL : TS := fun _ _ _ => False
theorem lR {sts : List Stmt} : PSs X sts aCL := fun _ _ _ _ _ _ h => h.elim
end
abbrev TG := V -> St -> Hp -> (St -> Hp -> Prop) -> Prop
abbrev TGs := List V -> St -> Hp -> (St -> Hp -> Prop) -> Prop
def PG (X : Cx) (target : Expr) (t : TG) : Prop :=
  ∀ (pins : List (Addr × Obj)) (s : Shared) (σ : St) (H : Hp) (v : V) (u : Value) (Q : St -> Hp -> Prop), Inv X pins σ H s -> bG v u -> t v σ H Q ->
    wpAny (model X.prog X.w) X.A (assign target X.env u) (fun _ s' => ∃ σ' H', Inv X pins σ' H' s' /\ Q σ' H') X.xe s
def PGs (X : Cx) (ts : List Expr) (t : TGs) : Prop :=
  ∀ (pins : List (Addr × Obj)) (s : Shared) (σ : St) (H : Hp) (vs : List V) (us : List Value) (Q : St -> Hp -> Prop), Inv X pins σ H s -> aX vs us -> t vs σ H Q ->
    wpAny (model X.prog X.w) X.A (assignInOrder ((assignEach ts X.env).map (·.2)) us) (fun _ s' => ∃ σ' H', Inv X pins σ' H' s' /\ Q σ' H') X.xe s
abbrev aCM := V -> V -> V -> Hp -> (Hp -> Prop) -> Prop
def aDu (X : Cx) (t : aCM) : Prop :=
  ∀ (pins : List (Addr × Obj)) (s : Shared) (σ : St) (H : Hp) (o i v : V) (ov iv u : Value) (Q : Hp -> Prop), Inv X pins σ H s -> bG o ov -> bG i iv -> bG v u -> t o i v H Q ->
    wpAny (model X.prog X.w) X.A (setItem ov iv u) (fun _ s' => ∃ H', Inv X pins σ H' s' /\ Q H') X.xe s
section
variable {X : Cx} {pos : Pos}
def wO (i : Nat) : TG := fun v σ H Q => Q (σ.set i (some v)) H
theorem aL {i : Nat} {x : Str} (hN : X.N.Nodup) (hi : X.N[i]? = some x) (hx : Loc X.env.scope x) (hf : X.fn x = true ∨ X.env.scope.names.lookup x = some .local := by first | exact .inl rfl | exact .inr rfl | assumption) : PG X (.Name x pos) (wO i) := by
  intro pins s σ H v u Q I r h
  exact wpAny_assign_Name (sL I hN hi hx r (fun s' I' => ⟨_, H, I', h⟩) hf)
def aD8 : TGs := fun vs σ H Q => vs = [] /\ Q σ H
def aDv (t : TG) (u : TGs) : TGs := fun vs σ H Q => ∃ v r, vs = v :: r /\ t v σ H fun σ' H' => u r σ' H' Q
theorem eF : PGs X [] aD8 := by
  intro pins s σ H vs us Q I r h
  obtain ⟨e, h⟩ := h
  subst e
  cases r
  exact assignInOrder_nil ⟨σ, H, I, h⟩
theorem bC {e : Expr} {es : List Expr} {t : TG} {u : TGs} (h1 : PG X e t) (h2 : PGs X es u)
    (hs : (assignEach (e :: es) X.env).map (·.2) = assign e X.env :: (assignEach es X.env).map (·.2) := by rfl) : PGs X (e :: es) (aDv t u) := by
  intro pins s σ H vs us Q I r h
  obtain ⟨v, vr, e1, h⟩ := h
  subst e1
  cases r with
  | cons r rr =>
    rw [hs]
    refine assignInOrder_cons (thn (h1 pins s σ H _ _ _ I r h) fun _ s1 hx9 => ?_)
    obtain ⟨σ1, H1, I1, q1⟩ := hx9
    exact h2 pins s1 σ1 H1 _ _ Q I1 rr q1
def aDw (K : PySem.W.Frag) (n : Nat) (t : TGs) : TG := fun v σ H Q => ∃ a xs, v = .ref a /\ SqT K H a xs /\ xs.length = n /\ t xs σ H Q
theorem gY {es : List Expr} {k : Nat} {t : TGs} {n : Nat} (hc : X.calm = true) (h : PGs X es t)
    (hn : (assignEach es X.env).length = n := by rfl) (hst : (assignEach es X.env).findIdx? (·.1) = none := by rfl) : PG X (.Tuple es k pos) (aDw X.K n t) := by
  intro pins s σ H v u Q I r hw
  obtain ⟨a, xs, e1, hq, hl, hw⟩ := hw
  subst e1
  cases r
  obtain ⟨its, rv, ht, hz⟩ := I.tuple hq
  refine assign_Tuple_tuple (I.ok.hd hc) ht (by simp [hn, <- hl, rv.length]) hst fun h' hx => ?_
  have I1 : Inv X pins σ H { s with heap := h' } := I.kept (t' := s.toks) fun b o e => hx b o (Nat.ne_of_lt (Heap.lt_size e)) e
  exact h pins _ σ H xs _ Q I1 (by simpa using rv) hw
def aD9 (to ti : TE) (t : aCM) : TG := fun v σ H Q => to σ H fun o H1 => ti σ H1 fun i H2 => t o i v H2 fun H3 => Q σ H3
theorem uV {o i : Expr} {to ti : TE} {t : aCM} (ho : PE X o to) (hi : PE X i ti) (hs : aDu X t)
    (ha : ∀ v, assign (.Subscript o i pos) X.env v = (do
      let ov <- holding [v] (eval o X.env)
      let iv <- holding [v, ov] (eval i X.env)
      standAt pos
      holding [v, ov, iv] (setItem ov iv v)
      release [v, ov, iv] []) := by intro _; rfl) : PG X (.Subscript o i pos) (aD9 to ti t) := by
  intro pins s σ H v u Q I r h
  rw [ha]
  refine wpAny_bind (wpAny_holding (thn (ho pins s σ H _ I h) fun ov s1 hx9 => ?_))
  obtain ⟨x, H1, I1, r1, q1⟩ := hx9
  refine wpAny_bind (wpAny_holding (thn (hi pins s1 σ H1 _ I1 q1) fun iv s2 hx9 => ?_))
  obtain ⟨y, H2, I2, r2, q2⟩ := hx9
  refine wpAny_bind (wpAny_standAt (wpAny_bind (wpAny_holding (thn (hs pins s2 σ H2 x y v ov iv u _ I2 r1 r2 r q2) fun _ s3 hx9 => ?_))))
  obtain ⟨H3, I3, q3⟩ := hx9
  exact wpAny_release ⟨σ, H3, I3, q3⟩
def aCN (te : TE) (g : TG) : TS := fun D σ H => te σ H fun x H1 => g x σ H1 D.nx
theorem iK {tg e : Expr} {te : TE} {g : TG} (he : PE X e te) (hg : PG X tg g) (hs : swapsWithSole [tg] e pos.line X.env = pure false := by rfl) (hw : swappedStores [tg] e X.env = pure none := by rfl)
    (h1 : (assignEach [tg] X.env).map (·.2) = [assign tg X.env] := by rfl) : PS X (.Assign [tg] e pos) (aCN te g) := by
  intro pins s σ H D I h
  refine wpAny_Assign_stores (thn (he pins s σ H _ I h) fun v s1 hx9 => ?_) hs hw
  obtain ⟨x, H1, I1, r1, q1⟩ := hx9
  rw [h1]
  exact thn (hg pins s1 σ H1 x v _ I1 r1 q1) fun _ s2 q => q
theorem aQ {i : Nat} {x : Str} {e : Expr} {te : TE} {pos' : Pos} (hN : X.N.Nodup) (hi : X.N[i]? = some x) (hx : Loc X.env.scope x) (he : PE X e te) (hs : swapsWith e (some (.Name x pos')) pos.line X.env = pure false := by rfl) (hf : X.fn x = true ∨ X.env.scope.names.lookup x = some .local := by first | exact .inl rfl | exact .inr rfl | assumption) :
    PS X (.Assign [.Name x pos'] e pos) (aCN te (wO i)) := by
  intro pins s σ H D I h
  refine wpAny_Assign_Name (thn (he pins s σ H _ I h) fun v s1 hx9 => ?_) hs
  obtain ⟨y, H1, I1, r1, q1⟩ := hx9
  exact sL I1 hN hi hx r1 (fun s2 I2 => ⟨_, H1, I2, q1⟩) hf
end
section
variable {X : Cx} {pos : Pos}
def aCO (c : TT) (tb : TS) : TS := fun D σ H => ∃ W : Nat -> St -> Hp -> Prop, (∃ m, W m σ H) /\ ∀ m σ H, W m σ H ->
  c σ H fun b H1 => if b = true then ∃ N : St -> Hp -> Prop, (∀ σ' H', N σ' H' -> ∃ m', m' < m /\ W m' σ' H') /\ tb { D with nx := N, ct := N, bk := D.nx } σ H1 else D.nx σ H1
theorem nQ {c : Expr} {body : List Stmt} {tc : TT} {tb : TS} (hp : PassesOwn (model X.prog X.w) X.A X.env X.xe) (hc : PT X c tc) (hb : PSs X body tb) : PS X (.While c body [] pos) (aCO tc tb) := by
  intro pins s σ H D I h
  obtain ⟨W, ⟨m0, w0⟩, turn⟩ := h
  refine wpAny_While (codeAny_whileLoop (fun n s' => ∃ σ' H', Inv X pins σ' H' s' /\ W n σ' H') ?_ m0 ⟨σ, H, I, w0⟩)
  rintro n s1 ⟨σ1, H1, I1, w1⟩
  refine wpAny_passesOwn hp (thn (hc pins s1 σ1 H1 _ I1 (turn n σ1 H1 w1)) fun b s2 hx9 => ?_)
  obtain ⟨H2, I2, q2⟩ := hx9
  cases b with
  | true =>
    obtain ⟨N, hN, q2⟩ := q2
    rw [if_pos rfl]
    refine wpAny_passesOwn hp (thn (hb pins s2 σ1 H2 _ I2 q2) fun f s3 q3 => ?_)
    cases f with
    | next =>
      obtain ⟨σ3, H3, I3, n3⟩ := q3
      obtain ⟨m', hm, w3⟩ := hN σ3 H3 n3
      exact ⟨m', hm, σ3, H3, I3, w3⟩
    | cont =>
      obtain ⟨σ3, H3, I3, n3⟩ := q3
      obtain ⟨m', hm, w3⟩ := hN σ3 H3 n3
      exact ⟨m', hm, σ3, H3, I3, w3⟩
    | brk => exact q3
    | ret v => exact q3
  | false =>
    rw [if_neg Bool.false_ne_true]
    exact wpAny_execs_nil ⟨σ1, H2, I2, q2⟩
end
structure It where
  go : Nat -> Hp -> Prop
  yld : Nat -> Hp -> V -> Hp -> Prop
  stop : Nat -> Hp -> Prop
def kQ (X : Cx) (pins : List (Addr × Obj)) (H : Hp) (b : Addr) : Prop :=
  H b = none /\ b ≠ X.env.locals /\ b ∉ X.fs /\ (b ∈ X.ex ∨ X.s₀.heap.objs.size <= b) /\ (∀ x c, X.env.cells.lookup x = some c -> c ≠ b) /\ ∀ p ∈ X.pn ++ pins, p.1 ≠ b
theorem Inv.fpOk {X : Cx} {pins : List (Addr × Obj)} {σ : St} {H H' : Hp} {s : Shared} {b : Addr} (I : Inv X pins σ H s) (hb : s.heap.objs.size <= b) (hn : H' b = none) : kQ X pins H' b := by
  refine ⟨hn, Nat.ne_of_gt (Nat.lt_of_lt_of_le I.lt hb), I.nofs hb, .inr (Nat.le_trans I.sz hb), fun x c e z => ?_, fun p hp z => ?_⟩
  · obtain ⟨v, q⟩ := I.cell x c e
    exact absurd (Nat.lt_of_lt_of_le q.lt (by rw [z]; exact hb)) (Nat.lt_irrefl _)
  · exact absurd (Nat.lt_of_lt_of_le (Heap.lt_size (I.pin p hp).1) (by rw [z]; exact hb)) (Nat.lt_irrefl _)
structure Turn (P : Program) (w : World) (K : PySem.W.Frag) (tg : Expr) (J : It) (fp : List Addr) (it : Addr) (tn : Nat -> Heap -> Prop) : Prop where
  mem : it ∈ fp
  obj : ∀ i h, tn i h -> ∀ b ∈ fp, ∃ o, h.get? b = some o /\ ∀ v, o.data ≠ .cell v
  keep : ∀ i h h', tn i h -> (∀ b ∈ fp, ∀ o, h.get? b = some o -> h'.get? b = some o) -> tn i h'
  item : ∀ (X : Cx), X.prog = P -> X.w = w -> X.K = K -> X.calm = true -> ∀ (i : Nat) (pins : List (Addr × Obj)) (s : Shared) (σ : St) (H : Hp) (E : Value -> Shared -> Prop), Inv X pins σ H s -> (∀ b ∈ fp, kQ X pins H b) -> tn i s.heap -> J.go i H ->
    wpAny (model P w) X.A (pyNext (.ref it)) (fun r s1 => ∃ u, r = some u /\
      wpAny (model P w) X.A (letOwnedTupleGo tg (.ref it) u) (fun _ s2 => ∃ x H', Inv X pins σ H' s2 /\ bG x u /\ J.yld i H x H' /\ tn (i + 1) s2.heap /\ ∀ b ∈ fp, H' b = none) E s1) E s
  done : ∀ (X : Cx), X.prog = P -> X.w = w -> X.K = K -> X.calm = true -> ∀ (i : Nat) (pins : List (Addr × Obj)) (s : Shared) (σ : St) (H : Hp) (E : Value -> Shared -> Prop), Inv X pins σ H s -> (∀ b ∈ fp, kQ X pins H b) -> tn i s.heap -> J.stop i H ->
    wpAny (model P w) X.A (pyNext (.ref it)) (fun r s1 => r = none /\ Inv X pins σ H s1) E s
  self : ∀ (A : Around) (i : Nat) (s : Shared) (Q : Value -> Shared -> Prop) (E : Value -> Shared -> Prop), tn i s.heap -> Q (.ref it) s -> wpAny (model P w) A (pyIter (.ref it)) Q E s
abbrev TI := St -> Hp -> (It -> Hp -> Prop) -> Prop
def PIE (X : Cx) (pins : List (Addr × Obj)) (σ : St) (tg : Expr) (R : It -> Hp -> Prop) (itv : Value) (s2 : Shared) : Prop :=
  ∃ (it : Addr) (fp : List Addr) (tn : Nat -> Heap -> Prop) (J : It) (H' : Hp), itv = .ref it /\ Inv X pins σ H' s2 /\ Turn X.prog X.w X.K tg J fp it tn /\ tn 0 s2.heap /\ (∀ b ∈ fp, kQ X pins H' b) /\ R J H'
def PI (X : Cx) (tg iter : Expr) (wi : TI) : Prop :=
  ∀ (pins : List (Addr × Obj)) (s : Shared) (σ : St) (H : Hp) (R : It -> Hp -> Prop), Inv X pins σ H s -> wi σ H R ->
    wpAny (model X.prog X.w) X.A (eval iter X.env) (fun v s1 => wpAny (model X.prog X.w) X.A (pyIter v) (PIE X pins σ tg R) X.xe s1) X.xe s
theorem wP {M : Model} {A : Around} {E : Value -> Shared -> Prop} {s : Shared} {tg : Expr} {it : Addr} {u : Value} {o : Obj} {n : String} {vs : Array Value} {Q : Unit -> Shared -> Prop} (ho : s.heap.get? it = some o) (hc : o.cls = .type n) (hd : o.data = .fields vs)
    (hn : ["enumerate", "zip", "dict_itemiterator", "dict_reverseitemiterator", "odict_iterator", "itertools.zip_longest", "itertools.pairwise"].contains n = false) (hQ : Q () s) : wpAny M A (letOwnedTupleGo tg (.ref it) u) Q E s := by
  unfold letOwnedTupleGo
  cases tg <;> first
    | exact wpAny_pure hQ
    | (cases u <;> first
        | exact wpAny_pure hQ
        | (refine wpAny_bind (wpAny_load ho ?_)
           rw [hc, hd]
           show wpAny M A (if (["enumerate", "zip", "dict_itemiterator", "dict_reverseitemiterator", "odict_iterator", "itertools.zip_longest", "itertools.pairwise"].contains n && vs[0]? == some (rawInt _)) = true then _ else _) Q E s
           rw [if_neg (by intro h; rw [hn, Bool.false_and] at h; cases h)]
           exact wpAny_pure hQ))
def Itl (K : PySem.W.Frag) (a : Addr) : It :=
  ⟨fun i H => ∃ xs x, SqL K H a xs /\ xs[i]? = some x, fun i H x H' => H' = H /\ ∀ xs, SqL K H a xs -> xs[i]? = some x, fun i H => ∃ xs, SqL K H a xs /\ xs.length <= i⟩
def Itt (K : PySem.W.Frag) (a : Addr) : It :=
  ⟨fun i H => ∃ xs x, SqT K H a xs /\ xs[i]? = some x, fun i H x H' => H' = H /\ ∀ xs, SqT K H a xs -> xs[i]? = some x, fun i H => ∃ xs, SqT K H a xs /\ xs.length <= i⟩
def Itr (lo : Int) (n : Nat) : It := ⟨fun i _ => i < n, fun i H x H' => H' = H /\ x = .int (lo + i), fun i _ => n <= i⟩
theorem yJ {P : Program} {w : World} {K : PySem.W.Frag} {tg : Expr} (a it : Addr) : Turn P w K tg (Itl K a) [it] it (fun i h => h.IsListIter it a i) where
  mem := by simp
  obj := fun i h st b hb => by
    have e : b = it := by simpa using hb
    subst e
    obtain ⟨o, e, c, d⟩ := st
    exact ⟨o, e, fun v z => by rw [d] at z; cases z⟩
  keep := fun i h h' st k => st.at fun o e => k it (by simp) o e
  item := by
    intro X hP hw hK hc i pins s σ H E I hf st hg
    subst hP hw hK
    obtain ⟨xs, x, hq, hx⟩ := hg
    obtain ⟨its, rv, p, hz⟩ := I.list hq
    obtain ⟨u, hu, ru⟩ := rv.get hx
    obtain ⟨f0, f1, f2, f3, f4, f5⟩ := hf it (by simp)
    refine wpAny_pyNext_list_item st p.isList (x := u) (by simpa using hu) fun h' st' sb => ?_
    have I1 : Inv X pins σ H { s with heap := h' } := I.turned (t' := s.toks) (fun b o hb e => (sb.2 b hb).trans e) f0 f1 f3 f4 f5
    obtain ⟨o, e, c, d⟩ := id st'
    exact ⟨u, rfl, wP (s := { s with heap := h' }) e c d (by decide) ⟨x, H, I1, ru, ⟨rfl, fun ys hy => by rw [I.list_inj hy hq]; exact hx⟩, st', fun b hb => (hf b hb).1⟩⟩
  done := by
    intro X hP hw hK hc i pins s σ H E I hf st hg
    subst hP hw hK
    obtain ⟨xs, hq, hx⟩ := hg
    obtain ⟨its, rv, p, hz⟩ := I.list hq
    obtain ⟨f0, f1, f2, f3, f4, f5⟩ := hf it (by simp)
    have hl := rv.length
    exact wpAny_pyNext_list_end (I.ok.hd hc) st p.isList (by simp; omega) fun h' eb => ⟨rfl, I.turned (t' := s.toks) (fun b o hb e => eb b o hb e) f0 f1 f3 f4 f5⟩
  self := fun _ _ _ _ _ st h => wpAny_pyIter_listiter st h
theorem uW {P : Program} {w : World} {K : PySem.W.Frag} {tg : Expr} (a it : Addr) : Turn P w K tg (Itt K a) [it] it (fun i h => h.IsTupleIter it a i) where
  mem := by simp
  obj := fun i h st b hb => by
    have e : b = it := by simpa using hb
    subst e
    obtain ⟨o, e, c, d⟩ := st
    exact ⟨o, e, fun v z => by rw [d] at z; cases z⟩
  keep := fun i h h' st k => st.at fun o e => k it (by simp) o e
  item := by
    intro X hP hw hK hc i pins s σ H E I hf st hg
    subst hP hw hK
    obtain ⟨xs, x, hq, hx⟩ := hg
    obtain ⟨its, rv, p, hz⟩ := I.tuple hq
    obtain ⟨u, hu, ru⟩ := rv.get hx
    obtain ⟨f0, f1, f2, f3, f4, f5⟩ := hf it (by simp)
    refine wpAny_pyNext_tuple_item st (show s.heap.IsTuple a its.toArray from p) (x := u) (by simpa using hu) fun h' st' sb => ?_
    have I1 : Inv X pins σ H { s with heap := h' } := I.turned (t' := s.toks) (fun b o hb e => (sb.2 b hb).trans e) f0 f1 f3 f4 f5
    obtain ⟨o, e, c, d⟩ := id st'
    exact ⟨u, rfl, wP (s := { s with heap := h' }) e c d (by decide) ⟨x, H, I1, ru, ⟨rfl, fun ys hy => by rw [I.tuple_inj hy hq]; exact hx⟩, st', fun b hb => (hf b hb).1⟩⟩
  done := by
    intro X hP hw hK hc i pins s σ H E I hf st hg
    subst hP hw hK
    obtain ⟨xs, hq, hx⟩ := hg
    obtain ⟨its, rv, p, hz⟩ := I.tuple hq
    obtain ⟨f0, f1, f2, f3, f4, f5⟩ := hf it (by simp)
    have hl := rv.length
    exact wpAny_pyNext_tuple_end (I.ok.hd hc) st (show s.heap.IsTuple a its.toArray from p) (by simp; omega) fun h' eb => ⟨rfl, I.turned (t' := s.toks) (fun b o hb e => eb b o hb e) f0 f1 f3 f4 f5⟩
  self := fun _ _ _ _ _ st h => wpAny_pyIter_tupleiter st h
theorem uX {P : Program} {w : World} {K : PySem.W.Frag} {tg : Expr} (it : Addr) (lo : Int) (n : Nat) : Turn P w K tg (Itr lo n) [it] it (fun i h => IsRangeIter h it (lo + (i : Nat) * 1) ((n : Int) - (i : Nat)) 1) where
  mem := by simp
  obj := fun i h st b hb => by
    have e : b = it := by simpa using hb
    subst e
    exact ⟨_, st, fun v z => by
      have z' : Data.fields _ = Data.cell v := z
      cases z'⟩
  keep := fun i h h' st k => k it (by simp) _ st
  item := by
    intro X hP hw hK hc i pins s σ H E I hf st hg
    subst hP hw hK
    obtain ⟨f0, f1, f2, f3, f4, f5⟩ := hf it (by simp)
    have W := Walks.range (prog := X.prog) (w := X.w) (I.ok.hd hc) it lo 1 n
    refine W.item i s _ _ hg st fun v h' tk hv st' kk => ?_
    obtain ⟨t, rfl⟩ := hv
    have I1 : Inv X pins σ H { s with heap := h', toks := tk } := I.turned (fun b o hb e => kk b o (by simpa using hb) e) f0 f1 f3 f4 f5
    refine ⟨_, rfl, wP (s := { s with heap := h', toks := tk }) (n := "range_iterator") st' rfl rfl (by decide) ⟨.int (lo + i), H, I1, ⟨t, ?_⟩, ⟨rfl, rfl⟩, st', fun b hb => (hf b hb).1⟩⟩
    rw [Int.mul_one]
  done := by
    intro X hP hw hK hc i pins s σ H E I hf st hg
    subst hP hw hK
    obtain ⟨f0, f1, f2, f3, f4, f5⟩ := hf it (by simp)
    exact wpAny_pyNext_range_end (I.ok.hd hc) st (by have : n <= i := hg; omega) fun h' eb => ⟨rfl, I.turned (t' := s.toks) (fun b o hb e => eb b o hb e) f0 f1 f3 f4 f5⟩
  self := fun _ _ _ _ _ st h => wpAny_pyIter_rangeiter st h
end L2
namespace L2
open PySem PySem.Spec PyProof.Rows
section
variable {X : Cx} {tg : Expr}
def aDx (K : PySem.W.Frag) (tl : TE) : TI := fun σ H R => tl σ H fun x H1 => ∃ a, x = .ref a /\ (∃ xs, SqL K H1 a xs) /\ R (Itl K a) H1
def aEa (K : PySem.W.Frag) (tl : TE) : TI := fun σ H R => tl σ H fun x H1 => ∃ a, x = .ref a /\ (∃ xs, SqT K H1 a xs) /\ R (Itt K a) H1
theorem mW {l : Expr} {tl : TE} (hl : PE X l tl) : PI X tg l (aDx X.K tl) := by
  intro pins s σ H R I h
  refine thn (hl pins s σ H _ I h) fun v s1 hx9 => ?_
  obtain ⟨x, H1, I1, r1, q1⟩ := hx9
  obtain ⟨a, e, ⟨xs, hq⟩, q⟩ := q1
  subst e
  cases r1
  obtain ⟨its, rv, p, hz⟩ := I1.list hq
  refine wpAny_pyIter_list p.isList ?_
  refine ⟨s1.heap.objs.size, [s1.heap.objs.size], _, _, H1, rfl, I1.kept (t' := s1.toks) fun b o e => Heap.get?_push_of_some _ e, yJ a _, ⟨_, Heap.get?_push_size _ rfl, rfl, rfl⟩, fun b hb => ?_, q⟩
  have e : b = s1.heap.objs.size := by simpa using hb
  subst e
  exact I1.fpOk (Nat.le_refl _) (I1.hok.fresh (Nat.le_refl _))
theorem iL {l : Expr} {tl : TE} (hl : PE X l tl) : PI X tg l (aEa X.K tl) := by
  intro pins s σ H R I h
  refine thn (hl pins s σ H _ I h) fun v s1 hx9 => ?_
  obtain ⟨x, H1, I1, r1, q1⟩ := hx9
  obtain ⟨a, e, ⟨xs, hq⟩, q⟩ := q1
  subst e
  cases r1
  obtain ⟨its, rv, p, hz⟩ := I1.tuple hq
  refine wpAny_pyIter_tuple (show s1.heap.IsTuple a its.toArray from p) ?_
  refine ⟨s1.heap.objs.size, [s1.heap.objs.size], _, _, H1, rfl, I1.kept (t' := s1.toks) fun b o e => Heap.get?_push_of_some _ e, uW a _, ⟨_, Heap.get?_push_size _ rfl, rfl, rfl⟩, fun b hb => ?_, q⟩
  have e : b = s1.heap.objs.size := by simpa using hb
  subst e
  exact I1.fpOk (Nat.le_refl _) (I1.hok.fresh (Nat.le_refl _))
theorem sM {pins : List (Addr × Obj)} {σ : St} {H : Hp} {s : Shared} {R : It -> Hp -> Prop} {E : Value -> Shared -> Prop} {lo hi : Int} {t u v : Tok} {tk : Nat} (I : Inv X pins σ H s) (h1 : -(2 ^ 62) <= lo) (h2 : lo < 2 ^ 62) (h3 : -(2 ^ 62) <= hi) (h4 : hi < 2 ^ 62)
    (q : R (Itr lo (hi - lo).toNat) H) : wpAny (model X.prog X.w) X.A (pyIter (.ref s.heap.objs.size)) (PIE X pins σ tg R) E { s with heap := s.heap.push { cls := .type "range", data := .fields #[.int lo t, .int hi u, .int 1 v] }, toks := tk } := by
  refine wpAny_pyIter_range (IsRange.new ..) (small_one h1 h2 h3 h4) ?_
  have I1 : Inv X pins σ H { s with heap := s.heap.push { cls := .type "range", data := .fields #[.int lo t, .int hi u, .int 1 v] }, toks := tk } := I.kept fun b o e => Heap.get?_push_of_some _ e
  refine ⟨(s.heap.push { cls := .type "range", data := .fields #[.int lo t, .int hi u, .int 1 v] }).objs.size, [(s.heap.push { cls := .type "range", data := .fields #[.int lo t, .int hi u, .int 1 v] }).objs.size], _, _, H, rfl,
    I1.kept (t' := tk) fun b o e => Heap.get?_push_of_some _ e, uX _ lo (hi - lo).toNat, ?_, fun b hb => ?_, q⟩
  · have e1 : lo + ((0 : Nat) : Int) * 1 = lo := by simp
    have e2 : (((hi - lo).toNat : Nat) : Int) - ((0 : Nat) : Int) = Builtin.Range.rangeSize lo hi 1 := by rw [rangeSize_one]; split <;> omega
    show IsRangeIter _ _ (lo + ((0 : Nat) : Int) * 1) ((((hi - lo).toNat : Nat) : Int) - ((0 : Nat) : Int)) 1
    rw [e1, e2]
    exact Heap.get?_push_size _ rfl
  · have e : b = (s.heap.push { cls := .type "range", data := .fields #[.int lo t, .int hi u, .int 1 v] }).objs.size := by simpa using hb
    subst e
    exact I1.fpOk (Nat.le_refl _) (I1.hok.fresh (Nat.le_refl _))
def aDy (ta : TA) : TI := fun σ H R => ta σ H fun vs H1 => ∃ j : Int, vs = [.int j] /\ -(2 ^ 62) <= j /\ j < 2 ^ 62 /\ R (Itr 0 j.toNat) H1
def aDz (ta : TA) : TI := fun σ H R => ta σ H fun vs H1 => ∃ i j : Int, vs = [.int i, .int j] /\ (-(2 ^ 62) <= i /\ i < 2 ^ 62 /\ -(2 ^ 62) <= j /\ j < 2 ^ 62) /\ R (Itr i (j - i).toNat) H1
theorem bT {a : Expr} {ta : TA} {p pos : Pos} (hg : Gl X "range") (hm : X.mg "range" = none) (ha : PA X [a] ta) (hs : starEach [a] X.env = [(false, eval a X.env)] := by rfl) : PI X tg (.Call (.Name "range" p) [a] [] pos) (aDy ta) := by
  intro pins s σ H R I h
  refine Call_ (gX I hg hm boot_range (PyProof.Rows.callWith_type1 (thn (ha pos pins s σ H _ I h) fun us s1 hx9 => ?_) hs rfl))
  obtain ⟨vs, H1, I1, r1, q1⟩ := hx9
  obtain ⟨j, e, q1, q2, q⟩ := q1
  subst e
  cases r1 with
  | cons r rr =>
    cases rr
    obtain ⟨t, rfl⟩ := r
    exact call_range_1 (sM I1 (by omega) (by omega) q1 q2 (by simpa using q))
theorem yK {a b : Expr} {ta : TA} {p pos : Pos} (hg : Gl X "range") (hm : X.mg "range" = none) (ha : PA X [a, b] ta) (hs : starEach [a, b] X.env = [(false, eval a X.env), (false, eval b X.env)] := by rfl) (hs2 : starEach [b] X.env = [(false, eval b X.env)] := by rfl) :
    PI X tg (.Call (.Name "range" p) [a, b] [] pos) (aDz ta) := by
  intro pins s σ H R I h
  refine Call_ (gX I hg hm boot_range (PyProof.Rows.callWith_type1 (thn (ha pos pins s σ H _ I h) fun us s1 hx9 => ?_) (by rw [hs, hs2]) (by rw [hs2]; rfl)))
  obtain ⟨vs, H1, I1, r1, q1⟩ := hx9
  obtain ⟨i, j, e, ⟨q1, q2, q3, q4⟩, q⟩ := q1
  subst e
  cases r1 with
  | cons r rr =>
    cases rr with
    | cons r' rr =>
      cases rr
      obtain ⟨t, rfl⟩ := r
      obtain ⟨t', rfl⟩ := r'
      exact call_range_2 (sM I1 q1 q2 q3 q4 q)
def aEb (wi : TI) (g : TG) (tb : TS) : TS := fun D σ H => wi σ H fun J H1 => ∃ W : Nat -> Nat -> St -> Hp -> Prop, (∃ m, W 0 m σ H1) /\ ∀ i m σ H, W i m σ H ->
  (J.stop i H /\ D.nx σ H) ∨ (J.go i H /\ ∃ N : St -> Hp -> Prop, (∀ σ' H', N σ' H' -> ∃ m', m' < m /\ W (i + 1) m' σ' H') /\ ∀ x H', J.yld i H x H' -> g x σ H' fun σ2 H2 => tb { D with nx := N, ct := N, bk := D.nx } σ2 H2)
def lT (fp : List Addr) (h : Heap) : List (Addr × Obj) := fp.filterMap fun b => (h.get? b).map fun o => (b, o)
theorem fI {fp : List Addr} {h : Heap} {b : Addr} {o : Obj} (hb : b ∈ fp) (e : h.get? b = some o) : (b, o) ∈ lT fp h := List.mem_filterMap.mpr ⟨b, hb, by rw [e]; rfl⟩
theorem yL {fp : List Addr} {h : Heap} {p : Addr × Obj} (hp : p ∈ lT fp h) : p.1 ∈ fp /\ h.get? p.1 = some p.2 := by
  obtain ⟨b, hb, e⟩ := List.mem_filterMap.mp hp
  cases q : h.get? b with
  | none => rw [q] at e; cases e
  | some o =>
    rw [q] at e
    have e' : (b, o) = p := Option.some.inj e
    subst e'
    exact ⟨hb, q⟩
theorem Inv.pinned {pins : List (Addr × Obj)} {σ : St} {H : Hp} {s : Shared} {fp : List Addr} (I : Inv X pins σ H s) (hf : ∀ b ∈ fp, kQ X pins H b) (ho : ∀ b ∈ fp, ∃ o, s.heap.get? b = some o /\ ∀ v, o.data ≠ .cell v) : Inv X (pins ++ lT fp s.heap) σ H s :=
  I.pins_of fun p hp => (List.mem_append.mp hp).elim (fun z => I.pin p (List.mem_append_right _ z)) fun z => by
    obtain ⟨hb, e⟩ := yL z
    obtain ⟨f0, f1, f2, _⟩ := hf p.1 hb
    obtain ⟨o, e', d⟩ := ho p.1 hb
    rw [e] at e'; cases e'
    exact ⟨e, f0, f1, f2, d⟩
theorem Inv.unpinned {pins pl : List (Addr × Obj)} {σ : St} {H : Hp} {s : Shared} (I : Inv X (pins ++ pl) σ H s) : Inv X pins σ H s := I.pins_of fun p hp => I.pin p (List.mem_append_right _ (List.mem_append_left _ hp))
theorem eR {iter : Expr} {body : List Stmt} {wi : TI} {g : TG} {tb : TS} {pos : Pos} (hp : PassesOwn (model X.prog X.w) X.A X.env X.xe) (hc : X.calm = true) (hi : PI X tg iter wi) (hg : PG X tg g) (hb : PSs X body tb)
    (hs : ∀ x, foldedSetIterable iter X.env x = pure x := by intro _; rfl) : PS X (.For tg iter body [] pos) (aEb wi g tb) := by
  intro pins s σ H D I h
  refine wpAny_For (thn (hi pins s σ H _ I h) fun v s1 h1 => thn h1 fun itv s2 h2 => ?_) hs
  obtain ⟨it, fp, tn, J, H2, e, I2, T, st2, f2, W, ⟨m0, w0⟩, turn⟩ := h2
  subst e
  -- what stays true of the iterator's objects through the loop
  have stat : ∀ {H' : Hp}, (∀ b ∈ fp, H' b = none) -> ∀ b ∈ fp, kQ X pins H' b := fun hn b hb => ⟨hn b hb, (f2 b hb).2⟩
  refine codeAny_forLoop_any (fun n s' => ∃ i σ' H', Inv X pins σ' H' s' /\ tn i s'.heap /\ (∀ b ∈ fp, H' b = none) /\ W i n σ' H') ?_ m0 ⟨0, σ, H2, I2, st2, fun b hb => (f2 b hb).1, w0⟩
  rintro n s3 ⟨i, σ3, H3, I3, st3, fr3, w3⟩
  rcases turn i n σ3 H3 w3 with ⟨stop, qn⟩ | ⟨go, N, hN, step⟩
  · refine wpAny_passesOwn hp (thn (T.done X rfl rfl rfl hc i pins s3 σ3 H3 X.xe I3 (stat fr3) st3 stop) fun r s4 hx9 => ?_)
    obtain ⟨hr, I4⟩ := hx9
    subst hr
    exact wpAny_execs_nil ⟨σ3, H3, I4, qn⟩
  · refine wpAny_passesOwn hp (thn (T.item X rfl rfl rfl hc i pins s3 σ3 H3 X.xe I3 (stat fr3) st3 go) fun r s4 hx9 => ?_)
    obtain ⟨u, hr, h4⟩ := hx9
    subst hr
    refine wpAny_passesOwn hp (thn h4 fun _ s5 hx9 => ?_)
    obtain ⟨x, H5, I5, r5, y5, st5, fr5⟩ := hx9
    have I5' := I5.pinned (stat fr5) (T.obj _ _ st5)
    refine wpAny_passesOwn hp (thn (hg _ s5 σ3 H5 x u _ I5' r5 (step x H5 y5)) fun _ s6 hx9 => ?_)
    obtain ⟨σ6, H6, I6, q6⟩ := hx9
    refine wpAny_passesOwn hp (thn (hb _ s6 σ6 H6 _ I6 q6) fun f s7 q7 => ?_)
    have again : ∀ {σ7 : St} {H7 : Hp}, Inv X (pins ++ lT fp s5.heap) σ7 H7 s7 -> N σ7 H7 -> ∃ m, m < n /\ ∃ i σ' H', Inv X pins σ' H' s7 /\ tn i s7.heap /\ (∀ b ∈ fp, H' b = none) /\ W i m σ' H' := fun {σ7 H7} I7 n7 => by
      obtain ⟨m', hm, w7⟩ := hN σ7 H7 n7
      refine ⟨m', hm, i + 1, σ7, H7, I7.unpinned, T.keep _ _ _ st5 fun b hb o e => (I7.pin (b, o) (List.mem_append_right _ (List.mem_append_right _ (fI hb e)))).1, fun b hb => ?_, w7⟩
      obtain ⟨o, e, d⟩ := T.obj _ _ st5 b hb
      exact (I7.pin (b, o) (List.mem_append_right _ (List.mem_append_right _ (fI hb e)))).2.1
    cases f with
    | next => obtain ⟨σ7, H7, I7, n7⟩ := q7; exact again I7 n7
    | cont => obtain ⟨σ7, H7, I7, n7⟩ := q7; exact again I7 n7
    | brk => obtain ⟨σ7, H7, I7, q7⟩ := q7; exact ⟨σ7, H7, I7.unpinned, q7⟩
    | ret v => obtain ⟨x7, σ7, H7, I7, r7, q7⟩ := q7; exact ⟨x7, σ7, H7, I7.unpinned, r7, q7⟩
end
theorem aAg {K : PySem.W.Frag} {a : Addr} {xs : List V} {g : TG} {tb : TS} {D : Ends} {σ : St} {H : Hp} (Pv : Nat -> St -> Hp -> Prop) (h0 : Pv 0 σ H) (hl : ∀ i σ H, i <= xs.length -> Pv i σ H -> SqL K H a xs)
    (hs : ∀ i x σ H, xs[i]? = some x -> Pv i σ H -> g x σ H fun σ2 H2 => tb { D with nx := Pv (i + 1), ct := Pv (i + 1), bk := D.nx } σ2 H2) (hd : ∀ σ H, Pv xs.length σ H -> D.nx σ H) :
    ∃ W : Nat -> Nat -> St -> Hp -> Prop, (∃ m, W 0 m σ H) /\ ∀ i m σ H, W i m σ H ->
      ((Itl K a).stop i H /\ D.nx σ H) ∨ ((Itl K a).go i H /\ ∃ N : St -> Hp -> Prop, (∀ σ' H', N σ' H' -> ∃ m', m' < m /\ W (i + 1) m' σ' H') /\ ∀ x H', (Itl K a).yld i H x H' -> g x σ H' fun σ2 H2 => tb { D with nx := N, ct := N, bk := D.nx } σ2 H2) := by
  refine ⟨fun i m σ H => m = xs.length - i /\ i <= xs.length /\ Pv i σ H, ⟨xs.length, by simp, Nat.zero_le _, h0⟩, ?_⟩
  rintro i m σ H ⟨rfl, hi, p⟩
  have q := hl i σ H hi p
  by_cases hlt : i < xs.length
  · refine .inr ⟨⟨xs, xs[i], q, by simp [hlt]⟩, Pv (i + 1), fun σ' H' p' => ⟨xs.length - (i + 1), by omega, rfl, hlt, p'⟩, fun x H' y => ?_⟩
    obtain ⟨e, y⟩ := y
    subst e
    exact hs i x σ _ (y xs q) p
  · have e : i = xs.length := by omega
    subst e
    exact .inl ⟨⟨xs, q, Nat.le_refl _⟩, hd σ H p⟩
theorem wQ {K : PySem.W.Frag} {a : Addr} {xs : List V} {g : TG} {tb : TS} {D : Ends} {σ : St} {H : Hp} (Pv : Nat -> St -> Hp -> Prop) (h0 : Pv 0 σ H) (hl : ∀ i σ H, i <= xs.length -> Pv i σ H -> SqT K H a xs)
    (hs : ∀ i x σ H, xs[i]? = some x -> Pv i σ H -> g x σ H fun σ2 H2 => tb { D with nx := Pv (i + 1), ct := Pv (i + 1), bk := D.nx } σ2 H2) (hd : ∀ σ H, Pv xs.length σ H -> D.nx σ H) :
    ∃ W : Nat -> Nat -> St -> Hp -> Prop, (∃ m, W 0 m σ H) /\ ∀ i m σ H, W i m σ H ->
      ((Itt K a).stop i H /\ D.nx σ H) ∨ ((Itt K a).go i H /\ ∃ N : St -> Hp -> Prop, (∀ σ' H', N σ' H' -> ∃ m', m' < m /\ W (i + 1) m' σ' H') /\ ∀ x H', (Itt K a).yld i H x H' -> g x σ H' fun σ2 H2 => tb { D with nx := N, ct := N, bk := D.nx } σ2 H2) := by
  refine ⟨fun i m σ H => m = xs.length - i /\ i <= xs.length /\ Pv i σ H, ⟨xs.length, by simp, Nat.zero_le _, h0⟩, ?_⟩
  rintro i m σ H ⟨rfl, hi, p⟩
  have q := hl i σ H hi p
  by_cases hlt : i < xs.length
  · refine .inr ⟨⟨xs, xs[i], q, by simp [hlt]⟩, Pv (i + 1), fun σ' H' p' => ⟨xs.length - (i + 1), by omega, rfl, hlt, p'⟩, fun x H' y => ?_⟩
    obtain ⟨e, y⟩ := y
    subst e
    exact hs i x σ _ (y xs q) p
  · have e : i = xs.length := by omega
    subst e
    exact .inl ⟨⟨xs, q, Nat.le_refl _⟩, hd σ H p⟩
theorem dP {lo : Int} {n : Nat} {g : TG} {tb : TS} {D : Ends} {σ : St} {H : Hp} (Pv : Nat -> St -> Hp -> Prop) (h0 : Pv 0 σ H)
    (hs : ∀ i σ H, i < n -> Pv i σ H -> g (.int (lo + i)) σ H fun σ2 H2 => tb { D with nx := Pv (i + 1), ct := Pv (i + 1), bk := D.nx } σ2 H2) (hd : ∀ σ H, Pv n σ H -> D.nx σ H) :
    ∃ W : Nat -> Nat -> St -> Hp -> Prop, (∃ m, W 0 m σ H) /\ ∀ i m σ H, W i m σ H ->
      ((Itr lo n).stop i H /\ D.nx σ H) ∨ ((Itr lo n).go i H /\ ∃ N : St -> Hp -> Prop, (∀ σ' H', N σ' H' -> ∃ m', m' < m /\ W (i + 1) m' σ' H') /\ ∀ x H', (Itr lo n).yld i H x H' -> g x σ H' fun σ2 H2 => tb { D with nx := N, ct := N, bk := D.nx } σ2 H2) := by
  refine ⟨fun i m σ H => m = n - i /\ i <= n /\ Pv i σ H, ⟨n, by simp, Nat.zero_le _, h0⟩, ?_⟩
  rintro i m σ H ⟨rfl, hi, p⟩
  by_cases hlt : i < n
  · refine .inr ⟨hlt, Pv (i + 1), fun σ' H' p' => ⟨n - (i + 1), by omega, rfl, hlt, p'⟩, fun x H' y => ?_⟩
    obtain ⟨e, y⟩ := y
    subst e y
    exact hs i σ _ hlt p
  · have e : i = n := by omega
    subst e
    exact .inl ⟨Nat.le_refl _, hd σ H p⟩
end L2
namespace L2
open PySem PySem.Spec PyProof.Rows
abbrev R2 := V -> V -> Hp -> VK -> Prop
def OpR (X : Cx) (f : Value -> Value -> Sem Value) (r : R2) : Prop :=
  ∀ (pins : List (Addr × Obj)) (s : Shared) (σ : St) (H : Hp) (x y : V) (v u : Value) (Q : VK), Inv X pins σ H s -> bG x v -> bG y u -> r x y H Q ->
    wpAny (model X.prog X.w) X.A (f v u) (EP X pins σ Q) X.xe s
def UnR (X : Cx) (f : Value -> Sem Value) (r : V -> Hp -> VK -> Prop) : Prop :=
  ∀ (pins : List (Addr × Obj)) (s : Shared) (σ : St) (H : Hp) (x : V) (v : Value) (Q : VK), Inv X pins σ H s -> bG x v -> r x H Q ->
    wpAny (model X.prog X.w) X.A (f v) (EP X pins σ Q) X.xe s
def eY (X : Cx) (f : Value) (r : List V -> Hp -> VK -> Prop) : Prop :=
  ∀ (pins : List (Addr × Obj)) (s : Shared) (σ : St) (H : Hp) (xs : List V) (us : List Value) (Q : VK), Inv X pins σ H s -> aX xs us -> r xs H Q ->
    wpAny (model X.prog X.w) X.A (call f us) (EP X pins σ Q) X.xe s
def aEc (X : Cx) (r : V -> Hp -> (Bool -> Hp -> Prop) -> Prop) : Prop :=
  ∀ (pins : List (Addr × Obj)) (s : Shared) (σ : St) (H : Hp) (x : V) (v : Value) (Q : Bool -> Hp -> Prop), Inv X pins σ H s -> bG x v -> r x H Q ->
    wpAny (model X.prog X.w) X.A (truthy v) (TP X pins σ Q) X.xe s
def tOp (r : R2) (ta tb : TE) : TE := fun σ H Q => ta σ H fun x H1 => tb σ H1 fun y H2 => r x y H2 Q
def tUn (r : V -> Hp -> VK -> Prop) (ta : TE) : TE := fun σ H Q => ta σ H fun x H1 => r x H1 Q
def rI (C : Int -> Int -> Prop) (g : Int -> Int -> V) : R2 := fun x y H Q => ∃ i j, x = .int i /\ y = .int j /\ C i j /\ Q (g i j) H
def rI0 (g : Int -> Int -> V) : R2 := fun x y H Q => ∃ i j, x = .int i /\ y = .int j /\ Q (g i j) H
def rU (g : Int -> V) : V -> Hp -> VK -> Prop := fun x H Q => ∃ i, x = .int i /\ Q (g i) H
section
variable {X : Cx} {a b c : Expr} {ta tb tc : TE} {pos : Pos}
theorem aCP (ha : PE X a ta) (hb : PE X b tb) {pins : List (Addr × Obj)} {s : Shared} {σ : St} {H : Hp} {R : V -> V -> Hp -> Prop} (I : Inv X pins σ H s)
    (h : ta σ H fun x H1 => tb σ H1 fun y H2 => R x y H2) {Q : Value -> Shared -> Prop} {f : Value -> Value -> Sem Value}
    (hf : ∀ v u s2 x y H2, Inv X pins σ H2 s2 -> bG x v -> bG y u -> R x y H2 -> wpAny (model X.prog X.w) X.A (f v u) Q X.xe s2) :
    wpAny (model X.prog X.w) X.A (eval a X.env) (fun v s₁ => wpAny (model X.prog X.w) X.A (eval b X.env) (fun u s₂ => wpAny (model X.prog X.w) X.A (f v u) Q X.xe s₂) X.xe s₁) X.xe s := by
  refine thn (ha pins s σ H _ I h) fun v s1 hx9 => ?_
  obtain ⟨x, H1, I1, r1, q1⟩ := hx9
  refine thn (hb pins s1 σ H1 _ I1 q1) fun u s2 hx9 => ?_
  obtain ⟨y, H2, I2, r2, q2⟩ := hx9
  exact hf v u s2 x y H2 I2 r1 r2 q2
theorem bX {op : Operator} {r : R2} (ho : OpR X (binaryOp op) r) (ha : PE X a ta) (hb : PE X b tb) : PE X (.BinOp a op b pos) (tOp r ta tb) := by
  intro pins s σ H Q I h
  exact wpAny_BinOp (aCP ha hb I h fun v u s2 x y H2 I2 rx ry q => ho pins s2 σ H2 x y v u Q I2 rx ry q)
theorem sN {op : UnaryOp} {r : V -> Hp -> VK -> Prop} (ho : UnR X (unaryOp op) r) (ha : PE X a ta) : PE X (.UnaryOp op a pos) (tUn r ta) := by
  intro pins s σ H Q I h
  refine UnaryOp_ (thn (ha pins s σ H _ I h) fun v s1 hx9 => ?_)
  obtain ⟨x, H1, I1, r1, q1⟩ := hx9
  exact ho pins s1 σ H1 x v Q I1 r1 q1
theorem opI {f : Value -> Value -> Sem Value} {C : Int -> Int -> Prop} {g : Int -> Int -> Int}
    (rule : ∀ (i j : Int) (t u : Tok) (s : Shared) (Q : Value -> Shared -> Prop) (E : Value -> Shared -> Prop), C i j -> Q (.int (g i j) s.toks) { s with toks := s.toks + 1 } -> wpAny (model X.prog X.w) X.A (f (.int i t) (.int j u)) Q E s) :
    OpR X f (rI C fun i j => .int (g i j)) := by
  intro pins s σ H x y v u Q I rx ry h
  obtain ⟨i, j, rfl, rfl, hc, q⟩ := h
  obtain ⟨t, rfl⟩ := rx
  obtain ⟨t', rfl⟩ := ry
  exact rule i j t t' s _ _ hc ⟨.int (g i j), H, I.tok _, ⟨_, rfl⟩, q⟩
theorem aDA {f : Value -> Value -> Sem Value} {g : Int -> Int -> Int}
    (rule : ∀ (i j : Int) (t u : Tok) (s : Shared) (Q : Value -> Shared -> Prop) (E : Value -> Shared -> Prop), Q (.int (g i j) s.toks) { s with toks := s.toks + 1 } -> wpAny (model X.prog X.w) X.A (f (.int i t) (.int j u)) Q E s) :
    OpR X f (rI0 fun i j => .int (g i j)) := by
  intro pins s σ H x y v u Q I rx ry h
  obtain ⟨i, j, rfl, rfl, q⟩ := h
  obtain ⟨t, rfl⟩ := rx
  obtain ⟨t', rfl⟩ := ry
  exact rule i j t t' s _ _ ⟨.int (g i j), H, I.tok _, ⟨_, rfl⟩, q⟩
theorem aBG {f : Value -> Value -> Sem Value} {g : Int -> Int -> Bool}
    (rule : ∀ (i j : Int) (t u : Tok) (s : Shared) (Q : Value -> Shared -> Prop) (E : Value -> Shared -> Prop), Q (.bool (g i j)) s -> wpAny (model X.prog X.w) X.A (f (.int i t) (.int j u)) Q E s) :
    OpR X f (rI0 fun i j => .bl (g i j)) := by
  intro pins s σ H x y v u Q I rx ry h
  obtain ⟨i, j, rfl, rfl, q⟩ := h
  obtain ⟨t, rfl⟩ := rx
  obtain ⟨t', rfl⟩ := ry
  exact rule i j t t' s _ _ ⟨.bl (g i j), H, I, rfl, q⟩
def aEd (i j : Int) : Prop := 0 < j /\ j < 1073741824
def aCQ (i j : Int) : Prop := (-(2 ^ 64) < i /\ i < 2 ^ 64) ∨ (-(2 ^ 64) < j /\ j < 2 ^ 64)
theorem aCQ.ok {i j : Int} (h : aCQ i j) : IntMulOk i j := by
  rcases h with ⟨h1, h2⟩ | ⟨h1, h2⟩
  · exact .of_left (intBits_le_64 h1 h2)
  · exact .of_right (intBits_le_64 h1 h2)
theorem gI : OpR X (binaryOp .Add) (rI0 fun i j => .int (i + j)) := aDA fun _ _ _ _ _ _ _ q => add_int q
theorem aAh : OpR X (binaryOp .Sub) (rI0 fun i j => .int (i - j)) := aDA fun _ _ _ _ _ _ _ q => sub_int q
theorem nR : OpR X (binaryOp .Mult) (rI aCQ fun i j => .int (i * j)) := opI fun _ _ _ _ _ _ _ hc q => mul_int q hc.ok
theorem aBH : OpR X (binaryOp .FloorDiv) (rI aEd fun i j => .int (i / j)) := opI fun i j _ _ _ _ _ hc q => by
  have h1 : (0 : Int) < j := hc.1
  have h2 : j < 1073741824 := hc.2
  exact floordiv_int (by omega) (by rw [Int.fdiv_eq_ediv_of_nonneg i (by omega)]; exact q) (.inl (PyProof.noPylong_small (by omega)))
theorem nS : OpR X (binaryOp .Mod) (rI (fun _ j => 0 < j) fun i j => .int (i % j)) := opI fun i j _ _ _ _ _ hc q => by
  have h1 : (0 : Int) < j := hc
  exact mod_int' (by omega) (by rw [Int.fmod_eq_emod_of_nonneg i (by omega)]; exact q)
theorem unI {f : Value -> Sem Value} {g : Int -> Int}
    (rule : ∀ (i : Int) (t : Tok) (s : Shared) (Q : Value -> Shared -> Prop) (E : Value -> Shared -> Prop), Q (.int (g i) s.toks) { s with toks := s.toks + 1 } -> wpAny (model X.prog X.w) X.A (f (.int i t)) Q E s) :
    UnR X f (rU fun i => .int (g i)) := by
  intro pins s σ H x v Q I rx h
  obtain ⟨i, rfl, q⟩ := h
  obtain ⟨t, rfl⟩ := rx
  exact rule i t s _ _ ⟨.int (g i), H, I.tok _, ⟨_, rfl⟩, q⟩
theorem nT : UnR X (unaryOp .USub) (rU fun i => .int (-i)) := unI fun _ _ _ _ _ q => neg_int q
end
def aDB : V -> V -> Bool
  | .non, .non => true | .non, .int _ => true | .int _, .non => true | .non, .bl _ => true | .bl _, .non => true | .non, .str _ => true | .str _, .non => true
  | .int _, .int _ => true | .bl _, .bl _ => true | .str _, .str _ => true | .byt _, .byt _ => true
  | .int _, .str _ => true | .str _, .int _ => true | .bl _, .str _ => true | .str _, .bl _ => true
  | _, _ => false
def rEq : R2 := fun x y H Q => aDB x y = true /\ Q (.bl (decide (x = y))) H
def rNe : R2 := fun x y H Q => aDB x y = true /\ Q (.bl (!decide (x = y))) H
theorem wR {i j : Int} : decide (V.int i = V.int j) = (i == j) := by
  rw [Bool.eq_iff_iff]
  simp
theorem aAi {i j : Bool} : decide (V.bl i = V.bl j) = (i == j) := by
  rw [Bool.eq_iff_iff]
  simp
theorem wS {i j : Str} : decide (V.str i = V.str j) = (i == j) := by
  rw [Bool.eq_iff_iff]
  simp
theorem wT {i j : Array UInt8} : decide (V.byt i = V.byt j) = (i.toList == j.toList) := by
  rw [Bool.eq_iff_iff]
  cases i
  cases j
  simp
section
variable {X : Cx} {a b c : Expr} {ta tb tc : TE} {pos : Pos}
theorem bL {pins : List (Addr × Obj)} {σ : St} {H : Hp} {s : Shared} {Q : VK} {k k' : Bool} (I : Inv X pins σ H s) (q : Q (.bl k) H) (e : k = k') : EP X pins σ Q (.bool k') s := by
  subst e
  exact ⟨.bl k, H, I, rfl, q⟩
theorem nU : OpR X (compareOp .Eq) rEq := by
  intro pins s σ H x y v u Q I rx ry h
  obtain ⟨hs, q⟩ := h
  cases x with
  | non =>
    cases rx
    cases y with
    | non => cases ry; exact PySem.EqNone.eq_none_none (bL I q (by simp))
    | bl j => cases ry; exact PySem.EqNone.eq_none_bool (bL I q (by simp))
    | int j => obtain ⟨t', rfl⟩ := ry; exact PySem.EqNone.eq_none_int (bL I q (by simp))
    | str j => obtain ⟨t', rfl⟩ := ry; exact PySem.EqNone.eq_none_str (bL I q (by simp))
    | _ => exact absurd (show false = true from hs) Bool.false_ne_true
  | bl i =>
    cases rx
    cases y with
    | non => cases ry; exact PySem.EqNone.eq_bool_none (bL I q (by simp))
    | bl j => cases ry; exact eq_bool (bL I q aAi)
    | str j => obtain ⟨t', rfl⟩ := ry; exact PySem.EqMixed.eq_bool_str (bL I q (by simp))
    | _ => exact absurd (show false = true from hs) Bool.false_ne_true
  | int i =>
    obtain ⟨t, rfl⟩ := rx
    cases y with
    | non => cases ry; exact PySem.EqNone.eq_int_none (bL I q (by simp))
    | int j => obtain ⟨t', rfl⟩ := ry; exact eq_int (bL I q wR)
    | str j => obtain ⟨t', rfl⟩ := ry; exact PySem.EqMixed.eq_int_str (bL I q (by simp))
    | _ => exact absurd (show false = true from hs) Bool.false_ne_true
  | str i =>
    obtain ⟨t, rfl⟩ := rx
    cases y with
    | non => cases ry; exact PySem.EqNone.eq_str_none (bL I q (by simp))
    | bl j => cases ry; exact PySem.EqMixed.eq_str_bool (bL I q (by simp))
    | int j => obtain ⟨t', rfl⟩ := ry; exact PySem.EqMixed.eq_str_int (bL I q (by simp))
    | str j => obtain ⟨t', rfl⟩ := ry; exact eq_str (bL I q wS)
    | _ => exact absurd (show false = true from hs) Bool.false_ne_true
  | byt i =>
    obtain ⟨t, rfl⟩ := rx
    cases y with
    | byt j => obtain ⟨t', rfl⟩ := ry; exact PySem.W.eq_bytes (bL I q wT)
    | _ => exact absurd (show false = true from hs) Bool.false_ne_true
  | _ => cases y <;> exact absurd (show false = true from hs) Bool.false_ne_true
theorem mI : OpR X (compareOp .NotEq) rNe := by
  intro pins s σ H x y v u Q I rx ry h
  obtain ⟨hs, q⟩ := h
  cases x with
  | non =>
    cases rx
    cases y with
    | non => cases ry; exact PySem.EqNone.ne_none_none (bL I q (by simp))
    | bl j => cases ry; exact PySem.EqNone.ne_none_bool (bL I q (by simp))
    | int j => obtain ⟨t', rfl⟩ := ry; exact PySem.EqNone.ne_none_int (bL I q (by simp))
    | str j => obtain ⟨t', rfl⟩ := ry; exact PySem.EqNone.ne_none_str (bL I q (by simp))
    | _ => exact absurd (show false = true from hs) Bool.false_ne_true
  | bl i =>
    cases rx
    cases y with
    | non => cases ry; exact PySem.EqNone.ne_bool_none (bL I q (by simp))
    | bl j => cases ry; exact ne_bool (bL I q (congrArg not aAi))
    | str j => obtain ⟨t', rfl⟩ := ry; exact PySem.EqMixed.ne_bool_str (bL I q (by simp))
    | _ => exact absurd (show false = true from hs) Bool.false_ne_true
  | int i =>
    obtain ⟨t, rfl⟩ := rx
    cases y with
    | non => cases ry; exact PySem.EqNone.ne_int_none (bL I q (by simp))
    | int j => obtain ⟨t', rfl⟩ := ry; exact ne_int (bL I q (congrArg not wR))
    | str j => obtain ⟨t', rfl⟩ := ry; exact PySem.EqMixed.ne_int_str (bL I q (by simp))
    | _ => exact absurd (show false = true from hs) Bool.false_ne_true
  | str i =>
    obtain ⟨t, rfl⟩ := rx
    cases y with
    | non => cases ry; exact PySem.EqNone.ne_str_none (bL I q (by simp))
    | bl j => cases ry; exact PySem.EqMixed.ne_str_bool (bL I q (by simp))
    | int j => obtain ⟨t', rfl⟩ := ry; exact PySem.EqMixed.ne_str_int (bL I q (by simp))
    | str j => obtain ⟨t', rfl⟩ := ry; exact ne_str (bL I q (congrArg not wS))
    | _ => exact absurd (show false = true from hs) Bool.false_ne_true
  | byt i =>
    obtain ⟨t, rfl⟩ := rx
    cases y with
    | byt j => obtain ⟨t', rfl⟩ := ry; exact PySem.W.ne_bytes (bL I q (congrArg not wT))
    | _ => exact absurd (show false = true from hs) Bool.false_ne_true
  | _ => cases y <;> exact absurd (show false = true from hs) Bool.false_ne_true
theorem wU : OpR X (compareOp .Lt) (rI0 fun i j => .bl (decide (i < j))) := aBG fun _ _ _ _ _ _ _ q => lt_int q
theorem wV : OpR X (compareOp .LtE) (rI0 fun i j => .bl (decide (i <= j))) := aBG fun _ _ _ _ _ _ _ q => le_int q
theorem aDC : OpR X (compareOp .Gt) (rI0 fun i j => .bl (decide (j < i))) := aBG fun _ _ _ _ _ _ _ q => gt_int q
theorem aCq : OpR X (compareOp .GtE) (rI0 fun i j => .bl (decide (j <= i))) := aBG fun _ _ _ _ _ _ _ q => ge_int q
theorem bN (b : Expr) {op : CmpOp} (h : op ≠ .In := by decide) (h2 : op ≠ .NotIn := by decide) : behindInMarks op b = false := by
  have e1 : (op == CmpOp.In) = false := by cases op <;> first | rfl | exact absurd rfl h
  have e2 : (op == CmpOp.NotIn) = false := by cases op <;> first | rfl | exact absurd rfl h2
  cases b <;> simp [behindInMarks, e1, e2]
theorem gT {op : CmpOp} {r : R2} (ho : OpR X (compareOp op) r) (ha : PE X a ta) (hb : PE X b tb) (hm : behindInMarks op b = false) : PE X (.Compare a [op] [b] pos) (tOp r ta tb) := by
  intro pins s σ H Q I h
  exact wpAny_Compare1 (aCP ha hb I h fun v u s2 x y H2 I2 rx ry q => ho pins s2 σ H2 x y v u Q I2 rx ry q) hm
def aCr (t : TE) : TT := fun σ H Q => t σ H fun x H' => ∃ k, x = .bl k /\ Q k H'
theorem bH {op : CmpOp} {r : R2} (ho : OpR X (compareOp op) r) (ha : PE X a ta) (hb : PE X b tb) (hm : behindInMarks op b = false) : PT X (.Compare a [op] [b] pos) (aCr (tOp r ta tb)) := by
  intro pins s σ H Q I h
  refine wpAny_isTrue_Compare1 (thn (ha pins s σ H _ I h) fun v s1 ⟨x, H1, I1, r1, q1⟩ => thn (hb pins s1 σ H1 _ I1 q1) fun u s2 ⟨y, H2, I2, r2, q2⟩ =>
    thn (ho pins s2 σ H2 x y v u _ I2 r1 r2 q2) fun c s3 ⟨z, H3, I3, r3, k, e, q3⟩ => ?_) hm
  subst e
  cases r3
  exact wpAny_truthy_bool ⟨H3, I3, q3⟩
def aAj (r r' : R2) (ta tb tc : TE) : TE := fun σ H Q => ta σ H fun x H1 => tb σ H1 fun y H2 => r x y H2 fun z H3 => ∃ k, z = .bl k /\
  (if k = true then tc σ H3 fun w' H4 => r' y w' H4 Q else Q (.bl false) H3)
theorem aAk {op op' : CmpOp} {r r' : R2} (ho : OpR X (compareOp op) r) (ho' : OpR X (compareOp op') r') (ha : PE X a ta) (hb : PE X b tb) (hc : PE X c tc)
    (hm : lastMarks [op, op'] [b, c] = false := by with_unfolding_all rfl) : PE X (.Compare a [op, op'] [b, c] pos) (aAj r r' ta tb tc) := by
  intro pins s σ H Q I h
  refine Compare_chain (thn (ha pins s σ H _ I h) fun v s1 ⟨x, H1, I1, r1, q1⟩ => chain_link (thn (hb pins s1 σ H1 _ I1 q1) fun u s2 ⟨y, H2, I2, r2, q2⟩ =>
    thn (ho pins s2 σ H2 x y v u _ I2 r1 r2 q2) fun d s3 ⟨z, H3, I3, r3, k, e, q3⟩ => ?_)) hm
  subst e
  cases r3
  refine wpAny_truthy_bool ?_
  cases k with
  | false => exact ite_ff ⟨.bl false, H3, I3, rfl, q3⟩
  | true => exact ite_tt (chain_last (thn (hc pins s3 σ H3 _ I3 q3) fun w' s4 ⟨z', H4, I4, r4, q4⟩ => ho' pins s4 σ H4 y z' u w' Q I4 r2 r4 q4))
theorem aAl {op op' : CmpOp} {r r' : R2} (ho : OpR X (compareOp op) r) (ho' : OpR X (compareOp op') r') (ha : PE X a ta) (hb : PE X b tb) (hc : PE X c tc)
    (hm : lastMarks [op, op'] [b, c] = false := by with_unfolding_all rfl) : PT X (.Compare a [op, op'] [b, c] pos) (aCr (aAj r r' ta tb tc)) := by
  intro pins s σ H Q I h
  refine isTrue_chain (thn (ha pins s σ H _ I h) fun v s1 ⟨x, H1, I1, r1, q1⟩ => test_link (thn (hb pins s1 σ H1 _ I1 q1) fun u s2 ⟨y, H2, I2, r2, q2⟩ =>
    thn (ho pins s2 σ H2 x y v u _ I2 r1 r2 q2) fun d s3 ⟨z, H3, I3, r3, k, e, q3⟩ => ?_)) hm
  subst e
  cases r3
  refine wpAny_truthy_bool ?_
  cases k with
  | false =>
    obtain ⟨k', e', q'⟩ := q3
    cases e'
    exact ite_ff ⟨H3, I3, q'⟩
  | true =>
    refine ite_tt (test_last (thn (hc pins s3 σ H3 _ I3 q3) fun w' s4 ⟨z', H4, I4, r4, q4⟩ => thn (ho' pins s4 σ H4 y z' u w' _ I4 r2 r4 q4) fun d' s5 hx9 => ?_))
    obtain ⟨z2, H5, I5, r5, k2, e2, q5⟩ := hx9
    subst e2
    cases r5
    exact wpAny_truthy_bool ⟨H5, I5, q5⟩
def aDD (K : PySem.W.Frag) (x : V) (H : Hp) (k : Bool) : Prop :=
  match x with
  | .non => k = false
  | .bl b => k = b
  | .int i => k = (i != 0)
  | .str y => y.length <= sizeLine /\ k = ((y.length : Int) != 0)
  | .byt y => y.size <= sizeLine /\ k = ((y.size : Int) != 0)
  | .ref p => (∃ xs, SqL K H p xs /\ k = !xs.isEmpty) ∨ (∃ xs, SqT K H p xs /\ k = !xs.isEmpty) ∨ ∃ kvs, H p = some (.dK kvs) /\ k = !kvs.isEmpty
  | _ => False
theorem uY {κ : Type} {kvs : List (κ × V)} {vs : List (κ × Value)} (r : KV kvs vs) : (!vs.isEmpty) = !kvs.isEmpty := by
  cases r <;> rfl
theorem nV {xs : List V} {its : List Value} (r : aX xs its) : (!its.toArray.isEmpty) = !xs.isEmpty := by
  cases r <;> simp
theorem nW : (sizeLine : Nat) < 2 ^ 63 := by rw [sizeLine_eq]; decide
theorem aCR : aEc X (fun x H Q => ∃ k, aDD X.K x H k /\ Q k H) := by
  intro pins s σ H x v Q I rx h
  obtain ⟨k, e, q⟩ := h
  have hl := nW
  have hs : sizeLine = 16777216 := sizeLine_eq
  cases x with
  | non =>
    cases rx
    have e' : k = false := e
    subst e'
    exact truthy_none ⟨H, I, q⟩
  | bl b =>
    cases rx
    have e' : k = b := e
    subst e'
    exact wpAny_truthy_bool ⟨H, I, q⟩
  | int i =>
    obtain ⟨t, rfl⟩ := rx
    have e' : k = (i != 0) := e
    subst e'
    exact PySem.P.truthy_int ⟨H, I, q⟩
  | str y =>
    obtain ⟨t, rfl⟩ := rx
    obtain ⟨hy, e'⟩ : y.length <= sizeLine /\ k = ((y.length : Int) != 0) := e
    subst e'
    exact PySem.P.truthy_str (by omega) ⟨H, I.tok _, q⟩
  | byt y =>
    obtain ⟨t, rfl⟩ := rx
    obtain ⟨hy, e'⟩ : y.size <= sizeLine /\ k = ((y.size : Int) != 0) := e
    subst e'
    exact PySem.W.truthy_bytes (by omega) ⟨H, I.tok _, q⟩
  | ref p =>
    cases rx
    have e' : (∃ xs, SqL X.K H p xs /\ k = !xs.isEmpty) ∨ (∃ xs, SqT X.K H p xs /\ k = !xs.isEmpty) ∨ ∃ kvs, H p = some (.dK kvs) /\ k = !kvs.isEmpty := e
    rcases e' with ⟨xs, hx, e'⟩ | ⟨xs, hx, e'⟩ | ⟨kvs, hx, e'⟩
    · subst e'
      obtain ⟨its, r, pl, hz⟩ := I.list hx
      have hlen := r.length
      exact wpAny_truthy_list pl.isList (by simp only [List.size_toArray]; omega) ⟨H, I.tok _, by rw [nV r]; exact q⟩
    · subst e'
      obtain ⟨its, r, pl, hz⟩ := I.tuple hx
      have hlen := r.length
      exact truthy_tuple pl (by simp only [List.size_toArray]; omega) ⟨H, I.tok _, by rw [nV r]; exact q⟩
    · subst e'
      obtain ⟨hz, hS, vs, r, m⟩ : kvs.length <= sizeLine /\ (p == sysModules) = false /\ ∃ vs, KV kvs vs /\ s.heap.DictOf (bZ X.prog X.w) p vs := I.hok p _ hx
      have hlen : kvs.length = vs.length := Paired.length r
      exact wpAny_truthy_dict hS m (by omega) ⟨H, I.tok _, by rw [uY r]; exact q⟩
  | _ => exact (show False from e).elim
theorem aAm (ha : PE X a ta) (he : ∀ whole, isTrue a X.env whole = (do let v <- whole; standAt a.pos; holding [v] (truthy v))) :
    PT X a (fun σ H Q => ta σ H fun x H' => ∃ k, aDD X.K x H' k /\ Q k H') := by
  intro pins s σ H Q I h
  refine isTrue_plain (thn (ha pins s σ H _ I h) fun v s1 hx9 => ?_) (he _)
  obtain ⟨x, H1, I1, r1, q1⟩ := hx9
  exact aCR pins s1 σ H1 x v Q I1 r1 q1
theorem gJ {x : V} {us : List Value} (r : aX [x] us) : ∃ u, us = [u] /\ bG x u := by
  cases r with
  | cons r1 r2 => cases r2; exact ⟨_, rfl, r1⟩
theorem kR {x y : V} {us : List Value} (r : aX [x, y] us) : ∃ u w', us = [u, w'] /\ bG x u /\ bG y w' := by
  cases r with
  | cons r1 r2 =>
    cases r2 with
    | cons r3 r4 => cases r4; exact ⟨_, _, rfl, r1, r3⟩
theorem yM (hc : X.calm = true) : eY X (.builtin "max") (fun xs H Q => ∃ i j, xs = [.int i, .int j] /\ Q (.int (if j > i then j else i)) H) := by
  intro pins s σ H xs us Q I r h
  obtain ⟨i, j, rfl, q⟩ := h
  obtain ⟨u, w', rfl, ⟨t, rfl⟩, ⟨t', rfl⟩⟩ := kR r
  refine max_two_ints (I.ok.hd hc) fun h' tk k => ⟨_, H, I.kept k, ?_, q⟩
  by_cases hj : j > i
  · rw [if_pos hj, if_pos hj]; exact ⟨_, rfl⟩
  · rw [if_neg hj, if_neg hj]; exact ⟨_, rfl⟩
theorem yN (hc : X.calm = true) : eY X (.builtin "min") (fun xs H Q => ∃ i j, xs = [.int i, .int j] /\ Q (.int (if j < i then j else i)) H) := by
  intro pins s σ H xs us Q I r h
  obtain ⟨i, j, rfl, q⟩ := h
  obtain ⟨u, w', rfl, ⟨t, rfl⟩, ⟨t', rfl⟩⟩ := kR r
  refine min_two_ints (I.ok.hd hc) fun h' tk k => ⟨_, H, I.kept k, ?_, q⟩
  by_cases hj : j < i
  · rw [if_pos hj, if_pos hj]; exact ⟨_, rfl⟩
  · rw [if_neg hj, if_neg hj]; exact ⟨_, rfl⟩
end
end L2
namespace L2
open PySem PySem.Spec PyProof.Rows
structure ObjM (h : Heap) (x dx C : Addr) (mA : Str -> Option Value) : Prop where
  obj : h.get? x = some (PySem.W.instObj C dx)
  ns : h.Ns1 dx mA
  ne : dx ≠ x
theorem yO {h : Heap} {dx : Addr} {mA : Str -> Option Value} (n : h.Ns1 dx mA) : ∃ od, h.get? dx = some od /\ ∀ name, PySem.W.lookIn name od = some (mA name) := by
  obtain ⟨o, es, ep, ho, hd, hk, _, hm⟩ := n
  refine ⟨o, ho, fun name => ?_⟩
  have e := hm name
  unfold nsFind findBy at e
  rw [<- Array.find?_toList] at e
  unfold PySem.W.lookIn
  rw [hd]
  dsimp only
  split
  · rename_i y q
    rw [q] at e
    exact congrArg some e
  · rename_i q
    rw [q] at e
    have a : es.toList.any (·.refKey) = false := by
      rw [List.any_eq_false]
      intro y hy
      obtain ⟨z, t, hkey⟩ := hk y (Array.mem_toList_iff.mp hy)
      simp [DictEntry.refKey, hkey]
    have a' : ¬ es.toList.any (·.refKey) = true := by rw [a]; exact Bool.false_ne_true
    rw [if_neg a']
    exact congrArg some e
theorem ObjM.look {h : Heap} {x dx C : Addr} {mA : Str -> Option Value} (I : ObjM h x dx C mA) : ∃ od, PySem.W.InstAt h x (PySem.W.instObj C dx) C (some od) /\ ∀ name, PySem.W.lookIn name od = some (mA name) :=
  let ⟨od, ho, hl⟩ := yO I.ns
  ⟨od, ⟨I.obj, rfl, rfl, ho⟩, hl⟩
section
variable {prog : Program} {w : World} {A : Around} {E : Value -> Shared -> Prop} {s : Shared} {K : PySem.W.Frag} {x dx C f : Addr} {mA : Str -> Option Value} {name : Str} {v : Value}
end
theorem mS.some_of {v : V} {o : Option Value} (r : mS (some v) o) : ∃ u, o = some u /\ bG v u := by
  cases o with
  | none => exact (show False from r).elim
  | some u => exact ⟨u, rfl, r⟩
section
variable {P : Program} {w : World} {H H' : Hp} {h h' : Heap} {a C dx : Addr} {fs fs' : List (Str × V)}
end
structure Cls (K : PySem.W.Frag) (C : Addr) : Prop where
  pg : PySem.W.plainGet K C Str.empty = true
  hd : PySem.W.hasDictIn K C = true
  po : PySem.W.plainOver K C = true
  sa : PySem.W.findIn K (.ref C) "__setattr__" = some (some (.builtin "object.__setattr__"))
theorem Cls.get {K : PySem.W.Frag} {C : Addr} (c : Cls K C) (f : Str) : PySem.W.plainGet K C f = true := c.pg
def aAn (K : PySem.W.Frag) (C : Addr) (f : Str) : Prop := PySem.W.findIn K (.ref C) f = some none
theorem aAn.taker {K : PySem.W.Frag} {C : Addr} {f : Str} (n : aAn K C f) : PySem.W.takerIn K C f = some none := by
  unfold PySem.W.takerIn
  rw [show PySem.W.findIn K (.ref C) f = some none from n]
  rfl
structure Con (K : PySem.W.Frag) (C : Addr) (f : Str) (v : V) (u : Value) : Prop where
  at_ : PySem.W.findIn K (.ref C) f = some (some u)
  rel : bG v u
  get : PySem.W.specialIn K u "__get__" = some none
  cp : PySem.W.copiedNames.contains f = false
structure Meth (K : PySem.W.Frag) (C : Addr) (m : Str) (f : Addr) : Prop where
  at_ : PySem.W.findIn K (.ref C) m = some (some (.ref f))
  fn : PySem.W.isFn K (.ref f) = true
  kp : PySem.W.keepIn K (.ref f) = true
section
variable {X : Cx} {pins : List (Addr × Obj)} {σ : St} {H : Hp} {s : Shared} {a C dx : Addr} {fs : List (Str × V)} {f : Str} {v : V} {A : Around} {E : Value -> Shared -> Prop}
theorem Inv.made (I : Inv X pins σ H s) : Inv X pins σ (upd (upd H s.heap.objs.size (.own (s.heap.objs.size + 1))) (s.heap.objs.size + 1) (.ins C s.heap.objs.size []))
    { s with heap := (s.heap.push PySem.W.emptyDict).push (PySem.W.instObj C s.heap.objs.size) } := by
  have e1 : (s.heap.push PySem.W.emptyDict).get? s.heap.objs.size = some PySem.W.emptyDict := Heap.get?_push_size s.heap rfl
  have e2 : ((s.heap.push PySem.W.emptyDict).push (PySem.W.instObj C s.heap.objs.size)).get? (s.heap.objs.size + 1) = some (PySem.W.instObj C s.heap.objs.size) := by
    have := Heap.get?_push_size (s.heap.push PySem.W.emptyDict) (o := PySem.W.instObj C s.heap.objs.size) rfl
    rwa [Heap.size_push] at this
  have e3 : (s.heap.push PySem.W.emptyDict).Ns s.heap.objs.size (fun _ => none) := ⟨PySem.W.emptyDict, #[], _, e1, rfl, (fun e he => absurd he (by simp)), fun _ => rfl⟩
  have I1 := I.laid (a := s.heap.objs.size) (o := .own (s.heap.objs.size + 1)) (h' := s.heap.push PySem.W.emptyDict) (t' := s.toks) (fun b u q => Heap.get?_push_of_some _ q) (Nat.le_refl _) ⟨_, e1⟩
  refine I1.laid (a := s.heap.objs.size + 1) (o := .ins C s.heap.objs.size []) (t' := s.toks) (fun b u q => Heap.get?_push_of_some _ q) (Nat.le_of_eq (Heap.size_push _ _)) ?_
  have ne : s.heap.objs.size ≠ s.heap.objs.size + 1 := Nat.ne_of_lt (Nat.lt_succ_self _)
  refine ⟨by rw [aH ne, aC], Nat.zero_le _, ne, e2, fun _ => none, (Heap.Ns1.of_empty e3).at fun o q => Heap.get?_push_of_some _ q, fun _ => True.intro, fun y hy => absurd rfl hy⟩
end
section
variable {X : Cx} {o e value : Expr} {f : Str} {pos pos' tpos : Pos} {ta tv : TE}
end
section
variable {X : Cx} {pins : List (Addr × Obj)} {σ : St} {H : Hp} {s : Shared} {A : Around} {E : Value -> Shared -> Prop} {Q : Value -> Shared -> Prop} {c : Value} {b : Bool}
inductive TyOf (K : PySem.W.Frag) (H : Hp) : V -> Value -> Prop where
  | non : TyOf K H .non (.type "NoneType")
  | bl (x : Bool) : TyOf K H (.bl x) (.type "bool")
  | int (i : Int) : TyOf K H (.int i) (.type "int")
  | str (x : Str) : TyOf K H (.str x) (.type "str")
  | flt (x : UInt64) : TyOf K H (.flt x) (.type "float")
  | lst {a : Addr} {xs : List V} (e : H a = some (.lst xs)) : TyOf K H (.ref a) (.type "list")
  | frz {a : Addr} {o : Obj} {xs : List V} (e : H a = some (.frz o (.lst xs))) : TyOf K H (.ref a) (.type "list")
  | tup {a : Addr} {xs : List V} (e : H a = some (.tup xs)) : TyOf K H (.ref a) (.type "tuple")
  | dK {a : Addr} {kvs : List (Key × V)} (e : H a = some (.dK kvs)) : TyOf K H (.ref a) (.type "dict")
  | dT {a : Addr} {kvs : List (List Key × V)} (e : H a = some (.dT kvs)) : TyOf K H (.ref a) (.type "dict")
  | ins {a C dx : Addr} {fs : List (Str × V)} (e : H a = some (.ins C dx fs)) (cl : Cls K C) (ha : PySem.W.findIn K (.ref C) "__class__" = some (some (.builtin "object.__class__")))
      (hn : PySem.W.specialIn K (.builtin "object.__class__") "__get__" = some (some (.builtin "getset_descriptor.__get__"))) (htk : PySem.W.takesIn K (.builtin "object.__class__") = some true)
      (hm : PySem.W.mroIn K C (.type "object") = some true) : TyOf K H (.ref a) (.ref C)
end
end L2
namespace L2
open PySem PySem.Spec PyProof.Rows
structure Room (k : Nat) (A : Around) : Prop where
  hd : A.handled = none
  dp : A.depth + 3 * k + 5 < recursionLimit
  un : A.units + 16 * k + 200 < cLine
  gd : A.guards = some []
theorem Room.mono {j k : Nat} {A : Around} (r : Room k A) (h : j <= k) : Room j A := ⟨r.hd, by have := r.dp; omega, by have := r.un; omega, r.gd⟩
theorem Room.deeper {k : Nat} {A : Around} (r : Room (k + 1) A) (env : Env) : Room k (A.deeper env) :=
  ⟨r.hd, by have := r.dp; show A.depth + 1 + 3 * k + 5 < _; omega, by have := r.un; show A.units + 3 + 16 * k + 200 < _; omega, r.gd⟩
theorem Room.in1 {k : Nat} {A : Around} (r : Room (k + 1) A) : Room k A.in1 :=
  ⟨r.hd, by have := r.dp; show A.depth + 3 * k + 5 < _; omega, by have := r.un; show A.units + 1 + 16 * k + 200 < _; omega, r.gd⟩
theorem Room.depth {k : Nat} {A : Around} (r : Room k A) : A.depth < recursionLimit := by have := r.dp; omega
theorem Room.units {k : Nat} {A : Around} (r : Room k A) : A.units + 64 < cLine := by have := r.un; omega
abbrev aAo : TA := fun _ H Q => Q [] H
abbrev sO (ta : TE) (tr : TA) : TA := fun σ H Q => ta σ H fun x H1 => tr σ H1 fun xs H2 => Q (x :: xs) H2
section
variable {X : Cx} {e : Expr} {es : List Expr} {te : TE} {t : TA} {pos : Pos}
theorem aB : PA X [] aAo := fun _ _ _ _ H Q I h => Calls.spliced_nil ⟨[], H, I, .nil, h⟩
theorem aA (ha : PE X e te) (hr : PA X es t) (hs : starEach (e :: es) X.env = (false, eval e X.env) :: starEach es X.env := by rfl) : PA X (e :: es) (sO te t) := by
  intro pos pins s σ H Q I h
  rw [hs]
  show wpAny _ _ (spliced ((false, eval e X.env) :: backTo pos (starEach es X.env))) _ _ s
  refine Calls.spliced_cons (thn (ha pins s σ H _ I h) fun u s1 hx9 => ?_)
  obtain ⟨x, H1, I1, r1, q1⟩ := hx9
  refine thn (hr pos pins s1 σ H1 _ I1 q1) fun us s2 hx9 => ?_
  obtain ⟨xs, H2, I2, r2, q2⟩ := hx9
  exact ⟨x :: xs, H2, I2, .cons r1 r2, q2⟩
def aEe (t : TA) : TE := fun σ H Q => t σ H fun xs H1 => xs.length <= sizeLine /\ ∀ p, H1 p = none -> Q (.ref p) (upd H1 p (.tup xs))
def aEf (t : TA) : TE := fun σ H Q => t σ H fun xs H1 => xs.length <= sizeLine /\ ∀ p, H1 p = none -> Q (.ref p) (upd H1 p (.lst xs))
theorem gC {x1} (h : PA X es t) : PE X (.Tuple es x1 pos) (aEe t) := by
  intro pins s σ H Q I hq
  refine wpAny_Tuple_spliced (thn (h pos pins s σ H _ I hq) fun us s1 ⟨xs, H1, I1, r, z, q⟩ => ⟨by rw [<- r.length]; exact z, ?_⟩)
  have hf : H1 s1.heap.objs.size = none := I1.hok.fresh (Nat.le_refl _)
  refine ⟨.ref s1.heap.objs.size, upd H1 s1.heap.objs.size (.tup xs), I1.laid (t' := s1.toks) (fun b u e => Heap.get?_push_of_some _ e) (Nat.le_refl _) ?_, rfl, q _ hf⟩
  exact ⟨z, us, 0, r, Heap.get?_push_size _ rfl⟩
theorem eS (h : PA X es t) : PE X (.List es pos) (aEf t) := by
  intro pins s σ H Q I hq
  refine wpAny_List_spliced (thn (h pos pins s σ H _ I hq) fun us s1 ⟨xs, H1, I1, r, z, q⟩ => ⟨by rw [<- r.length]; exact z, ?_⟩)
  have hf : H1 s1.heap.objs.size = none := I1.hok.fresh (Nat.le_refl _)
  refine ⟨.ref s1.heap.objs.size, upd H1 s1.heap.objs.size (.lst xs), I1.laid (t' := s1.toks) (fun b u e => Heap.get?_push_of_some _ e) (Nat.le_refl _) ?_, rfl, q _ hf⟩
  exact ⟨z, us, 0, r, Heap.get?_push_size _ rfl⟩
end
abbrev Sp := List V -> Hp -> VK -> XK -> Prop
abbrev CXT := List Env -> Hp -> Shared -> XK -> Value -> Shared -> Prop
structure Env0 (P : Program) (w : World) (K : PySem.W.Frag) (mg : Str -> Option Value) (base : Heap) (A : Around) (outer : List Env) (s : Shared) (H : Hp) : Prop where
  frames : A.frames = some outer
  mod : Mod K mg base
  bs : ∀ b o, base.get? b = some o -> s.heap.get? b = some o /\ H b = none
  bsz : base.objs.size <= s.heap.objs.size
  funs : s.heap.FunFrames base outer
  frf : ∀ b ∈ frs outer, H b = none
  hok : HOk P w H s.heap
  bare : AllBare s.gens
def CE (outer : List Env) (P : Program) (w : World) (H : Hp) (s : Shared) (Q : VK) (u : Value) (s' : Shared) : Prop :=
  ∃ v H', s'.os = s.os /\ AllBare s'.gens /\ Un (frs outer) [] H H' s.heap s'.heap /\ HOk P w H' s'.heap /\ bG v u /\ Q v H'
def CR (CX : CXT) (outer : List Env) (P : Program) (w : World) (H : Hp) (s : Shared) (Q : VK) (E : XK) (r : Result) (s' : Shared) : Prop :=
  match r with
  | .ok (.ret u) => CE outer P w H s Q u s'
  | .ok _ => False
  | .error e => CX outer H s E e s'
structure FnOk (P : Program) (w : World) (K : PySem.W.Frag) (mg : Str -> Option Value) (base : Heap) (CX : CXT) (k : Nat) (f : Addr) (fd : FuncData) (ps : List Str) (sp : Sp) : Prop where
  len : ∀ vs H Q E, sp vs H Q E -> vs.length = ps.length
  run : ∀ (A : Around) (outer : List Env) (s : Shared) (H : Hp) (args : Args) (us : List Value) (vs : List V) (Q : VK) (E : XK), Room k A -> Env0 P w K mg base A outer s H -> BindsTo s fd args (ps.zip us) -> aX vs us -> sp vs H Q E ->
    codeAny (model P w) A (.call (.ref f) args) (CR CX outer P w H s Q E) s
theorem FnOk.mono {P : Program} {w : World} {K : PySem.W.Frag} {mg : Str -> Option Value} {base : Heap} {CX : CXT} {j k : Nat} {f : Addr} {fd : FuncData} {ps : List Str} {sp : Sp} (F : FnOk P w K mg base CX j f fd ps sp) (h : j <= k) :
    FnOk P w K mg base CX k f fd ps sp := ⟨F.len, fun A outer s H args us vs Q E hr => F.run A outer s H args us vs Q E (hr.mono h)⟩
theorem FnOk.imp {P : Program} {w : World} {K : PySem.W.Frag} {mg : Str -> Option Value} {base : Heap} {CX : CXT} {k : Nat} {f : Addr} {fd : FuncData} {ps : List Str} {sp sp' : Sp} (F : FnOk P w K mg base CX k f fd ps sp)
    (h : ∀ vs H Q E, sp' vs H Q E -> sp vs H Q E) : FnOk P w K mg base CX k f fd ps sp' :=
  ⟨fun vs H Q E q => F.len vs H Q E (h _ _ _ _ q), fun A outer s H args us vs Q E hr he hb hv hs => F.run A outer s H args us vs Q E hr he hb hv (h _ _ _ _ hs)⟩
theorem Env0.in1 {P : Program} {w : World} {K : PySem.W.Frag} {mg : Str -> Option Value} {base : Heap} {A : Around} {outer : List Env} {s : Shared} {H : Hp} (e : Env0 P w K mg base A outer s H) :
    Env0 P w K mg base A.in1 outer s H := ⟨e.frames, e.mod, e.bs, e.bsz, e.funs, e.frf, e.hok, e.bare⟩
section
variable {X : Cx} {pins : List (Addr × Obj)} {σ : St} {H : Hp} {s s' : Shared}
theorem Inv.env0 (I : Inv X pins σ H s) : Env0 X.prog X.w X.K X.mg X.base X.A X.stack s H :=
  ⟨I.ok.frames, I.ok.mod, I.bs, Nat.le_trans I.ok.bsz I.sz, I.stack, I.stkFree, I.hok, I.bare⟩
theorem Inv.after {Q : VK} {u : Value} (I : Inv X pins σ H s) (h : CE X.stack X.prog X.w H s Q u s') : EP X pins σ Q u s' := by
  obtain ⟨v, H', os, bare, un, hok, r, q⟩ := h
  obtain ⟨hh, g, d, t, os'⟩ := s'
  obtain rfl : os' = s.os := os
  exact ⟨v, H', I.call (h' := hh) (g' := g) (d' := d) (t' := t) (ch := []) un hok bare (fun b z => absurd z (by simp)), r, q⟩
end
def aCs (sp : Sp) (dvs : List V) (E : XK) (t : TA) : TE := fun σ H Q => t σ H fun vs H1 => sp (vs ++ dvs) H1 Q E
def qE (K : PySem.W.Frag) (fd : FuncData) (ps : List Str) (ds : List Value) : Prop :=
  ∀ (s : Shared) (us : List Value), K.In s.heap -> (us ++ ds).length = ps.length -> BindsTo s fd ⟨us, []⟩ (ps.zip (us ++ ds))
theorem qE.all {K : PySem.W.Frag} {fd : FuncData} {ps : List Str} (h : ∀ us : List Value, us.length = ps.length -> bindArgs fd ⟨us, []⟩ = pure (ps.zip us)) : qE K fd ps [] := fun s us _ hl => by
  rw [List.append_nil] at hl ⊢
  exact .of_eq (h us hl)
def uZ (CX : CXT) (X : Cx) (E : XK) : Prop := ∀ (pins : List (Addr × Obj)) (σ : St) (H : Hp) (s : Shared) (e : Value) (s' : Shared), Inv X pins σ H s -> CX X.stack H s E e s' -> X.xe e s'
section
variable {X : Cx} {CX : CXT} {k : Nat} {f C : Addr} {fd : FuncData} {ps : List Str} {sp : Sp} {dvs : List V} {ds : List Value} {E : XK} {x m : Str} {p pos apos : Pos} {e o : Expr} {es : List Expr} {ta : TE} {t : TA}
theorem aCS {pins : List (Addr × Obj)} {σ : St} {H : Hp} {s : Shared} {Q : VK} {us : List Value} {vs : List V} (F : FnOk X.prog X.w X.K X.mg X.base CX k f fd ps sp) (hr : Room k X.A) (hb : qE X.K fd ps ds) (hd : aX dvs ds) (hx : uZ CX X E)
    (I : Inv X pins σ H s) (r : aX vs us) (h : sp (vs ++ dvs) H Q E) : wpAny (model X.prog X.w) X.A (call (.ref f) us) (EP X pins σ Q) X.xe s := by
  have r2 : aX (vs ++ dvs) (us ++ ds) := r.append hd
  have hl : (us ++ ds).length = ps.length := by rw [<- r2.length]; exact F.len _ _ _ _ h
  refine wpAny_call (codeAny_mono (F.run X.A X.stack s H ⟨us, []⟩ (us ++ ds) (vs ++ dvs) Q E hr I.env0 (hb s us I.kIn hl) r2 h) fun r s' hq => ?_)
  cases r with
  | error e => exact hx pins σ H s e s' I hq
  | ok fl =>
    cases fl with
    | ret u => exact I.after hq
    | next => exact False.elim hq
    | brk => exact False.elim hq
    | cont => exact False.elim hq
theorem aBI (F : FnOk X.prog X.w X.K X.mg X.base CX k f fd ps sp) (hr : Room k X.A) (hg : Gl X x) (hm : X.mg x = some (.ref f)) (hk : PySem.W.keepIn X.K (.ref f) = true) (hb : qE X.K fd ps ds) (hd : aX dvs ds) (hx : uZ CX X E)
    (ha : PA X (e :: es) t) (hdb : (x == ("__debug__" : Str)) = false := by decide) (he : starEach (e :: es) X.env = (false, eval e X.env) :: starEach es X.env := by rfl) (hpl : (backTo pos (starEach es X.env)).any (·.1) = false := by rfl) :
    PE X (.Call (.Name x p) (e :: es) [] pos) (aCs sp dvs E t) := by
  intro pins s σ H Q I h
  refine wpAny_Call_Name_kw (wM I hg hm ?_ hdb)
  refine PySem.W.callWith_K (h₀ := X.base) I.ok.mod.kin hk (thn (ha pos pins s σ H _ I h) fun us s1 ⟨vs, H1, I1, r, q⟩ => ⟨I1.kIn, ?_⟩) he hpl
  exact aCS F hr hb hd hx I1 r q
structure Mk (K : PySem.W.Frag) (C f : Addr) : Prop where
  makes : PySem.W.makesIn K C = true
  init : PySem.W.findIn K (.ref C) "__init__" = some (some (.ref f))
  fn : PySem.W.isFn K (.ref f) = true
  kp : PySem.W.keepIn K (.ref C) = true
end
def PK (X : Cx) (kws : List Keyword) (t : TA) : Prop :=
  ∀ (pos : Pos) (pins : List (Addr × Obj)) (s : Shared) (σ : St) (H : Hp) (Q : List V -> Hp -> Prop), Inv X pins σ H s -> t σ H Q -> wpAny (model X.prog X.w) X.A (evalAll ((backToKw pos (keywordEach kws X.env)).map (·.2))) (AP X pins σ Q) X.xe s
section
variable {X : Cx} {CX : CXT} {k : Nat} {f C : Addr} {fd : FuncData} {ps ks : List Str} {sp : Sp} {E : XK} {x m : Str} {p pos apos kpos : Pos} {e o : Expr} {es : List Expr} {kws : List Keyword} {te ta : TE} {t tk : TA} {nm : Option Str}
theorem aCT : PK X [] aAo := fun _ _ _ _ H Q I h => wpAny_evalAll_nil ⟨[], H, I, .nil, h⟩
theorem aBJ (ha : PE X e te) (hr : PK X kws t) : PK X (⟨nm, e, kpos⟩ :: kws) (sO te t) := by
  intro pos pins s σ H Q I h
  show wpAny _ _ (evalAll ((do let v <- eval e X.env; standAt pos; pure v) :: (backToKw pos (keywordEach kws X.env)).map (·.2))) _ _ s
  refine wpAny_evalAll_cons (wpAny_bind (thn (ha pins s σ H _ I h) fun u s1 ⟨x, H1, I1, r1, q1⟩ => wpAny_bind (wpAny_standAt (wpAny_pure ?_))))
  refine thn (hr pos pins s1 σ H1 _ I1 q1) fun us s2 hx9 => ?_
  obtain ⟨xs, H2, I2, r2, q2⟩ := hx9
  exact ⟨x :: xs, H2, I2, .cons r1 r2, q2⟩
structure KBinds (K : PySem.W.Frag) (fd : FuncData) (ps ks : List Str) (g : List Value -> List Value -> List Value) (gV : List V -> List V -> List V) : Prop where
  to : ∀ (s : Shared) (us ws : List Value), K.In s.heap -> (g us ws).length = ps.length -> BindsTo s fd ⟨us, ks.zip ws⟩ (ps.zip (g us ws))
  rel : ∀ {vs : List V} {us : List Value} {zs : List V} {ws : List Value}, aX vs us -> aX zs ws -> aX (gV vs zs) (g us ws)
variable {g : List Value -> List Value -> List Value} {gV : List V -> List V -> List V}
end
structure FnScope (N P : List Str) (sc : Scope) : Prop where
  kind : sc.kind = .function
  co : sc.isCoroutine = false
  gen : sc.isGenerator = false
  nd : N.Nodup
  pre : N.take P.length = P
  par : ∀ x ∈ P, sc.names.lookup x = some .local ∨ sc.names.lookup x = some .cell
  nofree : ∀ y ∈ sc.names, y.2 ≠ .free
theorem qF {kindOf : Str -> Option NameKind} {x : Str} : ∀ {binds : List (Str × Value)} {m : Str -> Option Value}, (∀ v, (x, v) ∉ binds) -> bindL kindOf binds m x = m x
  | [], _, _ => rfl
  | (n, v) :: r, m, h => by
    unfold bindL
    rw [qF fun w hw => h w (List.mem_cons_of_mem _ hw)]
    split
    · have : x ≠ n := by rintro rfl; exact h v List.mem_cons_self
      simp [this]
    · rfl
theorem qG {kindOf : Str -> Option NameKind} {x : Str} : ∀ {binds : List (Str × Value)} {m : Str -> Option Value}, (∀ v, (x, v) ∉ binds) -> bindC kindOf binds m x = m x
  | [], _, _ => rfl
  | (n, v) :: r, m, h => by
    unfold bindC
    rw [qG fun w hw => h w (List.mem_cons_of_mem _ hw)]
    split
    · rfl
    · have : x ≠ n := by rintro rfl; exact h v List.mem_cons_self
      simp [this]
theorem qH {kindOf : Str -> Option NameKind} {x : Str} {v : Value} : ∀ {P : List Str} {vs : List Value} {i : Nat} {m : Str -> Option Value}, P.Nodup -> P[i]? = some x -> vs[i]? = some v -> kindOf x = some .local ->
    bindL kindOf (P.zip vs) m x = some v
  | [], _, _, _, _, h, _, _ => by simp at h
  | _ :: _, [], _, _, _, _, h, _ => by simp at h
  | p :: P, w :: vs, 0, m, nd, h1, h2, hk => by
    simp at h1 h2; subst h1; subst h2
    show bindL kindOf ((p, w) :: P.zip vs) m p = _
    unfold bindL
    rw [qF fun v hv => (List.nodup_cons.mp nd).1 (List.of_mem_zip hv).1, if_pos hk]
    simp
  | p :: P, w :: vs, i + 1, m, nd, h1, h2, hk => by
    show bindL kindOf ((p, w) :: P.zip vs) m x = _
    unfold bindL
    exact qH (i := i) (List.nodup_cons.mp nd).2 (by simpa using h1) (by simpa using h2) hk
theorem qI {kindOf : Str -> Option NameKind} {x : Str} {v : Value} : ∀ {P : List Str} {vs : List Value} {i : Nat} {m : Str -> Option Value}, P.Nodup -> P[i]? = some x -> vs[i]? = some v -> kindOf x ≠ some .local ->
    bindC kindOf (P.zip vs) m x = some v
  | [], _, _, _, _, h, _, _ => by simp at h
  | _ :: _, [], _, _, _, _, h, _ => by simp at h
  | p :: P, w :: vs, 0, m, nd, h1, h2, hk => by
    simp at h1 h2; subst h1; subst h2
    show bindC kindOf ((p, w) :: P.zip vs) m p = _
    unfold bindC
    rw [qG fun v hv => (List.nodup_cons.mp nd).1 (List.of_mem_zip hv).1, if_neg hk]
    simp
  | p :: P, w :: vs, i + 1, m, nd, h1, h2, hk => by
    show bindC kindOf ((p, w) :: P.zip vs) m x = _
    unfold bindC
    exact qI (i := i) (List.nodup_cons.mp nd).2 (by simpa using h1) (by simpa using h2) hk
def start (N : List Str) (vs : List V) : St := vs.map some ++ List.replicate (N.length - vs.length) none
def vA (CX : CXT) (P : Program) (w : World) (K : PySem.W.Frag) (mg : Str -> Option Value) (base : Heap) (N : List Str) (qual : Str) (scope : Scope) (f : Addr) (cd : Value) (A : Around) (outer : List Env) (s : Shared) (H : Hp) (E : XK) : Cx where
  prog := P
  w := w
  K := K
  mg := mg
  base := base
  A := A.deeper (envOfC qual scope s.heap.objs.size f cd)
  N := N
  s₀ := s
  H₀ := H
  env := envOfC qual scope s.heap.objs.size f cd
  outer := outer
  stack := envOfC qual scope s.heap.objs.size f cd :: outer
  ex := []
  calm := true
  fn := fun _ => true
  pn := []
  xe := fun e s' => wpAny (model P w) (A.deeper (envOfC qual scope s.heap.objs.size f cd)) (leaving (envOfC qual scope s.heap.objs.size f cd) e) (fun _ s'' => CX outer H s E e s'') (fun e' s'' => CX outer H s E e' s'') s'
theorem sP {sc : Scope} {n : Nat} {x : Str} (h : sc.names.lookup x = some .cell) : ∃ c, (cellsFrom n sc.names []).lookup x = some c := by
  have q := PySem.W.cellsFrom_some sc.names n [] (.inl h)
  exact Option.isSome_iff_exists.mp q
theorem yP {CX : CXT} {P : Program} {w : World} {K : PySem.W.Frag} {mg : Str -> Option Value} {base : Heap} {N ps : List Str} {qual : Str} {scope : Scope} {f : Addr} {cd : Value} {A : Around} {outer : List Env} {s s1 : Shared} {H : Hp} {E : XK} {us : List Value} {vs : List V}
    (S : FnScope N ps scope) (hd : A.handled = none) (e0 : Env0 P w K mg base A outer s H) (hl : vs.length = ps.length) (r : aX vs us)
    (x : InCallC s s.heap.objs.size (bindL (envOfC qual scope s.heap.objs.size f cd).kindOf (ps.zip us) fun _ => none) (cellsFrom (s.heap.objs.size + 1) scope.names []) (bindC (envOfC qual scope s.heap.objs.size f cd).kindOf (ps.zip us) fun _ => none) s1) :
    Inv (vA CX P w K mg base N qual scope f cd A outer s H E) [] (start N vs) H s1 := by
  have hpl : ps.length <= N.length := by have := congrArg List.length S.pre; rw [List.length_take] at this; omega
  obtain ⟨h1, tk, rfl, hk⟩ := x.done
  have noA : ∀ b : Addr, b ∉ (vA CX P w K mg base N qual scope f cd A outer s H E).ex := fun b z => absurd (show b ∈ ([] : List Addr) from z) (by simp)
  refine ⟨⟨e0.mod, S.kind, rfl, rfl, Nat.le_refl _, fun y z c h1 h2 => ?_, fun y hy => ?_, fun y c _ h => ?_, fun _ => hd, Around.frames_deeper e0.frames, .inr ⟨rfl, rfl⟩, fun b z => absurd z (noA b), e0.bs, e0.bsz, fun b _ _ => noA b, fun b z => absurd z (noA b), e0.funs, e0.frf⟩,
    rfl, e0.bare, Un.kept hk, ⟨_, x.toInCall.ns, fun i y v h1 h2 h3 => ?_⟩, fun y c h => ⟨_, x.cell y c h⟩, e0.hok.fresh (Nat.le_refl _), fun y c h => ?_, fun p hp => absurd (show p ∈ ([] : List (Addr × Obj)) from hp) (by simp), e0.hok.kept hk, ?_⟩
  · exact name_of_addr x.apart (PySem.mem_of_lookup h1) (PySem.mem_of_lookup h2)
  · have hy : scope.names.lookup y = some .cell ∨ scope.names.lookup y = some .free := hy
    rcases hy with hy | hy
    · exact sP hy
    · exact absurd rfl (S.nofree _ (PySem.mem_of_lookup hy))
  · exact Nat.le_of_lt (x.above y c (PySem.mem_of_lookup h))
  · have hi : i < vs.length := by
      unfold start at h2
      by_cases hi : i < vs.length
      · exact hi
      · rw [List.getElem?_append_right (by simpa using hi)] at h2
        rw [List.getElem?_replicate] at h2
        split at h2 <;> cases h2
    have ha : vs[i]? = some v := by
      unfold start at h2
      rw [List.getElem?_append_left (by simpa using hi), List.getElem?_map] at h2
      cases e : vs[i]? with
      | none => rw [e] at h2; cases h2
      | some a => rw [e] at h2; cases h2; rfl
    obtain ⟨u, hu, rv⟩ := r.get ha
    have hp : ps[i]? = some y := by
      rw [<- S.pre, List.getElem?_take_of_lt (by omega)]; exact h1
    have ndP : ps.Nodup := by rw [<- S.pre]; exact S.nd.sublist (List.take_sublist _ _)
    refine ⟨u, rv, ?_⟩
    rcases S.par y (List.mem_of_getElem? hp) with k | k
    · exact .inl ⟨k, qH ndP hp hu k⟩
    · obtain ⟨c, e⟩ := sP (n := s.heap.objs.size + 1) k
      refine .inr ⟨.inl k, c, e, ?_⟩
      have q := x.cell y c e
      rw [qI ndP hp hu (by show scope.names.lookup y ≠ _; rw [k]; decide)] at q
      exact q
  · exact e0.hok.fresh (Nat.le_of_lt (x.above y c (PySem.mem_of_lookup h)))
  · unfold start
    show _ = N.length
    rw [List.length_append, List.length_map, List.length_replicate]
    omega
theorem aCt {CX : CXT} {P : Program} {w : World} {K : PySem.W.Frag} {mg : Str -> Option Value} {base : Heap} {k : Nat} {f : Addr} {name qual : Str} {params : Arguments} {body : List Stmt} {scope : Scope} {dV kV doc pm cdv ct oc : Value} {an od : Option Addr}
    {osl : Array (Option Value)} {N ps : List Str} {sp : Sp} (lk : K.lookup f = some ⟨oc, od, .func (PySem.W.fnOf name qual params body scope dV kV doc pm an cdv ct), osl⟩) (hcd : PySem.W.codeIn K cdv qual = true) (S : FnScope N ps scope)
    (len : ∀ vs H Q E, sp vs H Q E -> vs.length = ps.length)
    (hbody : ∀ (A : Around) (outer : List Env) (s : Shared) (H : Hp) (vs : List V) (Q : VK) (E : XK), Room k (A.deeper (envOfC qual scope s.heap.objs.size f cdv)) -> sp vs H Q E ->
      ∃ t, PSs (vA CX P w K mg base N qual scope f cdv A outer s H E) body t /\ t { nx := fun _ H' => Q .non H', rt := Q } (start N vs) H) :
    FnOk P w K mg base CX (k + 1) f (PySem.W.fnOf name qual params body scope dV kV doc pm an cdv ct) ps sp := by
  refine ⟨len, fun A outer s H args us vs Q E hr e0 hb r hsp => ?_⟩
  have hl := len _ _ _ _ hsp
  have KX : K.In s.heap := e0.mod.kin.keeps fun b o e => (e0.bs b o e).1
  have lim : s.heap.NoLimit := e0.mod.nolimit.keeps fun b o e => (e0.bs b o e).1
  have hkind : ∀ y ∈ ps.zip us, scope.names.lookup y.1 = some .local ∨ (scope.names.lookup y.1 = some .cell /\ ((cellsFrom (s.heap.objs.size + 1) scope.names []).lookup y.1).isSome = true) := fun ⟨n, v⟩ hy => by
    rcases S.par n (List.of_mem_zip hy).1 with q | q
    · exact .inl q
    · exact .inr ⟨q, PySem.W.cellsFrom_some _ _ _ (.inl q)⟩
  refine codeAny_call_function hr.depth (KX _ _ lk) rfl S.co S.gen rfl (PySem.W.codeRec_of KX hcd) (hb _ _ _ _ ?_)
  refine wpAny_newFunctionEnv_cells S.kind hkind fun env he s1 x => ?_
  subst he
  refine ⟨lim.keeps x.toInCall.keep, codeAny_func ?_⟩
  obtain ⟨t, ht, hq⟩ := hbody A outer s H vs Q E (hr.deeper _) hsp
  have I : Inv (vA CX P w K mg base N qual scope f cdv A outer s H E) [] (start N vs) H s1 := yP S hr.hd e0 hl r x
  refine wpAny_mono (ht [] s1 (start N vs) H _ I hq) (fun fl s' hs => ?_) fun e s' hs => hs
  have fin : ∀ {σ' : St} {H' : Hp} {v : V} {u : Value}, Inv (vA CX P w K mg base N qual scope f cdv A outer s H E) [] σ' H' s' -> bG v u -> Q v H' -> CE outer P w H s Q u s' :=
    fun {σ' H' v u} J rv q => ⟨v, H', J.os, J.bare, J.base, J.hok, rv, q⟩
  cases fl with
  | ret u =>
    obtain ⟨v, σ', H', J, rv, q⟩ := hs
    exact fin J rv q
  | next =>
    obtain ⟨σ', H', J, q⟩ := hs
    exact fin (v := V.non) (u := Value.none) J rfl q
  | brk =>
    obtain ⟨_, _, _, q⟩ := hs
    exact False.elim q
  | cont =>
    obtain ⟨_, _, _, q⟩ := hs
    exact False.elim q
end L2
namespace L2
open PySem PySem.Spec PyProof.Rows
section
variable {X : Cx} {x : Str} {p pos : Pos} {e : Expr} {es : List Expr} {t : TA} {id T : String} {r : List V -> Hp -> VK -> Prop}
def tCB (r : List V -> Hp -> VK -> Prop) (t : TA) : TE := fun σ H Q => t σ H fun vs H1 => r vs H1 Q
theorem aM (hc : eY X (.builtin id) r) (hg : Gl X x) (hm : X.mg x = none) (hv : bootBuiltins x = some (.builtin id)) (ha : PA X (e :: es) t) (hn : x ≠ "__name__" := by decide) (hdb : (x == ("__debug__" : Str)) = false := by decide)
    (he : starEach (e :: es) X.env = (false, eval e X.env) :: starEach es X.env := by rfl) (hpl : (backTo pos (starEach es X.env)).any (·.1) = false := by rfl) : PE X (.Call (.Name x p) (e :: es) [] pos) (tCB r t) := by
  intro pins s σ H Q I h
  refine wpAny_Call_Name_kw (gX I hg hm hv ?_ hn hdb)
  refine PyProof.Rows.callWith_builtin1 (thn (ha pos pins s σ H _ I h) fun us s1 hx9 => ?_) he hpl
  obtain ⟨vs, H1, I1, r1, q1⟩ := hx9
  exact hc pins s1 σ H1 vs us Q I1 r1 q1
theorem cE (hc : eY X (.type T) r) (hg : Gl X x) (hm : X.mg x = none) (hv : bootBuiltins x = some (.type T)) (ha : PA X (e :: es) t) (hn : x ≠ "__name__" := by decide) (hdb : (x == ("__debug__" : Str)) = false := by decide)
    (he : starEach (e :: es) X.env = (false, eval e X.env) :: starEach es X.env := by rfl) (hpl : (backTo pos (starEach es X.env)).any (·.1) = false := by rfl) : PE X (.Call (.Name x p) (e :: es) [] pos) (tCB r t) := by
  intro pins s σ H Q I h
  refine wpAny_Call_Name_kw (gX I hg hm hv ?_ hn hdb)
  refine PyProof.Rows.callWith_type1 (thn (ha pos pins s σ H _ I h) fun us s1 hx9 => ?_) he hpl
  obtain ⟨vs, H1, I1, r1, q1⟩ := hx9
  exact hc pins s1 σ H1 vs us Q I1 r1 q1
end
end L2
namespace HT
open PySem PyProof.Rows
section
open PySem.SeqAt
open PySem.AutoSeq1 (wpAny_loadPart')
open PySem.MeetsSeq PySem.MeetsSeq2 PySem.MeetsSeq3
end
section
variable {prog : Program} {w : World} {A : Around} {E : Value -> Shared -> Prop} {s : Shared}
theorem cat_tup {t b : Addr} {vs ws : List Value} {Q : Value -> Shared -> Prop} (ht : IsTup s.heap t vs.toArray) (hb : IsTup s.heap b ws.toArray) (hv : vs ≠ [])
    (h1 : ws = [] -> Q (.ref t) s) (h2 : ws ≠ [] -> Q (.ref s.heap.objs.size) { s with heap := s.heap.push { cls := .type "tuple", data := .seq (vs ++ ws).toArray } })
    (hsz : vs.length + ws.length <= sizeLine) : wpAny (model prog w) A (binaryOp .Add (.ref t) (.ref b)) Q E s := by
  obtain ⟨⟨cls, dd, data, sl⟩, ho, hc, n, hd⟩ := id ht
  obtain ⟨⟨cls2, dd2, data2, sl2⟩, ho2, hc2, n2, hd2⟩ := id hb
  simp only at hc hd hc2 hd2
  subst hc hd hc2 hd2
  have e : vs.toArray ++ ws.toArray = (vs ++ ws).toArray := by simp
  by_cases hw : ws = []
  · exact concat_meets ⟨_, ho, rfl⟩ ⟨_, ho2, rfl⟩ noFill_tuple_add seq_tuple_add PySem.F.slot_tuple_add PySem.F.entry_tuple_add (PySem.F.args_tuple_add_2 _ _)
      (tuple_addW1 t b vs.toArray ws.toArray n n2 dd dd2 sl sl2 (by simpa using hv) (by simp [hw])) ⟨ho, ho2, h1 hw⟩
  · refine concat_meets ⟨_, ho, rfl⟩ ⟨_, ho2, rfl⟩ noFill_tuple_add seq_tuple_add PySem.F.slot_tuple_add PySem.F.entry_tuple_add (PySem.F.args_tuple_add_2 _ _)
      (tuple_addW2 t b vs.toArray ws.toArray n n2 dd dd2 sl sl2 (by simpa using hv) (by simpa using hw) (by rw [List.size_toArray, List.size_toArray]; exact hsz)) ⟨ho, ho2, ?_⟩
    rw [e]
    exact h2 hw
def sIx (n d : Nat) : Option Int -> Nat
  | none => d
  | some v => if v < 0 then (v + (n : Int)).toNat else min v.toNat n
theorem sIx_none (n d : Nat) : sIx n d none = d := rfl
theorem sIx_nat (n d k : Nat) : sIx n d (some (k : Int)) = min k n := by
  show (if (k : Int) < 0 then ((k : Int) + (n : Int)).toNat else min (k : Int).toNat n) = min k n
  rw [if_neg (by omega), Int.toNat_natCast]
theorem aCU (n d : Nat) (hd : d <= n) (o : Option Int) : sIx n d o <= n := by
  cases o with
  | none => exact hd
  | some v =>
    show (if v < 0 then (v + (n : Int)).toNat else min v.toNat n) <= n
    by_cases hv : v < 0
    · rw [if_pos hv]; omega
    · rw [if_neg hv]; exact Nat.min_le_right _ _
theorem wW (v : Int) (n d : Nat) : (if v < 0 then max (v + (n : Int)) 0 else min v (n : Int)) = ((sIx n d (some v) : Nat) : Int) := by
  show (if v < 0 then max (v + (n : Int)) 0 else min v (n : Int)) = (((if v < 0 then (v + (n : Int)).toNat else min v.toNat n) : Nat) : Int)
  by_cases hv : v < 0
  · simp only [if_pos hv]; omega
  · simp only [if_neg hv]; omega
theorem vB (lo hi : Option Int) (n : Nat) : Builtin.Slice.sliceAdjust lo hi 1 (n : Int) = (((sIx n 0 lo : Nat) : Int), ((sIx n n hi : Nat) : Int)) := by
  have h1 : ¬ ((1 : Int) < 0) := by omega
  unfold Builtin.Slice.sliceAdjust
  simp only [h1, if_false]
  refine Prod.ext ?_ ?_
  · cases lo with
    | none => rfl
    | some v => exact wW v n 0
  · cases hi with
    | none => rfl
    | some v => exact wW v n n
theorem vC (i j : Nat) : Builtin.Slice.slicePlaces (i : Int) (j : Int) 1 = j - i := by
  unfold Builtin.Slice.slicePlaces
  have h1 : (1 : Int) > 0 := by omega
  simp only [h1, if_true, Int.ediv_one]
  split <;> omega
theorem slicePart_ {v : Value} {o : Option Int} {Q : Option Int -> Shared -> Prop} (p : IsPart v o) (h : Q o s) : wpAny (model prog w) A (Builtin.Slice.slicePartIndex v) Q E s := by
  cases p with
  | none => exact slicePart_none h
  | int i t => exact slicePart_int h
theorem sliceApplied_gen {sl : Addr} {vl vu : Value} {lo hi : Option Int} {n : Nat} {Q : Int × Int × Nat -> Shared -> Prop} (hs : s.heap.IsSliceOf sl vl vu .none) (pl : IsPart vl lo) (pu : IsPart vu hi)
    (h : Q (((sIx n 0 lo : Nat) : Int), 1, sIx n n hi - sIx n 0 lo) s) : wpAny (model prog w) A (Builtin.Slice.sliceApplied (.ref sl) (pure (n : Int))) Q E s := by
  obtain ⟨os, hos, hcs, hds⟩ := id hs
  unfold Builtin.Slice.sliceApplied Builtin.Slice.sliceFields
  refine wpAny_bind (wpAny_bind (wpAny_field hos hds (x := vl) rfl (wpAny_bind (wpAny_field hos hds (x := vu) rfl (wpAny_bind (wpAny_field hos hds (x := .none) rfl (wpAny_pure ?_)))))))
  refine wpAny_bind (slicePart_none ?_)
  show wpAny _ _ (if ((1 : Int) == 0) = true then _ else _) _ _ s
  rw [if_neg (by decide)]
  refine wpAny_bind (slicePart_ pl (wpAny_bind (slicePart_ pu (wpAny_bind (wpAny_pure ?_)))))
  show wpAny _ _ (match Builtin.Slice.sliceAdjust lo hi 1 (n : Int) with | (lo, hi) => pure (lo, (1 : Int), Builtin.Slice.slicePlaces lo hi 1)) _ _ s
  rw [vB lo hi n]
  show wpAny _ _ (pure (((sIx n 0 lo : Nat) : Int), (1 : Int), Builtin.Slice.slicePlaces ((sIx n 0 lo : Nat) : Int) ((sIx n n hi : Nat) : Int) 1)) _ _ s
  rw [vC]
  exact wpAny_pure h
theorem pick_gen (xs : Array Value) (i k : Nat) : ((List.range k).filterMap fun (m : Nat) => xs[((i : Int) + (m : Int) * 1).toNat]?).toArray = ((xs.toList.drop i).take k).toArray := by
  have e : (fun (m : Nat) => xs[((i : Int) + (m : Int) * 1).toNat]?) = fun m => xs[i + m]? := by
    funext m
    have : ((i : Int) + (m : Int) * 1).toNat = i + m := by omega
    rw [this]
  rw [e]
  have := pick_run xs i k
  rw [List.filterMap_map] at this
  have e2 : ((fun x => xs[x]?) ∘ fun x => i + x) = fun m => xs[i + m]? := rfl
  rw [e2] at this
  rw [this]
theorem getItem_tuple_cut {t sl : Addr} {items : Array Value} {vl vu : Value} {lo hi : Option Int} {Q : Value -> Shared -> Prop} (ht : IsTup s.heap t items) (hs : s.heap.IsSliceOf sl vl vu .none) (pl : IsPart vl lo) (pu : IsPart vu hi)
    (hw : ¬ (sIx items.size 0 lo = 0 /\ sIx items.size items.size hi = items.size))
    (h : Q (.ref s.heap.objs.size) { s with heap := s.heap.push { cls := .type "tuple", data := .seq ((items.toList.drop (sIx items.size 0 lo)).take (sIx items.size items.size hi - sIx items.size 0 lo)).toArray } })
    (hsz : items.size <= sizeLine) : wpAny (model prog w) A (getItem (.ref t) (.ref sl)) Q E s := by
  have htake : sizeOk (.seq ((items.toList.drop (sIx items.size 0 lo)).take (sIx items.size items.size hi - sIx items.size 0 lo)).toArray) := by
    show ((items.toList.drop (sIx items.size 0 lo)).take (sIx items.size items.size hi - sIx items.size 0 lo)).toArray.size <= sizeLine
    rw [List.size_toArray, List.length_take, List.length_drop, Array.length_toList]
    omega
  have hj : sIx items.size items.size hi <= items.size := aCU _ _ (Nat.le_refl _) hi
  obtain ⟨os, hos, hcs, hds⟩ := id hs
  have hTs : s.TypeIs (.ref sl) "slice" := ⟨os, hos, hcs⟩
  unfold getItem
  try with_reducible refine wpAny_holding ?_
  first | refine wpAny_bind (wpAny_pure ?_) | skip
  refine wpAny_bind (wpAny_sequenceKey ht.typeIs (by decide) ?_)
  refine wpAny_bind (wpAny_callSpecial?_slot (name := Str.ofString "__getitem__") ht.typeIs PyProof.Rows.slot_tuple_getitem
    (wpAny_call_entry PyProof.Rows.slot_tuple_getitem ht.typeIs entry_tuple_getitem ?_ (args_tuple_getitem _ _)))
  show wpAny _ _ (Builtin.Tuple.tupleItemsOf (.ref t) >>= _) _ _ s
  refine wpAny_bind (tupleItemsOf_ ht ?_)
  refine wpAny_bind (wpAny_typeOf hTs ?_)
  rw [if_pos (by decide)]
  refine wpAny_bind (sliceApplied_gen hs pl pu ?_)
  have hno : ¬ ((((sIx items.size 0 lo : Nat) : Int) == 0 && (1 : Int) == 1 && (sIx items.size items.size hi - sIx items.size 0 lo) == items.size) = true) := by
    intro q
    rw [Bool.and_eq_true, Bool.and_eq_true] at q
    have q1 : ((sIx items.size 0 lo : Nat) : Int) = 0 := eq_of_beq q.1.1
    have q2 : sIx items.size items.size hi - sIx items.size 0 lo = items.size := eq_of_beq q.2
    exact hw ⟨by omega, by omega⟩
  show wpAny _ _ (if (((sIx items.size 0 lo : Nat) : Int) == 0 && (1 : Int) == 1 && (sIx items.size items.size hi - sIx items.size 0 lo) == items.size) = true then _ else _) _ _ s
  rw [if_neg hno, pick_gen]
  first
    | exact wpAny_bind (m := Builtin.Tuple.tupleExact _) (wpAny_newObj_type (wpAny_pure ⟨_, rfl, wpAny_pure h⟩) htake)
    | exact wpAny_bind (m := Builtin.Tuple.tupleExact _) (wpAny_newObj_type (wpAny_bind (wpAny_pure (wpAny_pure ⟨_, rfl, wpAny_pure h⟩))) htake)
    | exact wpAny_bind (wpAny_bind (m := Builtin.Tuple.tupleExact _) (wpAny_newObj_type (wpAny_pure (wpAny_pure ⟨_, rfl, wpAny_pure h⟩)) htake))
    | exact wpAny_bind (wpAny_bind (m := Builtin.Tuple.tupleExact _) (wpAny_newObj_type (wpAny_pure ⟨_, rfl, wpAny_pure h⟩) htake))
end
end HT
namespace L2
open PySem PySem.Spec PyProof.Rows
abbrev TO := St -> Hp -> (Option Int -> Hp -> Prop) -> Prop
def PO (X : Cx) (e : Option Expr) (t : TO) : Prop :=
  ∀ (pins : List (Addr × Obj)) (s : Shared) (σ : St) (H : Hp) (Q : Option Int -> Hp -> Prop), Inv X pins σ H s -> t σ H Q ->
    wpAny (model X.prog X.w) X.A (evalPart e X.env) (fun u s' => ∃ o H', Inv X pins σ H' s' /\ IsPart u o /\ Q o H') X.xe s
def aBK : TO := fun _ H Q => Q none H
def aDE (t : TE) : TO := fun σ H Q => t σ H fun x H1 => ∃ i, x = .int i /\ Q (some i) H1
theorem cZ {ns : List Int} : ∀ {us : List Value}, aX (ns.map V.int) us -> IntsAre us ns := by
  induction ns with
  | nil => intro us r; rw [List.map_nil] at r; cases r; exact .nil
  | cons n ns ih =>
    intro us r
    rw [List.map_cons] at r
    cases r with
    | cons r1 r2 =>
      obtain ⟨t, e⟩ := r1
      subst e
      exact .cons n t (ih r2)
section
variable {X : Cx} {e : Expr} {te : TE} {lo hi : Option Expr} {tl th : TO} {pos p2 : Pos}
theorem wX : PO X none aBK := by
  intro pins s σ H Q I h
  rw [evalPart_none]
  exact wpAny_pure ⟨none, H, I, .none, h⟩
theorem wY (h : PE X e te) : PO X (some e) (aDE te) := by
  intro pins s σ H Q I hw
  rw [evalPart_some]
  refine thn (h pins s σ H _ I hw) fun u s1 hx9 => ?_
  obtain ⟨x, H1, I1, r1, q1⟩ := hx9
  obtain ⟨i, rfl, q⟩ := q1
  obtain ⟨t, rfl⟩ := r1
  exact ⟨some i, H1, I1, .int i t, q⟩
def SlR (X : Cx) (r : V -> Option Int -> Option Int -> Hp -> VK -> Prop) : Prop :=
  ∀ (pins : List (Addr × Obj)) (s : Shared) (σ : St) (H : Hp) (x : V) (v vl vu : Value) (lo hi : Option Int) (sl : Addr) (Q : VK), Inv X pins σ H s -> bG x v -> s.heap.IsSliceOf sl vl vu .none -> IsPart vl lo -> IsPart vu hi -> r x lo hi H Q ->
    ∃ T id, typeLookup (.type T) "__getitem__" = pure (some (.builtin id)) /\ s.TypeIs v T /\ wpAny (model X.prog X.w) X.A (getItem v (.ref sl)) (EP X pins σ Q) X.xe s
def tSl (r : V -> Option Int -> Option Int -> Hp -> VK -> Prop) (te : TE) (tl th : TO) : TE := fun σ H Q => te σ H fun x H1 => tl σ H1 fun l H2 => th σ H2 fun u H3 => r x l u H3 Q
theorem sQ {r : V -> Option Int -> Option Int -> Hp -> VK -> Prop} (hr : SlR X r) (he : PE X e te) (hl : PO X lo tl) (hu : PO X hi th) : PE X (.Subscript e (.Slice lo hi none p2) pos) (tSl r te tl th) := by
  intro pins s σ H Q I h
  refine Subscript_ (thn (he pins s σ H _ I h) fun v s1 hx9 => ?_)
  obtain ⟨x, H1, I1, r1, q1⟩ := hx9
  refine wpAny_Slice (thn (hl pins s1 σ H1 _ I1 q1) fun vl s2 ⟨l, H2, I2, pl, q2⟩ => thn (hu pins s2 σ H2 _ I2 q2) fun vu s3 hx9 => ?_)
  obtain ⟨u, H3, I3, pu, q3⟩ := hx9
  rw [evalPart_none]
  refine wpAny_pure ?_
  have I4 : Inv X pins σ H3 { s3 with heap := s3.heap.push { cls := .type "slice", data := .fields #[vl, vu, .none] } } := I3.kept (t' := s3.toks) fun b ob q => Heap.get?_push_of_some _ q
  obtain ⟨T, id, hT, ht, hg⟩ := hr pins { s3 with heap := s3.heap.push { cls := .type "slice", data := .fields #[vl, vu, .none] } } σ H3 x v vl vu l u s3.heap.objs.size Q I4 r1 (Heap.IsSliceOf.new ..) pl pu q3
  show wpAny (model X.prog X.w) X.A (subscriptTail e (.Slice lo hi none p2) v (.ref s3.heap.objs.size)) (EP X pins σ Q) X.xe { s3 with heap := s3.heap.push { cls := .type "slice", data := .fields #[vl, vu, .none] } }
  exact tail_any (ops := [.ref s3.heap.objs.size, v]) ht hT hg (by with_unfolding_all rfl)
def nX (xs : List V) (lo hi : Option Int) : List V := (xs.drop (HT.sIx xs.length 0 lo)).take (HT.sIx xs.length xs.length hi - HT.sIx xs.length 0 lo)
theorem sR (xs : List V) (lo hi : Option Int) : (nX xs lo hi).length <= xs.length := by
  unfold nX
  rw [List.length_take, List.length_drop]
  exact Nat.le_trans (Nat.min_le_right _ _) (Nat.sub_le _ _)
def aEg (K : PySem.W.Frag) : V -> Option Int -> Option Int -> Hp -> VK -> Prop := fun x lo hi H Q => ∃ a xs, x = .ref a /\ SqT K H a xs /\
  ¬ (HT.sIx xs.length 0 lo = 0 /\ HT.sIx xs.length xs.length hi = xs.length) /\ ∀ p, H p = none -> Q (.ref p) (upd H p (.tup (nX xs lo hi)))
theorem aCV : SlR X (aEg X.K) := by
  intro pins s σ H x v vl vu lo hi sl Q I rx hs pl pu h
  obtain ⟨a, xs, rfl, hx, hw, q⟩ := h
  cases rx
  obtain ⟨its, r, ht, hz⟩ := I.tuple hx
  have hlen : its.toArray.size = xs.length := by rw [List.size_toArray]; exact r.length.symm
  refine ⟨"tuple", _, PyProof.Rows.slot_tuple_getitem.lookup, ht.typeIs, ?_⟩
  refine HT.getItem_tuple_cut ht hs pl pu (by rw [hlen]; exact hw) ?_ (by rw [hlen]; exact hz)
  rw [hlen]
  refine ⟨.ref s.heap.objs.size, _, I.laid (t' := s.toks) (o := .tup (nX xs lo hi)) (fun b ob q => Heap.get?_push_of_some _ q) (Nat.le_refl _) ?_, rfl, q _ (I.hok.fresh (Nat.le_refl _))⟩
  exact ⟨Nat.le_trans (sR xs lo hi) hz, _, 0, (r.drop (HT.sIx xs.length 0 lo)).take (HT.sIx xs.length xs.length hi - HT.sIx xs.length 0 lo), Heap.get?_push_size _ rfl⟩
def aDF (K : PySem.W.Frag) : R2 := fun x y H Q => ∃ a b xs ys, x = .ref a /\ y = .ref b /\ SqT K H a xs /\ SqT K H b ys /\ xs ≠ [] /\ xs.length + ys.length <= sizeLine /\
  (ys = [] -> Q (.ref a) H) /\ (ys ≠ [] -> ∀ p, H p = none -> Q (.ref p) (upd H p (.tup (xs ++ ys))))
theorem aX.nil_iff {xs : List V} {us : List Value} (r : aX xs us) : us = [] ↔ xs = [] := by
  cases r with
  | nil => simp
  | cons _ _ => simp
theorem aBL : OpR X (binaryOp .Add) (aDF X.K) := by
  intro pins s σ H x y v u Q I rx ry h
  obtain ⟨a, b, xs, ys, rfl, rfl, ha, hb, hx, hz, q1, q2⟩ := h
  cases rx
  cases ry
  obtain ⟨its, r1, p1, _⟩ := I.tuple ha
  obtain ⟨its2, r2, p2, _⟩ := I.tuple hb
  refine HT.cat_tup p1 p2 (fun z => hx (r1.nil_iff.mp z)) (fun z => ⟨.ref a, H, I, rfl, q1 (r2.nil_iff.mp z)⟩) (fun z => ?_) (by rw [<- r1.length, <- r2.length]; exact hz)
  refine ⟨.ref s.heap.objs.size, _, I.laid (t' := s.toks) (o := .tup (xs ++ ys)) (fun b ob q => Heap.get?_push_of_some _ q) (Nat.le_refl _) ?_, rfl, q2 (fun w => z (r2.nil_iff.mpr w)) _ (I.hok.fresh (Nat.le_refl _))⟩
  exact ⟨by rw [List.length_append]; exact hz, _, 0, r1.append r2, Heap.get?_push_size _ rfl⟩
end
end L2
namespace L2
open PySem PySem.Spec PyProof.Rows
def ixN (n : Nat) (i : Int) : Option Nat := if 0 <= i then (if i < n then some i.toNat else none) else if -(n : Int) <= i then some (i + n).toNat else none
def atI {α : Type} (xs : List α) (i : Int) : Option α := (ixN xs.length i).bind fun j => xs[j]?
theorem wZ {n : Nat} {i : Int} {j : Nat} (h : ixN n i = some j) : seqIndex? i n = some j /\ j < n /\ -(n : Int) <= i /\ i < n := by
  unfold ixN at h
  by_cases h0 : 0 <= i
  · rw [if_pos h0] at h
    by_cases h1 : i < n
    · rw [if_pos h1] at h
      have e : i.toNat = j := Option.some.inj h
      exact ⟨by rw [seqIndex_of h0 h1, e], by omega, by omega, h1⟩
    · rw [if_neg h1] at h; cases h
  · rw [if_neg h0] at h
    by_cases h1 : -(n : Int) <= i
    · rw [if_pos h1] at h
      have e : (i + n).toNat = j := Option.some.inj h
      exact ⟨by rw [seqIndex_neg (by omega) h1, e], by omega, h1, by omega⟩
    · rw [if_neg h1] at h; cases h
theorem xA {α : Type} {xs : List α} {i : Int} {v : α} (h : atI xs i = some v) : ∃ j, seqIndex? i xs.length = some j /\ xs[j]? = some v /\ j < xs.length /\ -(xs.length : Int) <= i /\ i < xs.length := by
  unfold atI at h
  cases e : ixN xs.length i with
  | none => rw [e] at h; cases h
  | some j =>
    rw [e] at h
    obtain ⟨h1, h2, h3, h4⟩ := wZ e
    exact ⟨j, h1, h, h2, h3, h4⟩
theorem cQ {α : Type} {xs : List α} {j : Nat} {v : α} (h : xs[j]? = some v) : atI xs (j : Int) = some v := by
  have hj : j < xs.length := (List.getElem?_eq_some_iff.mp h).1
  have e : ixN xs.length (j : Int) = some j := by
    unfold ixN
    rw [if_pos (by omega), if_pos (by omega)]; simp
  unfold atI; rw [e]; exact h
def aBM (b : Expr) : Prop := ∀ o i, subscripted b false o i = operate [o, i] (getItem o i)
def IxR (X : Cx) (r : R2) : Prop :=
  ∀ (value slice : Expr) (pins : List (Addr × Obj)) (s : Shared) (σ : St) (H : Hp) (x y : V) (v u : Value) (Q : VK), Inv X pins σ H s -> bG x v -> bG y u -> r x y H Q ->
    subscripted slice false v u = operate [v, u] (getItem v u) -> wpAny (model X.prog X.w) X.A (subscriptTail value slice v u) (EP X pins σ Q) X.xe s
def MtR (X : Cx) (id : String) (r : V -> List V -> Hp -> VK -> Prop) : Prop :=
  ∀ (pins : List (Addr × Obj)) (s : Shared) (σ : St) (H : Hp) (x : V) (xs : List V) (v : Value) (us : List Value) (Q : VK), Inv X pins σ H s -> bG x v -> aX xs us -> r x xs H Q ->
    wpAny (model X.prog X.w) X.A (call (.builtin id) (v :: us)) (EP X pins σ Q) X.xe s
section
variable {X : Cx} {a b : Expr} {ta tb : TE} {pos : Pos}
theorem bD {r : R2} (hr : IxR X r) (ha : PE X a ta) (hb : PE X b tb) (hs : aBM b) : PE X (.Subscript a b pos) (tOp r ta tb) := by
  intro pins s σ H Q I h
  exact Subscript_ (aCP ha hb I h fun v u s2 x y H2 I2 rx ry q => hr a b pins s2 σ H2 x y v u Q I2 rx ry q (hs _ _))
def aDG (K : PySem.W.Frag) : R2 := fun x y H Q => ∃ p xs i v, x = .ref p /\ y = .int i /\ SqL K H p xs /\ atI xs i = some v /\ Q v H
def aDH (K : PySem.W.Frag) : R2 := fun x y H Q => ∃ p xs i v, x = .ref p /\ y = .int i /\ SqT K H p xs /\ atI xs i = some v /\ Q v H
theorem fP : IxR X (aDG X.K) := by
  intro value slice pins s σ H x y v u Q I rx ry h hs
  obtain ⟨p, xs, i, z, rfl, rfl, hq, he, q⟩ := h
  cases rx
  obtain ⟨t, rfl⟩ := ry
  obtain ⟨its, r, pl, hz⟩ := I.list hq
  obtain ⟨j, h1, h2, h3, h4, h5⟩ := xA he
  obtain ⟨w, ew, rw'⟩ := r.get h2
  have hl := r.length
  have hn := nW
  have fin : EP X pins σ Q w s := ⟨z, H, I, rw', q⟩
  by_cases h0 : 0 <= i
  · have hj : i.toNat = j := by
      rw [seqIndex_of h0 h5] at h1
      exact Option.some.inj h1
    exact item_listR pl.isList h0 (by omega) (by rw [hj]; simpa using ew) fin hs
  · have hj : (i + (its.toArray.size : Int)).toNat = j := by
      rw [seqIndex_neg (by omega) h4] at h1
      rw [List.size_toArray, <- hl]
      exact Option.some.inj h1
    exact subscriptTail_builtinR (x := w) pl.isList.typeIs slot_list_getitem.lookup
      (wpAny_getItem_list_neg (Q := fun r s' => r = w /\ EP X pins σ Q r s') pl.isList (by omega) (by rw [List.size_toArray] <;> omega) (by omega) (by rw [hj]; simpa using ew) ⟨rfl, fin⟩) hs
theorem bF : IxR X (aDH X.K) := by
  intro value slice pins s σ H x y v u Q I rx ry h hs
  obtain ⟨p, xs, i, z, rfl, rfl, hq, he, q⟩ := h
  cases rx
  obtain ⟨t, rfl⟩ := ry
  obtain ⟨its, r, pl, hz⟩ := I.tuple hq
  obtain ⟨j, h1, h2, h3, h4, h5⟩ := xA he
  obtain ⟨w, ew, rw'⟩ := r.get h2
  have hl := r.length
  have hn := nW
  have fin : EP X pins σ Q w s := ⟨z, H, I, rw', q⟩
  exact subscriptTail_builtinR (x := w) pl.typeIs slot_tuple_getitem.lookup
    (getItem_tuple (j := j) (Q := fun r s' => r = w /\ EP X pins σ Q r s') pl (by omega) (by omega) (by rw [List.size_toArray, <- hl]; exact h1) (by simpa using ew) ⟨rfl, fin⟩) hs
theorem vD (its : List Value) (n j : Nat) (u : Value) : Obj.mapSeq (·.setIfInBounds j u) { cls := .type "list", data := .seq its.toArray n } = { cls := .type "list", data := .seq (its.set j u).toArray n } := by
  simp [Obj.mapSeq]
theorem Inv.lst {pins : List (Addr × Obj)} {σ : St} {H : Hp} {s : Shared} {p : Addr} {xs : List V} (I : Inv X pins σ H s) (h : H p = some (.lst xs)) :
    ∃ (its : List Value) (n : Nat), aX xs its /\ s.heap.get? p = some { cls := .type "list", data := .seq its.toArray n } /\ xs.length <= sizeLine := by
  obtain ⟨z, its, n, r, e⟩ := I.hok p _ h
  exact ⟨its, n, r, e, z⟩
theorem Inv.lstUpd {pins : List (Addr × Obj)} {σ : St} {H : Hp} {s : Shared} {p : Addr} {xs ys : List V} {its its' : List Value} {n n' : Nat} {f : Obj -> Obj} (I : Inv X pins σ H s) (h : H p = some (.lst xs))
    (ho : s.heap.get? p = some { cls := .type "list", data := .seq its.toArray n }) (hf : f { cls := .type "list", data := .seq its.toArray n } = { cls := .type "list", data := .seq its'.toArray n' }) (r : aX ys its') (hz : ys.length <= sizeLine) (t : Nat) :
    Inv X pins σ (upd H p (.lst ys)) { s with heap := s.heap.update p f, toks := t } := by
  have e : (s.heap.update p f).get? p = some { cls := .type "list", data := .seq its'.toArray n' } := by
    rw [Heap.get?_update_self f ho (by rw [hf] <;> rfl), hf]
  refine I.write (x := p) (e := p) (by rw [h]; trivial) (.inl rfl) (fun b u hb q => (Heap.get?_update_other _ _ (Ne.symm hb)).trans q) ⟨_, e⟩ ?_
  exact ⟨hz, its', n', r, e⟩
def aDI : V -> V -> V -> Hp -> (Hp -> Prop) -> Prop := fun o i v H Q => ∃ p xs k j, o = .ref p /\ i = .int k /\ H p = some (.lst xs) /\ ixN xs.length k = some j /\ Q (upd H p (.lst (xs.set j v)))
theorem nY : aDu X aDI := by
  intro pins s σ H o i v ov iv u Q I ro ri rv h
  obtain ⟨p, xs, k, j, rfl, rfl, hp, hj, q⟩ := h
  cases ro
  obtain ⟨t, rfl⟩ := ri
  obtain ⟨its, n, r, ho, hz⟩ := I.lst hp
  obtain ⟨h1, h2, h3, h4⟩ := wZ hj
  have hl := r.length
  have hn := nW
  have I' : Inv X pins σ (upd H p (.lst (xs.set j v))) { s with heap := s.heap.update p (Obj.mapSeq (·.setIfInBounds j u)) } :=
    I.lstUpd hp ho (vD its n j u) (r.set rv j) (by rw [List.length_set]; exact hz) s.toks
  by_cases h0 : 0 <= k
  · have hk : k.toNat = j := by
      rw [seqIndex_of h0 h4] at h1
      exact Option.some.inj h1
    exact PySem.W.ki_setAt ho h0 (by omega) (by rw [List.size_toArray, <- hl]; exact h4) (by rw [hk]; exact ⟨_, I', q⟩)
  · have hk : (k + (its.toArray.size : Int)).toNat = j := by
      rw [seqIndex_neg (by omega) h3] at h1
      rw [List.size_toArray, <- hl]
      exact Option.some.inj h1
    exact PySem.W.ki_setBack ho (by omega) (by rw [List.size_toArray, <- hl]; exact h3) (by omega) (by rw [hk]; exact ⟨_, I', q⟩)
def jZ : V -> Bool
  | .non => true
  | .bl _ => true
  | .int _ => true
  | .str _ => true
  | _ => false
def eqV : V -> V -> Bool
  | .non, .non => true
  | .bl a, .bl b => a == b
  | .bl a, .int b => (if a then 1 else 0) == b
  | .int a, .bl b => a == (if b then 1 else 0)
  | .int a, .int b => a == b
  | .str a, .str b => a == b
  | _, _ => false
theorem aCW {A : Around} {s : Shared} {y x : V} {u v : Value} (ry : bG y u) (rx : bG x v) (fy : jZ y = true) (fx : jZ x = true) : SeqAt.EqAt A s u v (eqV y x) := by
  cases y with
  | non =>
    cases ry
    cases x with
    | non => cases rx; exact SeqAt.EqAt.same _
    | bl b => cases rx; exact SeqAt.EqAt.none_bool b
    | int b => obtain ⟨t, rfl⟩ := rx; exact SeqAt.EqAt.none_int b t
    | str b => obtain ⟨t, rfl⟩ := rx; exact SeqAt.EqAt.none_str b t
    | _ => exact absurd (show false = true from fx) Bool.false_ne_true
  | bl a =>
    cases ry
    cases x with
    | non => cases rx; exact SeqAt.EqAt.bool_none a
    | bl b => cases rx; exact SeqAt.EqAt.bool_bool a b
    | int b => obtain ⟨t, rfl⟩ := rx; exact SeqAt.EqAt.bool_int a b t
    | str b => obtain ⟨t, rfl⟩ := rx; exact SeqAt.EqAt.bool_str a b t
    | _ => exact absurd (show false = true from fx) Bool.false_ne_true
  | int a =>
    obtain ⟨t', rfl⟩ := ry
    cases x with
    | non => cases rx; exact SeqAt.EqAt.int_none a t'
    | bl b => cases rx; exact SeqAt.EqAt.int_bool a t' b
    | int b => obtain ⟨t, rfl⟩ := rx; exact SeqAt.EqAt.int_int a t' b t
    | str b => obtain ⟨t, rfl⟩ := rx; exact SeqAt.EqAt.int_str a t' b t
    | _ => exact absurd (show false = true from fx) Bool.false_ne_true
  | str a =>
    obtain ⟨t', rfl⟩ := ry
    cases x with
    | non => cases rx; exact SeqAt.EqAt.str_none a t'
    | bl b => cases rx; exact SeqAt.EqAt.str_bool a t' b
    | int b => obtain ⟨t, rfl⟩ := rx; exact SeqAt.EqAt.str_int a t' b t
    | str b => obtain ⟨t, rfl⟩ := rx; exact SeqAt.EqAt.str_str a t' b t
    | _ => exact absurd (show false = true from fx) Bool.false_ne_true
  | _ => exact absurd (show false = true from fy) Bool.false_ne_true
def eqU (x : V) (u : Value) : Bool := match u with
  | .none => eqV .non x
  | .bool b => eqV (.bl b) x
  | .int i _ => eqV (.int i) x
  | .str z _ => eqV (.str z) x
  | _ => false
theorem aAp {x y : V} {u : Value} (r : bG y u) (f : jZ y = true) : eqU x u = eqV y x := by
  cases y with
  | non => cases r; rfl
  | bl b => cases r; rfl
  | int i => obtain ⟨t, rfl⟩ := r; rfl
  | str z => obtain ⟨t, rfl⟩ := r; rfl
  | _ => exact absurd (show false = true from f) Bool.false_ne_true
theorem mX {x : V} : ∀ {xs : List V} {us : List Value}, aX xs us -> xs.all jZ = true -> us.any (eqU x) = xs.any fun y => eqV y x
  := by
  intro xs us h
  induction h with
  | nil => intro _; rfl
  | cons r t ih =>
    intro f
    rw [List.all_cons, Bool.and_eq_true] at f
    rw [List.any_cons, List.any_cons, aAp r f.1, ih f.2]
theorem jG {A : Around} {s : Shared} {x : V} {v : Value} (rx : bG x v) (fx : jZ x = true) : ∀ {xs : List V} {us : List Value}, aX xs us -> xs.all jZ = true -> ∀ u ∈ us, SeqAt.EqAt A s u v (eqU x u)
  | _, _, .nil, _ => fun u hu => by cases hu
  | y :: xs, u :: us, .cons r t, f => fun u' hu => by
    rw [List.all_cons, Bool.and_eq_true] at f
    rcases List.mem_cons.mp hu with rfl | hu
    · rw [aAp r f.1]; exact aCW r rx f.1 fx
    · exact jG rx fx t f.2 u' hu
def inV (x : V) (xs : List V) : Bool := xs.any fun y => eqV y x
def rIn (K : PySem.W.Frag) (neg : Bool) : R2 := fun x y H Q => ∃ p xs, y = .ref p /\ (SqL K H p xs ∨ SqT K H p xs) /\ jZ x = true /\ xs.all jZ = true /\ Q (.bl (if neg then !inV x xs else inV x xs)) H
theorem hU : OpR X (compareOp .In) (rIn X.K false) := by
  intro pins s σ H x y v u Q I rx ry h
  obtain ⟨p, xs, rfl, hq, fx, fs, q⟩ := h
  cases ry
  rcases hq with hq | hq
  · obtain ⟨its, r, pl, hz⟩ := I.list hq
    refine SeqAt.in_listAt (eqU x) pl.isList (fun w hw => jG rx fx r fs w (by simpa using hw)) ⟨.bl _, H, I, rfl, ?_⟩
    rw [show its.toArray.any (eqU x) = its.any (eqU x) by simp, mX r fs]
    exact q
  · obtain ⟨its, r, pl, hz⟩ := I.tuple hq
    refine SeqAt.in_tupleAt (eqU x) pl (fun w hw => jG rx fx r fs w (by simpa using hw)) ⟨.bl _, H, I, rfl, ?_⟩
    rw [show its.toArray.any (eqU x) = its.any (eqU x) by simp, mX r fs]
    exact q
theorem kS : OpR X (compareOp .NotIn) (rIn X.K true) := by
  intro pins s σ H x y v u Q I rx ry h
  obtain ⟨p, xs, rfl, hq, fx, fs, q⟩ := h
  cases ry
  rcases hq with hq | hq
  · obtain ⟨its, r, pl, hz⟩ := I.list hq
    refine SeqAt.notIn_listAt (eqU x) pl.isList (fun w hw => jG rx fx r fs w (by simpa using hw)) ⟨.bl _, H, I, rfl, ?_⟩
    rw [show its.toArray.any (eqU x) = its.any (eqU x) by simp, mX r fs]
    exact q
  · obtain ⟨its, r, pl, hz⟩ := I.tuple hq
    refine SeqAt.notIn_tupleAt (eqU x) pl (fun w hw => jG rx fx r fs w (by simpa using hw)) ⟨.bl _, H, I, rfl, ?_⟩
    rw [show its.toArray.any (eqU x) = its.any (eqU x) by simp, mX r fs]
    exact q
theorem aT : eY X (.builtin "len") (fun xs H Q => ∃ p ys, xs = [.ref p] /\ (SqL X.K H p ys ∨ SqT X.K H p ys) /\ Q (.int ys.length) H) := by
  intro pins s σ H xs us Q I r h
  obtain ⟨p, ys, rfl, hq, q⟩ := h
  obtain ⟨u, rfl, rx⟩ := gJ r
  cases rx
  have hn := nW
  rcases hq with hq | hq
  · obtain ⟨its, r', pl, hz⟩ := I.list hq
    have hlen := r'.length
    exact Calls.call_len_list pl.isList (by simp only [List.size_toArray] <;> omega) ⟨.int ys.length, H, I.tok _, ⟨s.toks + 1, by rw [List.size_toArray, hlen]⟩, q⟩
  · obtain ⟨its, r', pl, hz⟩ := I.tuple hq
    have hlen := r'.length
    exact len_tuple pl (by simp only [List.size_toArray] <;> omega) ⟨.int ys.length, H, I.tok _, ⟨s.toks + 1, by rw [List.size_toArray, hlen]⟩, q⟩
theorem iM : eY X (.type "list") (fun xs H Q => ∃ p ys, xs = [.ref p] /\ (SqL X.K H p ys ∨ SqT X.K H p ys) /\ ∀ l, H l = none -> Q (.ref l) (upd H l (.lst ys))) := by
  intro pins s σ H xs us Q I r h
  obtain ⟨p, ys, rfl, hq, q⟩ := h
  obtain ⟨u, rfl, rx⟩ := gJ r
  cases rx
  have fin : ∀ (its : List Value), aX ys its -> ys.length <= sizeLine -> ∀ (h' : Heap) (c' : Nat), (∀ b o', s.heap.get? b = some o' -> h'.get? b = some o') ->
      h'.get? s.heap.objs.size = some { cls := .type "list", dict := none, data := .seq its.toArray c', slots := #[] } -> EP X pins σ Q (.ref s.heap.objs.size) { s with heap := h' } := fun its r' hz h' c' kp e =>
    ⟨.ref s.heap.objs.size, _, I.laid (t' := s.toks) kp (Nat.le_refl _) (show bM X.prog X.w _ h' _ (.lst ys) from ⟨hz, its, c', r', e⟩), rfl, q _ (I.hok.fresh (Nat.le_refl _))⟩
  rcases hq with hq | hq
  · obtain ⟨its, r', pl, hz⟩ := I.list hq
    have hlen := r'.length
    obtain ⟨o, ho, hc, n, hd⟩ := pl.isList
    exact call_list_seq p (.inl rfl) ho hc hd (fun h' c' kp e => fin its r' hz h' c' kp e) (by simp only [List.size_toArray] <;> omega)
  · obtain ⟨its, r', pl, hz⟩ := I.tuple hq
    have hlen := r'.length
    obtain ⟨o, ho, hc, n, hd⟩ := pl
    exact call_list_seq p (.inr rfl) ho hc hd (fun h' c' kp e => fin its r' hz h' c' kp e) (by simp only [List.size_toArray] <;> omega)
theorem bS : eY X (.type "tuple") (fun xs H Q => ∃ p ys, xs = [.ref p] /\ ((SqL X.K H p ys /\ ∀ l, H l = none -> Q (.ref l) (upd H l (.tup ys))) ∨ (SqT X.K H p ys /\ Q (.ref p) H))) := by
  intro pins s σ H xs us Q I r h
  obtain ⟨p, ys, rfl, h⟩ := h
  obtain ⟨u, rfl, rx⟩ := gJ r
  cases rx
  rcases h with ⟨hq, q⟩ | ⟨hq, q⟩
  · obtain ⟨its, r', pl, hz⟩ := I.list hq
    have hlen := r'.length
    refine call_tuple_list pl.isList (fun h' kp => ?_) (by simp only [List.size_toArray] <;> omega)
    have I1 : Inv X pins σ H { s with heap := h' } := I.kept (t' := s.toks) kp
    have I2 : Inv X pins σ (upd H h'.objs.size (.tup ys)) { s with heap := h'.push { cls := .type "tuple", data := .seq its.toArray } } :=
      I1.laid (t' := s.toks) (fun b o e => Heap.get?_push_of_some _ e) (Nat.le_refl _) (show bM X.prog X.w _ _ _ (.tup ys) from ⟨hz, its, 0, r', Heap.get?_push_size _ rfl⟩)
    exact ⟨.ref h'.objs.size, _, I2, rfl, q _ (I1.hok.fresh (Nat.le_refl _))⟩
  · obtain ⟨its, r', pl, hz⟩ := I.tuple hq
    exact call_tuple_same pl ⟨.ref p, H, I, rfl, q⟩
def tyV (K : PySem.W.Frag) (T : String) (x : V) (H : Hp) : Prop := match x with
  | .str _ => T = "str"
  | .int _ => T = "int"
  | .ref p => (T = "list" /\ ∃ xs, SqL K H p xs) ∨ (T = "tuple" /\ ∃ xs, SqT K H p xs) ∨
      (T = "dict" /\ ((∃ kvs, H p = some (.dK kvs)) ∨ ∃ kvs, H p = some (.dT kvs))) ∨ (T = "set" /\ ∃ S n, H p = some (.set S n))
  | _ => False
theorem aCX {pins : List (Addr × Obj)} {σ : St} {H : Hp} {s : Shared} {T : String} {x : V} {v : Value} (I : Inv X pins σ H s) (r : bG x v) (ty : tyV X.K T x H) :
    s.TypeIs v T /\ ∀ a, v = .ref a -> ∃ ob, s.heap.get? a = some ob /\ ob.dict = none := by
  cases x with
  | str z =>
    obtain ⟨t, rfl⟩ := r
    cases (show T = "str" from ty)
    exact ⟨typeIs_str s z t, fun _ e => nomatch e⟩
  | int i =>
    obtain ⟨t, rfl⟩ := r
    cases (show T = "int" from ty)
    exact ⟨typeIs_int s i t, fun _ e => nomatch e⟩
  | ref p =>
    cases r
    rcases ty with ⟨rfl, xs, hq⟩ | ⟨rfl, xs, hq⟩ | ⟨rfl, hk⟩ | ⟨rfl, S, n, hk⟩
    · obtain ⟨its, _, pl, _⟩ := I.list hq
      refine ⟨pl.isList.typeIs, fun a e => ?_⟩
      cases e
      obtain ⟨o, n, e, c, hd, _⟩ := pl
      exact ⟨o, e, hd⟩
    · obtain ⟨o, e, hc, hd⟩ : ∃ o, s.heap.get? p = some o /\ o.cls = .type "tuple" /\ o.dict = none := by
        rcases hq with hq | ⟨o, _, _, hk, hc, hd, _⟩
        · obtain ⟨_, its, n, _, e⟩ := hq.ok I.hok
          exact ⟨_, e, rfl, rfl⟩
        · exact ⟨o, I.kIn p o hk, hc, hd⟩
      refine ⟨⟨o, e, hc⟩, fun a e2 => ?_⟩
      cases e2
      exact ⟨o, e, hd⟩
    · have z : ∃ o, s.heap.get? p = some o /\ o.ExactDict := by
        rcases hk with ⟨kvs, hk⟩ | ⟨kvs, hk⟩
        · obtain ⟨_, _, _, _, o, _, _, e, ex, _⟩ := I.hok p _ hk
          exact ⟨o, e, ex⟩
        · obtain ⟨_, _, _, _, o, _, _, e, ex, _⟩ := I.hok p _ hk
          exact ⟨o, e, ex⟩
      obtain ⟨o, e, ex⟩ := z
      refine ⟨⟨o, e, ex.1⟩, fun a e2 => ?_⟩
      cases e2
      exact ⟨o, e, ex.2.1⟩
    · obtain ⟨o, _, _, _, e, ex, _⟩ := I.hok p _ hk
      refine ⟨⟨o, e, ex.1⟩, fun a e2 => ?_⟩
      cases e2
      exact ⟨o, e, ex.2.1⟩
  | _ => exact False.elim ty
def tBM (K : PySem.W.Frag) (T : String) (r : V -> List V -> Hp -> VK -> Prop) (to : TE) (t : TA) : TE := fun σ H Q => to σ H fun x H1 => tyV K T x H1 /\ t σ H1 fun xs H2 => r x xs H2 Q
variable {o e : Expr} {es : List Expr} {to : TE} {t : TA} {name : Str} {apos cpos : Pos} {T id : String} {r : V -> List V -> Hp -> VK -> Prop}
theorem mJ (pa : PlainAttrs T) (slot : Slot T name id) (hty : typeOf (.builtin id) = pure (.type "method_descriptor")) (hm : MtR X id r) (ho : PE X o to) (ha : PA X (e :: es) t)
    (hbase : attributeBase o name X.env (eval o X.env) = eval o X.env := by rfl)
    (hfew : ((backTo cpos (starEach (e :: es) X.env)).all (fun x => !x.1) && (backToKw cpos (keywordEach [] X.env)).all (fun x => x.1.isSome)
      && decide ((e :: es).length + ([] : List Keyword).length + (if ([] : List Keyword).isEmpty then 0 else 1) < 30)) = true := by rfl)
    (hline : (apos.endLine == cpos.line) = true := by rfl) (hs : starEach (e :: es) X.env = (false, eval e X.env) :: starEach es X.env := by rfl) (hplain : (backTo cpos (starEach es X.env)).any (·.1) = false := by rfl) :
    PE X (.Call (.Attribute o name apos) (e :: es) [] cpos) (tBM X.K T r to t) := by
  intro pins s σ H Q I h
  refine wpAny_Call_method_late hbase hfew hline rfl (thn (ho pins s σ H _ I h) fun v s1 hx9 => ?_)
  obtain ⟨x, H1, I1, r1, ty, q1⟩ := hx9
  obtain ⟨h1, h2⟩ := aCX I1 r1 ty
  refine ⟨T, id, pa, slot, hty, h1, h2, ?_⟩
  have hA := ha cpos pins s1 σ H1 _ I1 q1
  rw [hs] at hA ⊢
  refine Calls.callWith_builtin (by show (false || (backTo cpos (starEach es X.env)).any (·.1)) = false; rw [hplain] <;> rfl) (Calls.evalArgs_plain ?_)
  refine thn hA fun us s2 hx9 => ?_
  obtain ⟨vs, H2, I2, r2, q2⟩ := hx9
  exact hm pins s2 σ H2 x vs v us Q I2 r1 r2 q2
/- xs.append(e), list.index on a module's tuple .. are MtR facts of 06m -/
end
end L2
namespace L2
open PySem PySem.Spec PyProof.Rows
def MtM (X : Cx) (id : String) (r : V -> List V -> Hp -> VK -> Prop) : Prop :=
  ∀ (pins : List (Addr × Obj)) (s : Shared) (σ : St) (H : Hp) (x : V) (xs : List V) (v : Value) (us : List Value) (Q : VK), Inv X pins σ H s -> bG x v -> aX xs us -> r x xs H Q ->
    wpAny (model X.prog X.w) X.A (call (.builtin id) (v :: us)) (EP X pins σ Q) X.xe s
theorem aX.one {x : V} {us : List Value} (r : aX [x] us) : ∃ u, us = [u] /\ bG x u := gJ r
theorem aX.two {x y : V} {us : List Value} (r : aX [x, y] us) : ∃ u v, us = [u, v] /\ bG x u /\ bG y v := kR r
theorem aX.zero : ∀ {us : List Value}, aX [] us -> us = []
  | _, .nil => rfl
theorem aX.eraseIdx : ∀ {xs : List V} {us : List Value} (i : Nat), aX xs us -> aX (xs.eraseIdx i) (us.eraseIdx i)
  | _, _, _, .nil => .nil
  | _, _, 0, .cons _ t => t
  | _, _, i + 1, .cons r t => .cons r (aX.eraseIdx i t)
theorem aX.reverse {xs : List V} {us : List Value} (h : aX xs us) : aX xs.reverse us.reverse := by
  induction h with
  | nil => exact .nil
  | cons r t ih => rw [List.reverse_cons, List.reverse_cons]; exact aX.append ih (.cons r .nil)
theorem aX.rep {xs : List V} {us : List Value} (h : aX xs us) : ∀ k : Nat, aX (List.replicate k xs).flatten (List.replicate k us).flatten
  | 0 => .nil
  | k + 1 => by
    rw [List.replicate_succ, List.replicate_succ, List.flatten_cons, List.flatten_cons]
    exact aX.append h (aX.rep h k)
theorem qJ {α : Type} : ∀ (l : List α) (i : Nat), (l.eraseIdx i).length <= l.length
  | [], _ => Nat.le_refl _
  | _ :: _, 0 => Nat.le_succ _
  | _ :: r, i + 1 => Nat.succ_le_succ (qJ r i)
theorem jN (its : List Value) : ∀ (k : Nat) (acc : List Value),
    List.foldl (fun x1 x2 => x1 ++ x2) acc.toArray (List.replicate k its.toArray) = (acc ++ (List.replicate k its).flatten).toArray
  | 0, acc => by simp
  | k + 1, acc => by
    have e : acc.toArray ++ its.toArray = (acc ++ its).toArray := by simp
    have e2 : (acc ++ its) ++ (List.replicate k its).flatten = acc ++ (List.replicate (k + 1) its).flatten := by
      rw [List.replicate_succ, List.flatten_cons, List.append_assoc]
    rw [<- e2, <- jN its k (acc ++ its), <- e, List.replicate_succ, List.foldl_cons]
section
variable {X : Cx} {pins : List (Addr × Obj)} {σ : St} {H : Hp} {s : Shared} {l b : Addr} {xs ys zs : List V}
theorem Inv.lset {its its' : List Value} {n : Nat} {f : Array Value -> Array Value} {t' : Nat} (I : Inv X pins σ H s) (hH : H l = some (.lst xs))
    (e : s.heap.get? l = some { cls := .type "list", data := .seq its.toArray n }) (hf : f its.toArray = its'.toArray) (hv : aX ys its') (hz : ys.length <= sizeLine) :
    Inv X pins σ (upd H l (.lst ys)) { s with heap := s.heap.update l (Obj.mapSeq f), toks := t' } := by
  have q := PySem.IsL.update e f
  rw [hf] at q
  refine I.write (x := l) (e := l) (by rw [hH]; exact trivial) (.inl rfl) (fun b' u hb hu => (Heap.get?_update_other s.heap (Obj.mapSeq f) (Ne.symm hb)).trans hu) ⟨_, q⟩ ?_
  exact ⟨hz, its', _, hv, q⟩
theorem Inv.lnew {its : List Value} {t' : Nat} (I : Inv X pins σ H s) (hv : aX ys its) (hz : ys.length <= sizeLine) :
    Inv X pins σ (upd H s.heap.objs.size (.lst ys)) { s with heap := s.heap.push { cls := .type "list", data := .seq its.toArray }, toks := t' } :=
  I.laid (fun _ _ q => Heap.get?_push_of_some _ q) (Nat.le_refl _) ⟨hz, its, 0, hv, Heap.get?_push_size _ rfl⟩
theorem Inv.fresh (I : Inv X pins σ H s) : H s.heap.objs.size = none := I.hok.fresh (Nat.le_refl _)
theorem Inv.lstM (I : Inv X pins σ H s) (hH : H l = some (.lst xs)) : xs.length <= sizeLine /\ ∃ (its : List Value) (n : Nat), aX xs its /\ xs.length = its.length /\ s.heap.get? l = some { cls := .type "list", data := .seq its.toArray n } := by
  obtain ⟨z, its, n, r, e⟩ := I.hok l _ hH
  exact ⟨z, its, n, r, r.length, e⟩
theorem aAq {n : Nat} (h : n <= sizeLine) : Builtin.List.listTooLong n = false := by
  unfold Builtin.List.listTooLong
  exact decide_eq_false (by omega)
end
section
variable {X : Cx}
def aBN : V -> List V -> Hp -> VK -> Prop := fun x vs H Q => ∃ l xs y, x = .ref l /\ vs = [y] /\ H l = some (.lst xs) /\ xs.length < sizeLine /\ Q .non (upd H l (.lst (xs ++ [y])))
theorem hV : MtM X "list.append" aBN := by
  intro pins s σ H x vs v us Q I rx rv h
  obtain ⟨l, xs, y, rfl, rfl, hH, hz, q⟩ := h
  cases rx
  obtain ⟨u, rfl, ru⟩ := rv.one
  obtain ⟨z, its, n, r, hl, e⟩ := I.lstM hH
  refine call_meets F.slot_list_append ⟨_, e, rfl⟩ F.entry_list_append (F.args_list_append_2 _ _) (PySem.list_append l its.toArray n u (by rw [List.size_toArray]; omega)) ⟨e, ?_⟩
  refine ⟨.non, _, I.lset (its' := its ++ [u]) hH e (by simp) (r.append (.cons ru .nil)) ?_, rfl, q⟩
  rw [List.length_append, List.length_singleton]
  omega
def aCY : V -> List V -> Hp -> VK -> Prop := fun x vs H Q => ∃ l xs i k y, x = .ref l /\ vs = [.int i] /\ H l = some (.lst xs) /\ -(2 ^ 63) <= i /\ i < 2 ^ 63 /\ seqIndex? i xs.length = some k /\ xs[k]? = some y /\ Q y (upd H l (.lst (xs.eraseIdx k)))
theorem aAr : MtM X "list.pop" aCY := by
  intro pins s σ H x vs v us Q I rx rv h
  obtain ⟨l, xs, i, k, y, rfl, rfl, hH, h1, h2, hk, hy, q⟩ := h
  cases rx
  obtain ⟨u, rfl, ru⟩ := rv.one
  obtain ⟨t, rfl⟩ := ru
  obtain ⟨z, its, n, r, hl, e⟩ := I.lstM hH
  obtain ⟨w, hw, rw'⟩ := r.get hy
  refine call_meets F.slot_list_pop ⟨_, e, rfl⟩ F.entry_list_pop (F.args_list_pop_2 _ _)
    (MeetsSeq.list_pop_at l its.toArray n i t k w (fitsIndex_both h1 h2) (by rw [List.size_toArray, <- hl]; exact hk) (by rw [<- Array.getElem?_toList]; exact hw) (by rw [List.size_toArray]; omega)) ⟨e, ?_⟩
  refine ⟨y, _, I.lset (its' := its.eraseIdx k) hH e ?_ (r.eraseIdx k) ?_, rw', q⟩
  · show its.toArray.eraseIdxIfInBounds k = (its.eraseIdx k).toArray
    rw [List.eraseIdxIfInBounds_toArray]
  · have := qJ xs k
    omega
def aEh : R2 := fun x y H Q => ∃ l b xs zs, x = .ref l /\ y = .ref b /\ H l = some (.lst xs) /\ H b = some (.lst zs) /\ xs.length + zs.length <= sizeLine /\ ∀ p, H p = none -> Q (.ref p) (upd H p (.lst (xs ++ zs)))
theorem vE : OpR X (binaryOp .Add) aEh := by
  intro pins s σ H x y v u Q I rx ry h
  obtain ⟨l, b, xs, zs, rfl, rfl, hH, hB, hz, q⟩ := h
  cases rx
  cases ry
  obtain ⟨z, its, n, r, hl, e⟩ := I.lstM hH
  obtain ⟨z2, its2, n2, r2, hl2, e2⟩ := I.lstM hB
  refine PySem.P.add_list e e2 ?_ (by rw [List.size_toArray, List.size_toArray]; omega)
  have ea : its.toArray ++ its2.toArray = (its ++ its2).toArray := by simp
  rw [ea]
  exact ⟨.ref _, _, I.lnew (t' := s.toks) (r.append r2) (by rw [List.length_append]; omega), rfl, q _ I.fresh⟩
def aEi : R2 := fun x y H Q => ∃ l k xs, x = .ref l /\ y = .int k /\ H l = some (.lst xs) /\ -(2 ^ 63) <= k /\ k < 2 ^ 63 /\ xs.length * k.toNat <= sizeLine /\
  ∀ p, H p = none -> Q (.ref p) (upd H p (.lst (List.replicate k.toNat xs).flatten))
theorem rC {α : Type} (xs : List α) (k : Nat) : (List.replicate k xs).flatten.length = k * xs.length := by
  induction k with
  | zero => simp
  | succ k ih => rw [List.replicate_succ, List.flatten_cons, List.length_append, ih, Nat.succ_mul, Nat.add_comm]
theorem aCZ : OpR X (binaryOp .Mult) aEi := by
  intro pins s σ H x y v u Q I rx ry h
  obtain ⟨l, k, xs, rfl, rfl, hH, h1, h2, hz, q⟩ := h
  cases rx
  obtain ⟨t, rfl⟩ := ry
  obtain ⟨z, its, n, r, hl, e⟩ := I.lstM hH
  have hlen : its.toArray.size * k.toNat <= sizeLine := by rw [List.size_toArray, <- hl]; exact hz
  have hcap : ¬ its.toArray.size * k.toNat > (2 ^ 63 - 1) / 8 := by
    have : (sizeLine : Nat) <= (2 ^ 63 - 1) / 8 := by decide
    omega
  have hfit : ¬ (!Builtin.List.listFitsIndex k) = true := by
    rw [fitsIndex_both h1 h2]
    exact Bool.false_ne_true
  have hlong : ¬ Builtin.List.listTooLong (its.toArray.size * k.toNat) = true := by
    rw [aAq hlen]
    exact Bool.false_ne_true
  have hnew : List.foldl (fun x1 x2 => x1 ++ x2) #[] (List.replicate (if its.toArray.isEmpty = true then 0 else k.toNat) its.toArray) = (List.replicate k.toNat its).flatten.toArray := by
    have f0 : ∀ m : Nat, List.foldl (fun x1 x2 => x1 ++ x2) #[] (List.replicate m its.toArray) = (List.replicate m its).flatten.toArray := fun m => by
      have := jN its m []
      rw [List.nil_append] at this
      exact this
    rw [f0]
    cases its with
    | nil => simp
    | cons a r' => rw [if_neg (by simp)]
  refine wpAny_binaryOp_repeat_ref (T := "list") (U := "int") (by decide) ⟨_, e, rfl⟩ (fun s' => typeIs_int s' k t) noFill_list_mul F.fills_int_mul F.slot_int_rmul repeat_list F.slot_int_index.lookup
    (call_meets F.slot_int_rmul (typeIs_int s k t) F.entry_int_rmul (F.args_int_rmul_2 _ _) (int___rmul___int_list k t l its.toArray n)
      ⟨e, rfl, ⟨_, e, rfl⟩, call_meets F.slot_list_mul ⟨_, e, rfl⟩ F.entry_list_mul (F.args_list_mul_2 _ _) (AutoListH.list___mul___list_int_3 l its.toArray n k t hfit hcap hlong) ⟨e, ?_⟩⟩)
  rw [hnew]
  exact ⟨.ref _, _, I.lnew (t' := s.toks) (r.rep k.toNat) (by rw [rC, Nat.mul_comm]; exact hz), rfl, q _ I.fresh⟩
end
section
variable {prog : Program} {w : World} {A : Around} {E : Value -> Shared -> Prop} {s : Shared}
end
section
variable {X : Cx}
end
end L2
namespace Att
open PySem PySem.W PySem.Calls PyProof.Rows
theorem mT {P : Params} {h : Heap} : ∀ (ns : List Int) (vs : List Value), WellAll P h vs (ns.map WData.int) -> IntsAre vs ns := by
  intro ns
  induction ns with
  | nil =>
    intro vs w
    rw [List.map_nil] at w
    cases w
    exact .nil
  | cons n ns ih =>
    intro vs w
    rw [List.map_cons] at w
    cases w with
    | cons a b =>
      cases a
      exact .cons _ _ (ih _ b)
theorem yQ {l : OpenLaw} {n : Nat} (hn : l.most = some n) {P : Params} {h : Heap} {args : List WData} {vals : List Value}
    (hpre : l.row.toRowW.claim.pre args = true) (hwl : WellAll P h vals args) :
    ∃ a vs ns, vals = [Value.ref a] /\ args = [WData.list (ns.map WData.int)] /\ h.get? a = some { cls := .type "list", data := .seq vs.toArray } /\ IntsAre vs ns /\ ns.length <= n := by
  have hsh : WShape.hasAll [] args [.list .int] = true := (pre_splitW hpre).1
  have hc : l.pre.holds [] { args := args } = true := (pre_splitW hpre).2
  obtain ⟨d, r, rfl, h1, h2⟩ := hasAllW_cons hsh
  obtain rfl := hasAllW_nil h2
  obtain ⟨xs, rfl, h3⟩ := hasW_list h1
  obtain ⟨ns, rfl⟩ := items_int h3
  have hlen : ns.length <= n := by
    unfold OpenLaw.pre at hc
    have h4 : (WTm.not (.lt (.lit (.int (n : Int))) (.len (.arg 0)))).holds [] { args := [.list (ns.map .int)] } = true := by
      have h4 := (holds_andW hc).1
      rw [hn] at h4
      exact h4
    have h5 := condW_of h4 (w_not (w_lt w_lit (w_len_list (w_arg rfl))))
    rw [List.length_map] at h5
    refine Nat.le_of_not_lt fun q => ?_
    have q' : (n : Int) < ((ns.length : Nat) : Int) := by omega
    first
      | (rw [decide_eq_true q'] at h5; exact absurd h5 (by decide))
      | (simp at h5; omega)
  cases hwl with
  | cons w1 w2 =>
    cases w2
    cases w1 with
    | list ho hall => exact ⟨_, _, ns, rfl, rfl, ho, mT ns _ hall, hlen⟩
theorem yR (l : OpenLaw) (args : List WData) : l.row.toRowW.claim.post args (.bool true) args = true :=
  postW_of (r := l.row.toRowW) (X := (true == true))
    (show WShape.has [] (.bool true) .bool = true by first | rfl | decide | simp [WShape.has, WShape.arms, WShape.armsAll])
    (show (WTm.eq .res (.lit (.bool true))).value [] { args := args, res := some (.bool true), after := args } = some (.bool (true == true)) from w_eq_bool (w_res rfl) w_lit) rfl
theorem attach_call {l : OpenLaw} {n : Nat} {q : Program} {loose : List Str} {XP : (Str -> Option Value) -> Heap -> Prop} {YP : World -> Heap -> Prop} {d : DefRec}
    (hn : l.most = some n) (hdf : d.params.defaults = [])
    (call : ∀ (w : World) (s₀ s₁ : Shared) (mg mb : Str -> Option Value) (fa : Addr) (o : Obj) (pm cd doc : Value) (a : Addr) (vs : List Value) (ns : List Int),
      Ground q loose [] XP w s₀ mg mb s₁.heap -> YP w s₁.heap ->
      s₁.heap.get? fa = some o -> o.data = .func (docDef d.name d.params d.body d.scope pm cd doc) -> s₁.heap.CodeRec cd d.name -> mg d.name = some (.ref fa) ->
      s₁.heap.get? a = some { cls := .type "list", data := .seq vs.toArray } -> IntsAre vs ns -> ns.length <= n -> s₁.gens = #[] ->
      codeAny (model l.prog w) callerA (.call (.ref fa) ⟨[.ref a], []⟩) (fun r s' => r = .ok (.ret (.bool true)) /\ OldK s₁.heap s'.heap /\ s'.os = s₁.os /\ AllBare s'.gens) s₁) :
    WalkO q loose XP YP l.row.toRowW d [] (fun f vs => PySem.call f vs) := by
  intro w s₀ s₁ mg mb G Y fa o pm cd doc dV kV ho hd hcd hD hmg hg args vals as hpre hlay hrd hwl hlo
  obtain rfl : dV = .none := Dflts.none hD hdf
  obtain rfl : kV = .none := Dflts.noKw hD
  obtain ⟨a, vs, ns, rfl, rfl, hobj, hints, hlen⟩ := yQ hn hpre hwl
  refine enter_call (codeAny_mono (call w s₀ s₁ mg mb fa o pm cd doc a vs ns G Y ho (fd_plain hd) hcd hmg hobj hints hlen hg) fun r s' hq => ?_)
  obtain ⟨rfl, h2, h3, h4⟩ := hq
  exact ⟨.inl ⟨.bool true, .bool true, [], rfl, fun _ => rfl, .bool true, yR l _, fun _ => ⟨List.Pairwise.nil, fun _ hm => (nomatch hm)⟩⟩, h2, h3, h4⟩
section
variable {prog : Program} {w : World} {A : Around} {E : Value -> Shared -> Prop} {s : Shared} {K : Frag}
end
end Att
namespace L2
open PySem PySem.Spec PyProof.Rows
theorem lU : ∀ {vs : List Value} {ns : List Int}, IntsAre vs ns -> aX (ns.map V.int) vs
  := by
  intro vs ns h
  induction h with
  | nil => exact .nil
  | cons n t h ih => exact .cons ⟨t, rfl⟩ ih
end L2
namespace L2
open PySem PySem.Spec PyProof.Rows
end L2
namespace L2
open PySem PySem.Spec PyProof.Rows
def gU (s : Stmt) : Arguments := match s with
  | .FunctionDef _ a _ _ _ _ _ _ _ _ => a
  | _ => { posonlyargs := [], args := [], vararg := none, kwonlyargs := [], kw_defaults := [], kwarg := none, defaults := [] }
def eG (s : Stmt) : List Stmt := match s with
  | .FunctionDef _ _ b _ _ _ _ _ _ _ => b
  | _ => []
def aF (s : Stmt) : Scope := match s with
  | .FunctionDef _ _ _ _ _ _ sc _ _ _ => sc
  | _ => { kind := .function, names := [], isGenerator := false, isCoroutine := false }
abbrev CX0 : CXT := fun _ _ _ _ _ _ => False
abbrev E0 : XK := fun _ _ _ => False
theorem aDJ {X : Cx} : uZ CX0 X E0 := fun _ _ _ _ _ _ _ h => h.elim
structure Fun (K : PySem.W.Frag) (x qual : Str) (st : Stmt) (f : Addr) (fd : FuncData) : Prop where
  ex : ∃ (oc : Value) (od : Option Addr) (kV doc pm : Value) (an : Option Addr) (cdv ct : Value) (osl : Array (Option Value)),
    fd = PySem.W.fnOf x qual (gU st) (eG st) (aF st) .none kV doc pm an cdv ct /\ K.lookup f = some ⟨oc, od, .func fd, osl⟩ /\ PySem.W.codeIn K cdv qual = true
  kp : PySem.W.keepIn K (.ref f) = true
section
variable {P : Program} {w : World} {K : PySem.W.Frag} {mg : Str -> Option Value} {base : Heap}
theorem Fun.ok {x qual : Str} {st : Stmt} {f : Addr} {fd : FuncData} {N ps : List Str} {k : Nat} {sp : Sp} (F : Fun K x qual st f fd) (S : FnScope N ps (aF st)) (len : ∀ vs H Q E, sp vs H Q E -> vs.length = ps.length)
    (hbody : ∀ (cdv : Value) (A : Around) (outer : List Env) (s : Shared) (H : Hp) (vs : List V) (Q : VK) (E : XK), Room k (A.deeper (envOfC qual (aF st) s.heap.objs.size f cdv)) -> sp vs H Q E ->
      ∃ t, PSs (vA CX0 P w K mg base N qual (aF st) f cdv A outer s H E).nox (eG st) t /\ t { nx := fun _ H' => Q .non H', rt := Q } (start N vs) H) : FnOk P w K mg base CX0 (k + 1) f fd ps sp := by
  obtain ⟨oc, od, kV, doc, pm, an, cdv, ct, osl, rfl, lk, hcd⟩ := F.ex
  refine aCt lk hcd S len fun A outer s H vs Q E hr hsp => ?_
  obtain ⟨t, h, q⟩ := hbody cdv A outer s H vs Q E hr hsp
  exact ⟨t, h.nox, q⟩
theorem Fun.binds {x qual : Str} {st : Stmt} {f : Addr} {fd : FuncData} {ps : List Str} (F : Fun K x qual st f fd)
    (h : ∀ (kV doc pm : Value) (an : Option Addr) (cdv ct : Value) (us : List Value), us.length = ps.length -> bindArgs (PySem.W.fnOf x qual (gU st) (eG st) (aF st) .none kV doc pm an cdv ct) ⟨us, []⟩ = pure (ps.zip us)) : qE K fd ps [] := by
  obtain ⟨oc, od, kV, doc, pm, an, cdv, ct, osl, rfl, lk, hcd⟩ := F.ex
  exact .all (h kV doc pm an cdv ct)
theorem aAs {x qual : Str} {st : Stmt} {f : Addr} {oc : Value} {od an : Option Addr} {osl : Array (Option Value)} {kV doc pm cdv ct : Value} (l : K.lookup f = some ⟨oc, od, .func (PySem.W.fnOf x qual (gU st) (eG st) (aF st) .none kV doc pm an cdv ct), osl⟩)
    (c : PySem.W.codeIn K cdv qual = true) (k : PySem.W.keepIn K (.ref f) = true) : Fun K x qual st f (PySem.W.fnOf x qual (gU st) (eG st) (aF st) .none kV doc pm an cdv ct) := ⟨⟨oc, od, kV, doc, pm, an, cdv, ct, osl, rfl, l, c⟩, k⟩
end
theorem nZ {A : Around} {k : Nat} (hr : Room k A) : A.units + 1 < cLine := Nat.lt_of_le_of_lt (Nat.add_le_add_left (by decide : 1 <= 64) _) hr.units
section
variable {X : Cx}
theorem pv (i : Nat) {x : Str} {pos : Pos} (hN : X.N[i]? = some x := by rfl) (hv : Vis X.env.scope x := by first | exact Or.inl rfl | exact Or.inr (Or.inl rfl) | exact Or.inr (Or.inr rfl)) (hd : (x == ("__debug__" : Str)) = false := by decide)
    (hcd : (x == ("__classdict__" : Str)) = false := by decide) : PE X (.Name x pos) (aDn i) := aCJ hN hv hd hcd
end
theorem iN {A B : Prop} (h : B) : if false = true then A else B := by
  rw [if_neg Bool.false_ne_true]
  exact h
theorem iO {A B : Prop} (h : A) : if true = true then A else B := by
  rw [if_pos rfl]
  exact h
theorem eP {c A B : Prop} [Decidable c] (h1 : c -> A) (h2 : ¬ c -> B) : if c then A else B := by
  by_cases h : c
  · rw [if_pos h]
    exact h1 h
  · rw [if_neg h]
    exact h2 h
def aE (H H' : Hp) : Prop := ∀ b o, H b = some o -> H' b = some o
theorem aE.refl (H : Hp) : aE H H := fun _ _ h => h
theorem aE.trans {H H1 H2 : Hp} (a : aE H H1) (b : aE H1 H2) : aE H H2 := fun c o h => b c o (a c o h)
theorem aE.free {H H' : Hp} (e : aE H H') {l : Addr} (h : H' l = Option.none) : H l = Option.none := by
  cases q : H l with
  | none => rfl
  | some o =>
    rw [e l o q] at h
    cases h
theorem aE.seq {K : PySem.W.Frag} {H H' : Hp} {a : Addr} {xs : List V} (e : aE H H') (h : SqL K H a xs) : SqL K H' a xs := by
  rcases h with (h | ⟨o, h⟩) | h
  · exact .inl (.inl (e _ _ h))
  · exact .inl (.inr ⟨o, e _ _ h⟩)
  · exact .inr h
end L2
set_option Elab.async false
set_option linter.all false
set_option maxRecDepth 100000
namespace L2
open PySem PySem.Spec PyProof.Rows
def cI (env : Env) : List (Str × NameKind) -> List (Str × Addr) -> List (Str × Addr)
  | [], acc => acc
  | (n, k) :: r, acc => if k == .free then (match env.cells.lookup n with | some c => cI env r ((n, c) :: acc) | none => cI env r acc) else cI env r acc
theorem sS {env : Env} : ∀ (names : List (Str × NameKind)) (acc : List (Str × Addr)), (∀ y ∈ names, y.2 = .free -> ∃ c, env.cells.lookup y.1 = some c) ->
    (forIn names acc fun (x : Str × NameKind) (r : List (Str × Addr)) => (match x with
      | (name, kind) => if (kind == NameKind.free) = true then (do let a <- cellOf env name; pure (ForInStep.yield ((name, a) :: r))) else pure (ForInStep.yield r) : Sem (ForInStep (List (Str × Addr))))) = (pure (cI env names acc) : Sem _)
  | [], acc, _ => rfl
  | (n, k) :: r, acc, h => by
    have ih := fun acc => sS r acc fun y hy => h y (List.mem_cons_of_mem _ hy)
    rw [List.forIn_cons]
    by_cases hk : (k == NameKind.free) = true
    · obtain ⟨c, hc⟩ := h (n, k) List.mem_cons_self (by simpa using hk)
      have e1 : cI env ((n, k) :: r) acc = cI env r ((n, c) :: acc) := by
        show (if k == .free then _ else _) = _
        rw [if_pos hk]; simp only at hc; rw [hc]
      simp only at hc
      rw [e1, <- ih]
      simp only [hk, if_true, cellOf, hc]
      rfl
    · have e1 : cI env ((n, k) :: r) acc = cI env r acc := by
        show (if k == .free then _ else _) = _
        rw [if_neg hk]
      rw [e1, <- ih]
      simp only [hk, if_false]
      rfl
theorem vF {env : Env} {scope : Scope} (h : ∀ y ∈ scope.names, y.2 = .free -> ∃ c, env.cells.lookup y.1 = some c) : closureFor scope env = pure (cI env scope.names []) := by
  unfold closureFor
  have e := sS scope.names [] h
  show (forIn scope.names [] _ >>= _) = _
  exact (congrArg (fun z => z >>= fun r => pure r) e).trans rfl
theorem gK {env : Env} : ∀ (names : List (Str × NameKind)) (acc : List (Str × Addr)) (n : Str) (c : Addr), (n, c) ∈ cI env names acc -> (n, c) ∈ acc ∨ env.cells.lookup n = some c
  | [], _, _, _, h => .inl h
  | (m, k) :: r, acc, n, c, h => by
    by_cases hk : (k == NameKind.free) = true
    · rw [show cI env ((m, k) :: r) acc = (match env.cells.lookup m with | some c => cI env r ((m, c) :: acc) | none => cI env r acc) from if_pos hk] at h
      cases e : env.cells.lookup m with
      | none => rw [e] at h; exact gK r acc n c h
      | some d =>
        rw [e] at h
        rcases gK r _ n c h with q | q
        · rcases List.mem_cons.mp q with q | q
          · cases q; exact .inr e
          · exact .inl q
        · exact .inr q
    · rw [show cI env ((m, k) :: r) acc = cI env r acc from if_neg hk] at h
      exact gK r acc n c h
theorem gL {env : Env} : ∀ (names : List (Str × NameKind)) (acc : List (Str × Addr)) (n : Str), ((∃ c, (n, c) ∈ acc) ∨ ((n, NameKind.free) ∈ names /\ ∃ c, env.cells.lookup n = some c)) -> ∃ c, (n, c) ∈ cI env names acc
  | [], _, _, h => by
    rcases h with h | ⟨h, _⟩
    · exact h
    · cases h
  | (m, k) :: r, acc, n, h => by
    by_cases hk : (k == NameKind.free) = true
    · rw [show cI env ((m, k) :: r) acc = (match env.cells.lookup m with | some c => cI env r ((m, c) :: acc) | none => cI env r acc) from if_pos hk]
      cases e : env.cells.lookup m with
      | none =>
        refine gL r acc n ?_
        rcases h with h | ⟨h, c, hc⟩
        · exact .inl h
        · rcases List.mem_cons.mp h with h | h
          · cases h; rw [e] at hc; cases hc
          · exact .inr ⟨h, c, hc⟩
      | some d =>
        refine gL r _ n ?_
        rcases h with ⟨c, h⟩ | ⟨h, c, hc⟩
        · exact .inl ⟨c, List.mem_cons_of_mem _ h⟩
        · rcases List.mem_cons.mp h with h | h
          · cases h; exact .inl ⟨d, List.mem_cons_self⟩
          · exact .inr ⟨h, c, hc⟩
    · rw [show cI env ((m, k) :: r) acc = cI env r acc from if_neg hk]
      refine gL r acc n ?_
      rcases h with h | ⟨h, c, hc⟩
      · exact .inl h
      · rcases List.mem_cons.mp h with h | h
        · cases h; exact absurd rfl hk
        · exact .inr ⟨h, c, hc⟩
theorem cT {β : Type} : ∀ {l : List (Str × β)} {a : Str} {b : β}, l.lookup a = some b -> (a, b) ∈ l := PySem.mem_of_lookup_some
theorem fX {β : Type} : ∀ {l : List (Str × β)} {a : Str} {b : β}, (a, b) ∈ l -> ∃ c, l.lookup a = some c
  | (k, v) :: l, a, b, h => by
    rw [List.lookup_cons]
    by_cases e : (a == k) = true
    · rw [e]; exact ⟨v, rfl⟩
    · have e' : (a == k) = false := by simpa using e
      rw [e']
      rcases List.mem_cons.mp h with h | h
      · cases h; simp at e
      · exact fX h
theorem dI {env : Env} (x : Str) : ∀ (names : List (Str × NameKind)),
    (names.map fun (n, k) => if (k == NameKind.free && env.scope.kind == .function && env.kindOf n == some .cell) then (n, NameKind.cell) else (n, k)).lookup x =
      (names.lookup x).map fun k => if (k == NameKind.free && env.scope.kind == .function && env.kindOf x == some .cell) then NameKind.cell else k
  | [] => rfl
  | (n, k) :: r => by
    have ih := dI (env := env) x r
    rw [List.map_cons]
    by_cases e : (x == n) = true
    · have en : x = n := by simpa using e
      subst en
      dsimp only
      by_cases c : (k == NameKind.free && env.scope.kind == .function && env.kindOf x == some .cell) = true
      · rw [if_pos c, List.lookup_cons, List.lookup_cons, e]
        simp only [Option.map_some, c, if_true]
      · rw [if_neg c, List.lookup_cons, List.lookup_cons, e]
        simp only [Option.map_some, c]
        rfl
    · have e' : (x == n) = false := by simpa using e
      dsimp only
      by_cases c : (k == NameKind.free && env.scope.kind == .function && env.kindOf n == some .cell) = true
      · rw [if_pos c, List.lookup_cons, List.lookup_cons, e']; exact ih
      · rw [if_neg c, List.lookup_cons, List.lookup_cons, e']; exact ih
def bP (X : Cx) (scope : Scope) (N : List Str) (C : Addr) (s0 : Shared) (H0 : Hp) (fp : List Addr) : Cx where
  prog := X.prog
  w := X.w
  K := X.K
  mg := X.mg
  base := X.base
  A := X.A
  N := N
  s₀ := s0
  H₀ := H0
  env := compEnvC scope (cI X.env scope.names []) C X.env
  outer := X.stack
  stack := X.stack
  ex := fp
  fn := fun _ => false
  calm := X.calm
  pn := []
  xe := fun _ _ => False
def lV (sc scope : Scope) (own : List Str) (frn : List Str) : Bool :=
  scope.kind == .function && scope.names.all (fun y => y.2 != .cell) && scope.names.all (fun y => y.2 != .local || scope.names.lookup y.1 == some .local) &&
  scope.names.all (fun y => y.2 != .free || sc.names.lookup y.1 == some .cell || sc.names.lookup y.1 == some .free) && decide (own ++ frn).Nodup &&
  own.all (fun x => scope.names.lookup x == some .local) && frn.all (fun x => scope.names.lookup x == some .free)
def blk (own : Nat) (fr : List Nat) (σ : St) : St := List.replicate own none ++ fr.map fun j => (σ[j]?).join
structure CompOk (X : Cx) (scope : Scope) (own : List Str) (fr : List Nat) (frn : List Str) : Prop where
  ck : lV X.env.scope scope own frn = true
  ix : ∀ (k : Nat) (x : Str), frn[k]? = some x -> ∃ j : Nat, fr[k]? = some j /\ X.N[j]? = some x
  len : fr.length = frn.length
section
variable {X : Cx} {scope : Scope} {own frn : List Str} {fr : List Nat}
theorem CompOk.parts (S : CompOk X scope own fr frn) : scope.kind = .function /\ (∀ y ∈ scope.names, y.2 ≠ .cell) /\ (∀ y ∈ scope.names, y.2 = .local -> scope.names.lookup y.1 = some .local) /\
    (∀ y ∈ scope.names, y.2 = .free -> X.env.scope.names.lookup y.1 = some .cell ∨ X.env.scope.names.lookup y.1 = some .free) /\ (own ++ frn).Nodup /\ (∀ x ∈ own, scope.names.lookup x = some .local) /\ ∀ x ∈ frn, scope.names.lookup x = some .free := by
  have h := S.ck
  unfold lV at h
  simp only [Bool.and_eq_true, List.all_eq_true, decide_eq_true_eq, Bool.or_eq_true, bne_iff_ne, ne_eq, beq_iff_eq] at h
  obtain ⟨⟨⟨⟨⟨⟨h1, h2⟩, h3⟩, h4⟩, h5⟩, h6⟩, h7⟩ := h
  refine ⟨h1, h2, fun y hy e => ?_, fun y hy e => ?_, h5, h6, h7⟩
  · rcases h3 y hy with z | z
    · exact absurd e z
    · exact z
  · rcases h4 y hy with (z | z) | z
    · exact absurd e z
    · exact .inl z
    · exact .inr z
theorem vG (S : CompOk X scope own fr frn) (σ : St) : (blk own.length fr σ).length = (own ++ frn).length := by
  unfold blk
  rw [List.length_append, List.length_append, List.length_replicate, List.length_map, S.len]
theorem aAt {pins : List (Addr × Obj)} {σ : St} {H : Hp} {s : Shared} {fp : List Addr} {h1 : Heap} {tk : Nat} {C D : Addr} {oD : Obj} {m : Str -> Option Value} (I : Inv X pins σ H s) (S : CompOk X scope own fr frn)
    (hfp : ∀ b ∈ fp, kQ X pins H b) (hlt : ∀ b ∈ fp, b < s.heap.objs.size) (hC : s.heap.objs.size <= C) (hn : h1.Ns C m) (hk : ∀ b o, s.heap.get? b = some o -> h1.get? b = some o)
    (hD : s.heap.objs.size <= D) (hDC : D ≠ C) (hoD : h1.get? D = some oD) (hdD : ∀ v, oD.data ≠ .cell v) :
    Inv (bP X scope (own ++ frn) C s H fp) [(D, oD)] (blk own.length fr σ) H { s with heap := h1, toks := tk } := by
  obtain ⟨p1, p2, p3, p4, p5, p6, p7⟩ := S.parts
  have below : ∀ b, b < s.heap.objs.size -> b ≠ C := fun b hb z => Nat.lt_irrefl _ (Nat.lt_of_lt_of_le (z ▸ hb) hC)
  have clsub : ∀ x c, (cI X.env scope.names []).lookup x = some c -> X.env.cells.lookup x = some c := fun x c e => by
    rcases gK _ _ _ _ (cT e) with q | q
    · cases q
    · exact q
  have clt : ∀ x c, X.env.cells.lookup x = some c -> c < s.heap.objs.size := fun x c e => by
    obtain ⟨v, q⟩ := I.cell x c e
    exact q.lt
  have nstk : ∀ b ∈ fp, b ∉ frs X.stack := fun b hb z => by
    obtain ⟨_, f1, f2, _⟩ := hfp b hb
    rcases List.mem_cons.mp (I.stkSub b z) with e | e
    · exact f1 e
    · exact f2 e
  have Dfs : D ∉ frs X.stack := fun z => by
    have q := I.stkSub D z
    rcases List.mem_cons.mp q with e | e
    · exact Nat.lt_irrefl _ (Nat.lt_of_lt_of_le (e ▸ I.lt : D < _) hD)
    · exact I.nofs hD e
  refine ⟨⟨I.ok.mod, p1, I.ok.glob, I.ok.blt, hC, fun x y c e1 e2 => I.ok.inj x y c (clsub x c e1) (clsub y c e2), fun x hx => ?_, fun x c e => absurd e (by show ¬ (false = true); decide), I.ok.hd, I.ok.frames, .inl rfl, fun b hb => ?_, I.bs, Nat.le_trans I.ok.bsz I.sz, fun b o e hb => ?_, nstk, I.stack, I.stkFree⟩,
    rfl, I.bare, Un.kept hk, ⟨m, hn, fun i x v e1 e2 e3 => ?_⟩, fun x c e => ?_, I.hok.fresh hC, fun x c e => I.freeC x c (clsub x c e), fun p hp => ?_, I.hok.kept hk, vG S σ⟩
  · -- has
    have hx' : (relabel scope X.env).names.lookup x = some .cell ∨ (relabel scope X.env).names.lookup x = some .free := hx
    have hl : (relabel scope X.env).names.lookup x = _ := dI (env := X.env) x scope.names
    rw [hl] at hx'
    cases e : scope.names.lookup x with
    | none =>
      rw [e] at hx'
      rcases hx' with z | z <;> cases z
    | some k =>
      have hmem := cT e
      have hkf : k = .free := by
        rw [e] at hx'
        simp only [Option.map_some, Option.some.injEq] at hx'
        by_cases c : (k == NameKind.free && X.env.scope.kind == .function && X.env.kindOf x == some .cell) = true
        · simp only [Bool.and_eq_true, beq_iff_eq] at c
          exact c.1.1
        · rw [if_neg c] at hx'
          rcases hx' with z | z
          · exact absurd z (p2 _ hmem)
          · exact z
      subst hkf
      obtain ⟨c, hc⟩ := I.ok.has x (p4 _ hmem rfl)
      obtain ⟨c', hc'⟩ := gL (env := X.env) scope.names [] x (.inr ⟨hmem, c, hc⟩)
      exact fX hc'
  · -- exf
    refine ⟨below b (hlt b hb), fun x c e => ?_⟩
    exact (hfp b hb).2.2.2.2.1 x c (clsub x c e)
  · -- noex
    rcases (hfp b hb).2.2.2.1 with z | z
    · exact I.ok.noex b o e z
    · exact absurd (Nat.lt_of_lt_of_le (Heap.lt_size (I.ok.bs b o e).1) z) (Nat.lt_irrefl _)
  · -- loc
    show ∃ u, bG v u /\ aCI _ _ _ x u
    have e1' : (own ++ frn)[i]? = some x := e1
    have e2' : (blk own.length fr σ)[i]? = some (some v) := e2
    unfold blk at e2'
    by_cases hi : i < own.length
    · rw [List.getElem?_append_left (by simpa using hi), List.getElem?_replicate] at e2'
      rw [if_pos hi] at e2'
      cases e2'
    · rw [List.getElem?_append_right (by simpa using hi)] at e2'
      rw [List.getElem?_append_right (by omega)] at e1'
      rw [List.length_replicate, List.getElem?_map] at e2'
      obtain ⟨j, hj1, hj2⟩ := S.ix _ _ e1'
      rw [hj1] at e2'
      simp only [Option.map_some, Option.some.injEq] at e2'
      have hσ : σ[j]? = some (some v) := by
        cases q : σ[j]? with
        | none => rw [q] at e2'; cases e2'
        | some w => rw [q] at e2'; exact congrArg some e2'
      have hfree := p7 x (List.mem_of_getElem? e1')
      have hmem := cT hfree
      have kx := p4 _ hmem rfl
      have vis : Vis X.env.scope x := by
        rcases kx with z | z
        · exact .inr (.inl z)
        · exact .inr (.inr z)
      obtain ⟨m0, hn0, hl0⟩ := I.loc
      obtain ⟨u, ru, lk⟩ := hl0 j x v hj2 hσ vis
      refine ⟨u, ru, .inr ⟨?_, ?_⟩⟩
      · show (relabel scope X.env).names.lookup x = some .cell ∨ (relabel scope X.env).names.lookup x = some .free
        have hl : (relabel scope X.env).names.lookup x = _ := dI (env := X.env) x scope.names
        rw [hl, hfree]
        simp only [Option.map_some, Option.some.injEq]
        by_cases c : (NameKind.free == NameKind.free && X.env.scope.kind == .function && X.env.kindOf x == some .cell) = true
        · rw [if_pos c]; exact .inl rfl
        · rw [if_neg c]; exact .inr rfl
      · rcases lk with ⟨kl, _⟩ | ⟨_, c, hc, hcell⟩
        · have kl' : X.env.scope.names.lookup x = some .local := kl
          rcases kx with z | z <;> (have z' : X.env.scope.names.lookup x = _ := z; rw [kl'] at z'; cases z')
        · obtain ⟨c', hc'⟩ := gL (env := X.env) scope.names [] x (.inr ⟨hmem, c, hc⟩)
          obtain ⟨c2, hc2⟩ := fX hc'
          have ec : c2 = c := by
            have := clsub x c2 hc2
            rw [hc] at this
            exact (Option.some.inj this).symm
          subst ec
          obtain ⟨oc, ho, hd⟩ := hcell
          exact ⟨c2, hc2, oc, hk _ _ ho, hd⟩
  · obtain ⟨v, o, ho, hd⟩ := I.cell x c (clsub x c e)
    exact ⟨v, o, hk _ _ ho, hd⟩
  · have hp' : p ∈ ([] : List (Addr × Obj)) ++ [(D, oD)] := hp
    simp only [List.nil_append, List.mem_singleton] at hp'
    subst hp'
    exact ⟨hoD, I.hok.fresh hD, hDC, Dfs, hdD⟩
end
end L2
set_option Elab.async false
set_option linter.all false
set_option maxRecDepth 100000
namespace L2
open PySem PySem.Spec PyProof.Rows
theorem mK {prog : Program} {w : World} {A : Around} {R : Result -> Shared -> Prop} {s : Shared} {elt target iter : Expr} {ifs : List Expr} {scope : Scope} {pos : Pos} {it acc : Value} {env : Env} (I : Nat -> Shared -> Prop)
    (turn : ∀ n s, I n s -> wpAny (model prog w) A (pyNext it) (fun r s₁ => match r with
      | none => R (.ok .next) s₁
      | some v => wpAny (model prog w) A (letOwnedTupleGo target it v) (fun _ s₁' => wpAny (model prog w) A (assign target env v) (fun _ s₂ =>
          wpAny (model prog w) A (forIn ifs true fun c r => if r = true then do let ok <- isTrue c env (eval c env); pure (ForInStep.yield ok) else pure (ForInStep.yield r)) (fun ok s₃ =>
            if ok = true then wpAny (model prog w) A (eval elt env) (fun x s₄ =>
              wpAny (model prog w) A (call (.builtin "list.append") [acc, x]) (fun _ s₅ => ∃ m, m < n /\ I m s₅) (fun _ _ => False) s₄) (fun _ _ => False) s₃
            else ∃ m, m < n /\ I m s₃) (fun _ _ => False) s₂) (fun _ _ => False) s₁') (fun _ _ => False) s₁) (fun _ _ => False) s)
    (n : Nat) (h : I n s) :
    codeAny (model prog w) A (.compLoop (.ListComp elt [⟨target, iter, ifs, 0⟩] scope pos) 0 it acc env) R s := by
  refine codeAny_loop rfl I (fun n s hI => ?_) n h
  show wpAny _ A ((compTurn (.ListComp elt [⟨target, iter, ifs, 0⟩] scope pos) 0 it acc env).onRaise (fun x => do noteFrame x env; theTreesLotGoes x)) _ _ s
  refine wpAny_noted ?_
  rw [compTurn_list]
  refine wpAny_bind (wpAny_standAt (wpAny_bind (wpAny_mono (turn n s hI) (fun r s₁ h₁ => ?_) fun _ _ h' => h'.elim)))
  cases r with
  | none => exact wpAny_pure h₁
  | some v =>
    refine wpAny_bind (wpAny_mono h₁ (fun _ s₁' h₁' => ?_) fun _ _ h' => h'.elim)
    refine wpAny_bind (wpAny_mono h₁' (fun _ s₂ h₂ => wpAny_bind (wpAny_mono h₂ (fun ok s₃ h₃ => ?_) fun _ _ h' => h'.elim)) fun _ _ h' => h'.elim)
    cases ok with
    | false => exact wpAny_pure ⟨rfl, h₃⟩
    | true =>
      exact wpAny_bind (wpAny_bind (wpAny_mono h₃ (fun x s₄ h₄ => wpAny_bind (wpAny_mono h₄ (fun _ s₅ h₅ => wpAny_pure (wpAny_pure ⟨rfl, h₅⟩)) fun _ _ h' => h'.elim)) fun _ _ h' => h'.elim))
def PF (X : Cx) (ifs : List Expr) (t : TT) : Prop :=
  ∀ (pins : List (Addr × Obj)) (s : Shared) (σ : St) (H : Hp) (Q : Bool -> Hp -> Prop), Inv X pins σ H s -> t σ H Q ->
    wpAny (model X.prog X.w) X.A (forIn ifs true fun c r => if r = true then do let ok <- isTrue c X.env (eval c X.env); pure (ForInStep.yield ok) else pure (ForInStep.yield r)) (TP X pins σ Q) X.xe s
def vH : TT := fun _ H Q => Q true H
theorem dJ {X : Cx} : PF X [] vH := fun _ _ _ H _ I h => wpAny_tests_nil ⟨H, I, h⟩
theorem vI {X : Cx} {c : Expr} {t : TT} (h : PT X c t) : PF X [c] t := fun pins s σ H Q I hq => wpAny_tests_one (h pins s σ H Q I hq)
def aAu (own : Nat) (fr : List Nat) (wi : TI) (g : TG) (tt : TT) (te : TE) : TE := fun σ H Q => wi σ H fun J H1 => ∃ W : Nat -> Nat -> List V -> St -> Hp -> Prop, (∃ m, W 0 m [] (blk own fr σ) H1) /\ ∀ i m ys σ' H, W i m ys σ' H ->
  (J.stop i H /\ ∀ p, H p = none -> Q (.ref p) (upd H p (.lst ys))) ∨
  (J.go i H /\ ∃ N : List V -> St -> Hp -> Prop, (∀ ys' σ2 H2, N ys' σ2 H2 -> ∃ m', m' < m /\ W (i + 1) m' ys' σ2 H2) /\
    ∀ x H', J.yld i H x H' -> g x σ' H' fun σ2 H2 => tt σ2 H2 fun b H3 => if b = true then te σ2 H3 fun y H4 => ys.length < sizeLine /\ N (ys ++ [y]) σ2 H4 else N ys σ2 H3)
section
variable {X : Cx} {scope : Scope} {own frn : List Str} {fr : List Nat} {elt tg iter : Expr} {ifs : List Expr} {pos : Pos} {wi : TI} {g : TG} {tt : TT} {te : TE}
theorem Inv.track {pins : List (Addr × Obj)} {σ : St} {H : Hp} {s : Shared} {D : Addr} {ys : List V} {its : Array Value} (I : Inv X pins σ H s) (hD : s.heap.PlainList D its) (hv : aX ys its.toList) (hz : ys.length <= sizeLine) (hn : H D = none) (hL : D ≠ X.env.locals)
    (h1 : X.s₀.heap.objs.size <= D) (h2 : ∀ x c, X.env.cells.lookup x = some c -> c ≠ D) (h3 : ∀ p ∈ X.pn ++ pins, p.1 ≠ D) : Inv X pins σ (upd H D (.lst ys)) s := by
  have ne : ∀ b u, H b = some u -> b ≠ D := fun b u e z => by rw [z, hn] at e; cases e
  refine I.step (g' := s.gens) (d' := s.drawn) (t' := s.toks) (h' := s.heap) (ch := [D]) (fun b hb => ?_) (fun b o _ _ _ e _ => e) (fun b o _ _ _ e _ => ⟨o.slots, e⟩) (fun b o hc _ n => ?_) (fun b o _ e => ⟨o, e⟩)
    (fun b xs e => by rw [aH (ne b _ e)]; exact e) (fun b o u e => by rw [aH (ne b _ e)]; exact e) (fun b ps e => ⟨#[], by rw [aH (ne b _ e), e]; simp⟩) (fun _ h => h) (fun b u e => ?_) I.bare
  · have e : b = D := by simpa using hb
    subst e
    exact ⟨.inr h1, hL, h2, h3⟩
  · rw [aH (by simpa using hc)]; exact n
  · by_cases hb : b = D
    · subst hb
      rw [aC] at e; cases e
      obtain ⟨n, e⟩ := hD
      exact ⟨hz, its.toList, n, hv, by simpa using e⟩
    · rw [aH hb] at e
      exact (I.hok b u e).stay (fun c v _ q => q) (fun c q => by rw [aH (ne c _ q)]; exact q) fun c xs q => by rw [aH (ne c _ q)]; exact q
theorem oA {pins : List (Addr × Obj)} {σ : St} {H2 : Hp} {s2 : Shared} {it : Addr} {fp : List Addr} {tn : Nat -> Heap -> Prop} {J : It} {RR : Value -> Addr -> Result -> Shared -> Prop} {E : Value -> Shared -> Prop} {Q : Hp -> List V -> Prop}
    (S : CompOk X scope own fr frn) (hc : X.calm = true) (I2 : Inv X pins σ H2 s2) (T : Turn X.prog X.w X.K tg J fp it tn) (st2 : tn 0 s2.heap) (f2 : ∀ b ∈ fp, kQ X pins H2 b)
    (hg : ∀ C s0 H0 fp, PG (bP X scope (own ++ frn) C s0 H0 fp) tg g) (ht : ∀ C s0 H0 fp, PF (bP X scope (own ++ frn) C s0 H0 fp) ifs tt) (he : ∀ C s0 H0 fp, PE (bP X scope (own ++ frn) C s0 H0 fp) elt te)
    (w : ∃ W : Nat -> Nat -> List V -> St -> Hp -> Prop, (∃ m, W 0 m [] (blk own.length fr σ) H2) /\ ∀ i m ys σ' H, W i m ys σ' H ->
      (J.stop i H /\ Q H ys) ∨
      (J.go i H /\ ∃ N : List V -> St -> Hp -> Prop, (∀ ys' σ2 H2, N ys' σ2 H2 -> ∃ m', m' < m /\ W (i + 1) m' ys' σ2 H2) /\
        ∀ x H', J.yld i H x H' -> g x σ' H' fun σ2 H2 => tt σ2 H2 fun b H3 => if b = true then te σ2 H3 fun y H4 => ys.length < sizeLine /\ N (ys ++ [y]) σ2 H4 else N ys σ2 H3))
    (hRR : ∀ (C D : Addr) (s' : Shared) (H' : Hp) (ys : List V) (its : Array Value) (m : Str -> Option Value), s2.heap.objs.size <= C -> s2.heap.objs.size <= D -> D ≠ C -> s'.heap.Ns C m -> H' C = none -> H' D = none -> s'.heap.PlainList D its -> aX ys its.toList -> ys.length <= sizeLine ->
      Inv X pins σ H' s' -> Q H' ys -> RR (.ref D) C (.ok .next) s') :
    wpAny (model X.prog X.w) X.A (newList []) (fun acc s₃ => wpAny (model X.prog X.w) X.A (newFunctionEnv scope X.env.globals (cI X.env scope.names []) [] X.env.qual none .none (some X.env)) (fun cenv s₄ =>
      codeAny (model X.prog X.w) X.A (.compStart (.ListComp elt [⟨tg, iter, ifs, 0⟩] scope pos) 0 (.ref it) acc { cenv with scope := relabel scope X.env }) (RR acc cenv.locals) s₄) E s₃) E s2 := by
  obtain ⟨p1, p2, p3, p4, p5, p6, p7⟩ := S.parts
  obtain ⟨W, ⟨m0, w0⟩, turn⟩ := w
  refine wpAny_newObj_type (wpAny_newFunctionEnv p2 (by intro y hy; simp at hy) (fun h₁ hns₁ hsb₁ => ?_) p1)
  dsimp only at hns₁ hsb₁ ⊢
  generalize hH2 : s2.heap.push { cls := .type "list", dict := none, data := .seq ([] : List Value).toArray } = HD at hns₁ hsb₁ ⊢
  have hCs : HD.objs.size = s2.heap.objs.size + 1 := by rw [<- hH2, Heap.size_push]
  have hDC : s2.heap.objs.size ≠ HD.objs.size := by omega
  have hCle : s2.heap.objs.size <= HD.objs.size := by omega
  have below : ∀ b, b < s2.heap.objs.size -> b ≠ HD.objs.size /\ b ≠ s2.heap.objs.size := fun b hb => ⟨by omega, by omega⟩
  have old : ∀ b o, s2.heap.get? b = some o -> h₁.get? b = some o := fun b o e => hsb₁.extBut b o (below b (Heap.lt_size e)).1 (Heap.get?_push_of_some _ (hH2 ▸ Heap.get?_push_of_some _ e))
  have hacc : h₁.get? s2.heap.objs.size = some { cls := .type "list", data := .seq ([] : List Value).toArray } := hsb₁.extBut _ _ hDC (Heap.get?_push_of_some _ (hH2 ▸ Heap.get?_push_size _ rfl))
  have flt : ∀ b ∈ fp, b < s2.heap.objs.size := fun b hb => by
    obtain ⟨o, e, _⟩ := T.obj _ _ st2 b hb
    exact Heap.lt_size e
  generalize hDg : s2.heap.objs.size = D at *
  generalize hCg : HD.objs.size = C at *
  have st3 : tn 0 h₁ := T.keep _ _ _ st2 fun b _ o e => old b o e
  -- facts of the block
  have clsub : ∀ x c, (cI X.env scope.names []).lookup x = some c -> X.env.cells.lookup x = some c := fun x c e => by
    rcases gK _ _ _ _ (cT e) with q | q
    · cases q
    · exact q
  have cD : ∀ x c, (cI X.env scope.names []).lookup x = some c -> c ≠ D := fun x c e z => by
    obtain ⟨v, q⟩ := I2.cell x c (clsub x c e)
    exact Nat.lt_irrefl _ (Nat.lt_of_lt_of_le q.lt (by rw [hDg, z]; exact Nat.le_refl _))
  have loop : ∀ s₃ : Shared, s₃ = { s2 with heap := h₁, toks := s2.toks + ([] : List (Str × Value)).length } ->
      codeAny (model X.prog X.w) X.A (.compLoop (.ListComp elt [⟨tg, iter, ifs, 0⟩] scope pos) 0 (.ref it) (.ref D) (compEnvC scope (cI X.env scope.names []) C X.env)) (RR (.ref D) C) s₃ := by
    rintro s₃ rfl
    have I3 : Inv (bP X scope (own ++ frn) C s2 H2 fp) [(D, _)] (blk own.length fr σ) H2 { s2 with heap := h₁, toks := s2.toks + ([] : List (Str × Value)).length } :=
      aAt (m := fun _ => none) I2 S f2 (by rw [hDg]; exact flt) (by rw [hDg]; exact hCle) (hns₁ : h₁.Ns C _) old (by rw [hDg]; exact Nat.le_refl _) hDC hacc (fun v z => by cases z)
    have stat : ∀ {H' : Hp} {pl : List (Addr × Obj)}, (∀ p ∈ pl, p.1 = D) -> (∀ b ∈ fp, H' b = none) -> ∀ b ∈ fp, kQ (bP X scope (own ++ frn) C s2 H2 fp) pl H' b := fun {H' pl} hpl hn b hb => by
      refine ⟨hn b hb, (below b (flt b hb)).1, fun z => ?_, .inl hb, fun x c e => (f2 b hb).2.2.2.2.1 x c (clsub x c e), fun p hp => ?_⟩
      · have z' : b ∈ frs X.stack := z
        rcases List.mem_cons.mp (I2.stkSub b z') with e | e
        · exact (f2 b hb).2.1 e
        · exact (f2 b hb).2.2.1 e
      · have hp' : p ∈ pl := by simpa [bP] using hp
        rw [hpl p hp']
        exact Ne.symm (below b (flt b hb)).2
    refine mK (env := compEnvC scope (cI X.env scope.names []) C X.env) (fun n s' => ∃ i σ' H' ys its o, Inv (bP X scope (own ++ frn) C s2 H2 fp) [(D, o)] σ' H' s' /\ s'.heap.PlainList D its /\ aX ys its.toList /\ ys.length <= sizeLine /\ tn i s'.heap /\ (∀ b ∈ fp, H' b = none) /\ W i n ys σ' H') ?_ m0
      ⟨0, _, H2, [], #[], _, I3, ⟨_, hacc⟩, .nil, Nat.zero_le _, st3, fun b hb => (f2 b hb).1, w0⟩
    rintro n s5 ⟨i, σ5, H5, ys, its, o, I5, pl5, v5, z5, st5, fr5, w5⟩
    have one : ∀ {o : Obj}, ∀ p ∈ [(D, o)], p.1 = D := fun p hp => by
      have e := List.mem_singleton.mp hp
      rw [e]
    rcases turn i n ys σ5 H5 w5 with ⟨stop, qn⟩ | ⟨go, N, hN, step⟩
    · refine wpAny_mono (T.done (bP X scope (own ++ frn) C s2 H2 fp) rfl rfl rfl hc i _ s5 σ5 H5 (fun _ _ => False) I5 (stat one fr5) st5 stop) (fun r s6 hx9 => ?_) fun _ _ z => z
      obtain ⟨hr, I6⟩ := hx9
      subst hr
      obtain ⟨m6, hn6, _⟩ := I6.loc
      have p6 := I6.pin (D, o) (by simp [bP])
      have p5' := I5.pin (D, o) (by simp [bP])
      have pl6 : s6.heap.PlainList D its := by
        obtain ⟨k, e⟩ := pl5
        have e1 : o = _ := Option.some.inj (p5'.1.symm.trans e)
        exact ⟨k, by rw [p6.1]; exact congrArg some e1⟩
      have IX : Inv X pins σ H5 s6 := I2.call' (ch := fp) I6.os I6.base I6.hok I6.bare fun b hb => ⟨(f2 b hb).2.2.2.1, (f2 b hb).2.1, (f2 b hb).2.2.2.2.1, (f2 b hb).2.2.2.2.2⟩
      exact hRR C D s6 H5 ys its m6 hCle (Nat.le_refl _) hDC hn6 I6.free p6.2.1 pl6 v5 z5 IX qn
    · refine wpAny_mono (T.item (bP X scope (own ++ frn) C s2 H2 fp) rfl rfl rfl hc i _ s5 σ5 H5 (fun _ _ => False) I5 (stat one fr5) st5 go) (fun r s6 hx9 => ?_) fun _ _ z => z
      obtain ⟨u, hr, h6⟩ := hx9
      subst hr
      refine wpAny_mono h6 (fun _ s7 hx9 => ?_) fun _ _ z => z
      obtain ⟨x, H7, I7, r7, y7, st7, fr7⟩ := hx9
      have I7' := I7.pinned (stat one fr7) (T.obj _ _ st7)
      refine wpAny_mono (hg C s2 H2 fp _ s7 σ5 H7 x u _ I7' r7 (step x H7 y7)) (fun _ s8 hx9 => ?_) fun _ _ z => z
      obtain ⟨σ8, H8, I8, q8⟩ := hx9
      refine wpAny_mono (ht C s2 H2 fp _ s8 σ8 H8 _ I8 q8) (fun b s9 hx9 => ?_) fun _ _ z => z
      obtain ⟨H9, I9, q9⟩ := hx9
      -- what stands of the iterator and of the gathered list behind the tests, behind the item
      have keepT : ∀ {H' : Hp} {s' : Shared} {σ' : St}, Inv (bP X scope (own ++ frn) C s2 H2 fp) ([(D, o)] ++ lT fp s7.heap) σ' H' s' -> tn (i + 1) s'.heap /\ (∀ b ∈ fp, H' b = none) /\ s'.heap.PlainList D its /\ H' D = none := fun {H' s' σ'} I' => by
        refine ⟨T.keep _ _ _ st7 fun b hb o e => (I'.pin (b, o) (List.mem_append_right _ (List.mem_append_right _ (fI hb e)))).1, fun b hb => ?_, ?_, ?_⟩
        · obtain ⟨o, e, d⟩ := T.obj _ _ st7 b hb
          exact (I'.pin (b, o) (List.mem_append_right _ (List.mem_append_right _ (fI hb e)))).2.1
        · have p' := I'.pin (D, o) (by simp [bP])
          have p5' := I5.pin (D, o) (by simp [bP])
          obtain ⟨k, e⟩ := pl5
          have e1 : o = _ := Option.some.inj (p5'.1.symm.trans e)
          exact ⟨k, by rw [p'.1]; exact congrArg some e1⟩
        · exact (I'.pin (D, o) (by simp [bP])).2.1
      cases b with
      | false =>
        rw [if_neg Bool.false_ne_true] at q9
        rw [if_neg Bool.false_ne_true]
        obtain ⟨m', hm, w'⟩ := hN ys σ8 H9 q9
        obtain ⟨t9, fr9, pl9, _⟩ := keepT I9
        exact ⟨m', hm, i + 1, σ8, H9, ys, its, o, I9.unpinned, pl9, v5, z5, t9, fr9, w'⟩
      | true =>
        rw [if_pos rfl] at q9
        rw [if_pos rfl]
        refine wpAny_mono (he C s2 H2 fp _ s9 σ8 H9 _ I9 q9) (fun y s10 hx9 => ?_) fun _ _ z => z
        obtain ⟨yv, H10, I10, r10, lt10, q10⟩ := hx9
        obtain ⟨t10, fr10, pl10, hD10⟩ := keepT I10
        have hl := v5.length
        refine wpAny_list_append_plain pl10 (fun h11 pl11 sb11 => ?_) (by rw [<- Array.length_toList, <- hl]; exact Nat.le_of_lt lt10)
        obtain ⟨m', hm, w'⟩ := hN _ σ8 H10 q10
        have I10' : Inv (bP X scope (own ++ frn) C s2 H2 fp) [] σ8 H10 s10 := I10.pins_of fun p hp => by cases hp
        have I11 : Inv (bP X scope (own ++ frn) C s2 H2 fp) [] σ8 H10 { s10 with heap := h11 } :=
          I10'.turned (t' := s10.toks) (it := D) (fun b o hb e => (sb11.2 b hb).trans e) hD10 hDC (.inr (by show s2.heap.objs.size <= D; rw [hDg]; exact Nat.le_refl _)) cD (fun p hp => by simp [bP] at hp)
        obtain ⟨k11, e11⟩ := id pl11
        have DfsX : D ∉ frs X.stack := fun z => by
          rcases List.mem_cons.mp (I2.stkSub D z) with e | e
          · exact Nat.lt_irrefl _ (Nat.lt_of_lt_of_le I2.lt (by rw [hDg, e]; exact Nat.le_refl _))
          · exact I2.nofs (by rw [hDg]; exact Nat.le_refl _) e
        refine ⟨m', hm, i + 1, σ8, H10, ys ++ [yv], its.push y, { cls := .type "list", data := .seq (its.push y) k11 }, I11.pins_of fun p hp => ?_, pl11, ?_, by rw [List.length_append]; show ys.length + 1 <= _; omega, T.keep _ _ _ t10 fun b hb o e => (sb11.2 b (below b (flt b hb)).2).trans e, fr10, w'⟩
        · have e := List.mem_singleton.mp hp
          subst e
          exact ⟨e11, hD10, hDC, DfsX, fun v z => by cases z⟩
        · rw [Array.toList_push]
          exact v5.append (.cons r10 .nil)
  exact codeAny_compStart_list (loop _ rfl) (T.self X.A 0 _ _ _ st3 (loop _ rfl))
theorem CompOk.clo {pins : List (Addr × Obj)} {σ : St} {H : Hp} {s : Shared} (S : CompOk X scope own fr frn) (I : Inv X pins σ H s) : closureFor scope X.env = pure (cI X.env scope.names []) := by
  obtain ⟨p1, p2, p3, p4, p5, p6, p7⟩ := S.parts
  exact vF fun y hy e => I.ok.has y.1 (p4 y hy e)
theorem cM (S : CompOk X scope own fr frn) (hc : X.calm = true) (hi : PI X tg iter wi) (hg : ∀ C s0 H0 fp, PG (bP X scope (own ++ frn) C s0 H0 fp) tg g) (ht : ∀ C s0 H0 fp, PF (bP X scope (own ++ frn) C s0 H0 fp) ifs tt)
    (he : ∀ C s0 H0 fp, PE (bP X scope (own ++ frn) C s0 H0 fp) elt te) (hs : ∀ x, foldedSetIterable iter X.env x = pure x := by intro _; rfl) :
    PE X (.ListComp elt [⟨tg, iter, ifs, 0⟩] scope pos) (aAu own.length fr wi g tt te) := by
  intro pins s σ H Q I h
  obtain ⟨p1, p2, p3, p4, p5, p6, p7⟩ := S.parts
  rw [eval_ListComp]
  refine wpAny_comprehension_free (use := none) rfl hs (S.clo I) p1 p3 (thn (hi pins s σ H _ I h) fun v s1 h1 => thn h1 fun itv s2 h2 => ?_)
  obtain ⟨it, fp, tn, J, H2, e, I2, T, st2, f2, hw⟩ := h2
  subst e
  refine oA (RR := fun acc C => compPost (model X.prog X.w) X.A X.xe none (EP X pins σ Q) acc C) (Q := fun H ys => ∀ p, H p = none -> Q (.ref p) (upd H p (.lst ys))) S hc I2 T st2 f2 hg ht he hw ?_
  intro C D s' H' ys its m hC hD hDC hns hHC hHD pl v z IX q
  have cne : ∀ a, s2.heap.objs.size <= a -> ∀ x c, X.env.cells.lookup x = some c -> c ≠ a := fun a ha x c e z => by
    obtain ⟨v, w⟩ := I2.cell x c e
    exact Nat.lt_irrefl _ (Nat.lt_of_lt_of_le w.lt (by rw [z]; exact ha))
  have pne : ∀ a, s2.heap.objs.size <= a -> ∀ p ∈ X.pn ++ pins, p.1 ≠ a := fun a ha p hp z => Nat.lt_irrefl _ (Nat.lt_of_lt_of_le (Heap.lt_size (I2.pin p hp).1) (by rw [z]; exact ha))
  have lne : ∀ a, s2.heap.objs.size <= a -> a ≠ X.env.locals := fun a ha z => Nat.lt_irrefl _ (Nat.lt_of_lt_of_le I2.lt (by rw [<- z]; exact ha))
  refine ⟨m, hns, fun h' hs' => ⟨.ref D, upd H' D (.lst ys), ?_, rfl, q D hHD⟩⟩
  have IT : Inv X pins σ (upd H' D (.lst ys)) s' := IX.track pl v z hHD (lne D hD) (Nat.le_trans I2.sz hD) (cne D hD) (pne D hD)
  exact IT.turned (t' := s'.toks) (it := C) (fun b o hb e => (hs'.2 b hb).trans e) (by rw [aH (Ne.symm hDC)]; exact hHC) (lne C hC) (.inr (Nat.le_trans I2.sz hC)) (cne C hC) (pne C hC)
theorem oB {i : Nat} {y : Str} {py spos : Pos} (S : CompOk X scope own fr frn) (hc : X.calm = true) (hN : X.N.Nodup) (hyi : X.N[i]? = some y) (hx : X.env.scope.names.lookup y = some .local)
    (hsw : swapsWith (.ListComp elt [⟨tg, iter, ifs, 0⟩] scope pos) (some (.Name y py)) spos.line X.env = pure true)
    (hi : PI X tg iter wi) (hg : ∀ C s0 H0 fp, PG (bP X scope (own ++ frn) C s0 H0 fp) tg g) (ht : ∀ C s0 H0 fp, PF (bP X scope (own ++ frn) C s0 H0 fp) ifs tt)
    (he : ∀ C s0 H0 fp, PE (bP X scope (own ++ frn) C s0 H0 fp) elt te) (hs : ∀ x, foldedSetIterable iter X.env x = pure x := by intro _; rfl) :
    PS X (.Assign [.Name y py] (.ListComp elt [⟨tg, iter, ifs, 0⟩] scope pos) spos) (aCN (aAu own.length fr wi g tt te) (wO i)) := by
  intro pins s σ H D I h
  obtain ⟨p1, p2, p3, p4, p5, p6, p7⟩ := S.parts
  rw [exec_Assign_Name_used _ _ _ _ hsw]
  refine wpAny_bind (wpAny_standAt (wpAny_bind ?_))
  show wpAny _ X.A (do let _ <- comprehension (.ListComp elt [⟨tg, iter, ifs, 0⟩] scope pos) scope X.env _ (newList []) false (eval iter X.env) (some (assign (.Name y py) X.env))) _ _ s
  refine wpAny_bind (wpAny_mono (wpAny_comprehension_free (use := some (assign (.Name y py) X.env)) (Q := fun _ s' => SP X pins D .next s') rfl hs (S.clo I) p1 p3 (thn (hi pins s σ H _ I h) fun v s1 h1 => thn h1 fun itv s2 h2 => ?_))
    (fun _ s' hq => wpAny_pure (wpAny_pure hq)) fun _ _ e => e)
  obtain ⟨it, fp, tn, J, H2, e, I2, T, st2, f2, hw⟩ := h2
  subst e
  refine oA (RR := fun acc C => compPost (model X.prog X.w) X.A X.xe (some (assign (.Name y py) X.env)) (fun _ s' => SP X pins D .next s') acc C) (Q := fun H ys => ∀ p, H p = none -> D.nx (σ.set i (some (.ref p))) (upd H p (.lst ys))) S hc I2 T st2 f2 hg ht he hw ?_
  intro C L s' H' ys its m hC hL hLC hns hHC hHL pl v z IX q
  have cne : ∀ a, s2.heap.objs.size <= a -> ∀ x c, X.env.cells.lookup x = some c -> c ≠ a := fun a ha x c e z => by
    obtain ⟨v, w⟩ := I2.cell x c e
    exact Nat.lt_irrefl _ (Nat.lt_of_lt_of_le w.lt (by rw [z]; exact ha))
  have pne : ∀ a, s2.heap.objs.size <= a -> ∀ p ∈ X.pn ++ pins, p.1 ≠ a := fun a ha p hp z => Nat.lt_irrefl _ (Nat.lt_of_lt_of_le (Heap.lt_size (I2.pin p hp).1) (by rw [z]; exact ha))
  have lne : ∀ a, s2.heap.objs.size <= a -> a ≠ X.env.locals := fun a ha z => Nat.lt_irrefl _ (Nat.lt_of_lt_of_le I2.lt (by rw [<- z]; exact ha))
  have IT : Inv X pins σ (upd H' L (.lst ys)) s' := IX.track pl v z hHL (lne L hL) (Nat.le_trans I2.sz hL) (cne L hL) (pne L hL)
  show wpAny _ _ (assign (.Name y py) X.env (.ref L)) _ _ s'
  refine wpAny_assign_Name (qD IT hN hyi (.inl hx) (v := .ref L) rfl (fun s'' I'' hch => ?_) (.inr hx))
  obtain ⟨a, sb, ha⟩ := hch
  have hCa : C ≠ a := by
    rcases ha with e | e
    · rw [e]; exact lne C hC
    · exact Ne.symm (cne C hC y a e)
  refine ⟨m, hns.sameBut sb hCa, fun h' hs' => ⟨σ.set i (some (.ref L)), upd H' L (.lst ys), ?_, q L hHL⟩⟩
  exact I''.turned (t' := s''.toks) (it := C) (fun b o hb e => (hs'.2 b hb).trans e) (by rw [aH (Ne.symm hLC)]; exact hHC) (lne C hC) (.inr (Nat.le_trans I2.sz hC)) (cne C hC) (pne C hC)
end
end L2
set_option Elab.async false
set_option linter.all false
set_option maxRecDepth 100000
namespace L2
open PySem PySem.Spec PyProof.Rows
inductive Kd where
  | int | bl | non | str | tup | lst | dct
  deriving DecidableEq
def KdV (K : PySem.W.Frag) (H : Hp) : V -> Kd -> Prop
  | .int _, k => k = .int
  | .bl _, k => k = .bl
  | .non, k => k = .non
  | .str _, k => k = .str
  | .ref p, k => (k = .lst /\ ∃ xs, SqL K H p xs) ∨ (k = .tup /\ ∃ xs, SqT K H p xs) ∨ (k = .dct /\ ∃ kvs, H p = some (.dK kvs))
  | _, _ => False
section
variable {X : Cx}
theorem rD {pins : List (Addr × Obj)} {σ : St} {H : Hp} {s : Shared} {p : Addr} {kvs : List (Key × V)} (I : Inv X pins σ H s) (h : H p = some (.dK kvs)) : ∃ o, s.heap.get? p = some o /\ o.cls = .type "dict" := by
  obtain ⟨_, _, vs, _, o, es, ep, e, ex, _⟩ := I.hok p _ h
  exact ⟨o, e, ex.1⟩
theorem kT : eY X (.builtin "isinstance") (fun xs H Q => ∃ x k, xs = [x, .ty "int"] /\ KdV X.K H x k /\ Q (.bl (decide (k = .int ∨ k = .bl))) H) := by
  intro pins s σ H xs us Q I r h
  obtain ⟨x, k, rfl, hk, q⟩ := h
  obtain ⟨u, t, rfl, rx, rt⟩ := kR r
  cases rt
  cases x with
  | int i => cases hk; obtain ⟨t, rfl⟩ := rx; exact IsiPair.int_int ⟨.bl true, H, I, rfl, q⟩
  | bl b => cases hk; cases rx; exact IsiPair.bool_int ⟨.bl true, H, I, rfl, q⟩
  | non => cases hk; cases rx; exact IsiPair.NoneType_int ⟨.bl false, H, I.tok _, rfl, q⟩
  | str y => cases hk; obtain ⟨t, rfl⟩ := rx; exact IsiPair.str_int ⟨.bl false, H, I.tok _, rfl, q⟩
  | ref p =>
    cases rx
    rcases hk with ⟨rfl, xs, hx⟩ | ⟨rfl, xs, hx⟩ | ⟨rfl, kvs, hx⟩
    · obtain ⟨its, r', pl, hz⟩ := I.list hx; exact IsiPair.isList_int pl.isList (fun _ _ e => e) ⟨.bl false, H, I.tok _, rfl, q⟩
    · obtain ⟨its, r', pl, hz⟩ := I.tuple hx; exact IsiPair.isTuple_int pl (fun _ _ e => e) ⟨.bl false, H, I.tok _, rfl, q⟩
    · obtain ⟨o, e, c⟩ := rD I hx; exact IsiPair.dict_int e c ⟨.bl false, H, I.tok _, rfl, q⟩
  | _ => exact hk.elim
theorem kA : eY X (.builtin "isinstance") (fun xs H Q => ∃ x k, xs = [x, .ty "bool"] /\ KdV X.K H x k /\ Q (.bl (decide (k = .bl))) H) := by
  intro pins s σ H xs us Q I r h
  obtain ⟨x, k, rfl, hk, q⟩ := h
  obtain ⟨u, t, rfl, rx, rt⟩ := kR r
  cases rt
  cases x with
  | int i => cases hk; obtain ⟨t, rfl⟩ := rx; exact IsiPair.int_bool ⟨.bl false, H, I.tok _, rfl, q⟩
  | bl b => cases hk; cases rx; exact IsiPair.bool_bool ⟨.bl true, H, I, rfl, q⟩
  | non => cases hk; cases rx; exact IsiPair.NoneType_bool ⟨.bl false, H, I.tok _, rfl, q⟩
  | str y => cases hk; obtain ⟨t, rfl⟩ := rx; exact IsiPair.str_bool ⟨.bl false, H, I.tok _, rfl, q⟩
  | ref p =>
    cases rx
    rcases hk with ⟨rfl, xs, hx⟩ | ⟨rfl, xs, hx⟩ | ⟨rfl, kvs, hx⟩
    · obtain ⟨its, r', pl, hz⟩ := I.list hx; exact IsiPair.isList_bool pl.isList (fun _ _ e => e) ⟨.bl false, H, I.tok _, rfl, q⟩
    · obtain ⟨its, r', pl, hz⟩ := I.tuple hx; exact IsiPair.isTuple_bool pl (fun _ _ e => e) ⟨.bl false, H, I.tok _, rfl, q⟩
    · obtain ⟨o, e, c⟩ := rD I hx; exact IsiPair.dict_bool e c ⟨.bl false, H, I.tok _, rfl, q⟩
  | _ => exact hk.elim
theorem cF : eY X (.builtin "isinstance") (fun xs H Q => ∃ x k, xs = [x, .ty "tuple"] /\ KdV X.K H x k /\ Q (.bl (decide (k = .tup))) H) := by
  intro pins s σ H xs us Q I r h
  obtain ⟨x, k, rfl, hk, q⟩ := h
  obtain ⟨u, t, rfl, rx, rt⟩ := kR r
  cases rt
  cases x with
  | int i => cases hk; obtain ⟨t, rfl⟩ := rx; exact IsiPair.int_tuple ⟨.bl false, H, I.tok _, rfl, q⟩
  | bl b => cases hk; cases rx; exact IsiPair.bool_tuple ⟨.bl false, H, I.tok _, rfl, q⟩
  | non => cases hk; cases rx; exact IsiPair.NoneType_tuple ⟨.bl false, H, I.tok _, rfl, q⟩
  | str y => cases hk; obtain ⟨t, rfl⟩ := rx; exact IsiPair.str_tuple ⟨.bl false, H, I.tok _, rfl, q⟩
  | ref p =>
    cases rx
    rcases hk with ⟨rfl, xs, hx⟩ | ⟨rfl, xs, hx⟩ | ⟨rfl, kvs, hx⟩
    · obtain ⟨its, r', pl, hz⟩ := I.list hx; exact IsiPair.isList_tuple pl.isList (fun _ _ e => e) ⟨.bl false, H, I.tok _, rfl, q⟩
    · obtain ⟨its, r', pl, hz⟩ := I.tuple hx; exact IsiPair.isTuple_tuple pl (fun _ _ e => e) ⟨.bl true, H, I, rfl, q⟩
    · obtain ⟨o, e, c⟩ := rD I hx; exact IsiPair.dict_tuple e c ⟨.bl false, H, I.tok _, rfl, q⟩
  | _ => exact hk.elim
theorem pP : eY X (.builtin "isinstance") (fun xs H Q => ∃ x k, xs = [x, .ty "list"] /\ KdV X.K H x k /\ Q (.bl (decide (k = .lst))) H) := by
  intro pins s σ H xs us Q I r h
  obtain ⟨x, k, rfl, hk, q⟩ := h
  obtain ⟨u, t, rfl, rx, rt⟩ := kR r
  cases rt
  cases x with
  | int i => cases hk; obtain ⟨t, rfl⟩ := rx; exact IsiPair.int_list ⟨.bl false, H, I.tok _, rfl, q⟩
  | bl b => cases hk; cases rx; exact IsiPair.bool_list ⟨.bl false, H, I.tok _, rfl, q⟩
  | non => cases hk; cases rx; exact IsiPair.NoneType_list ⟨.bl false, H, I.tok _, rfl, q⟩
  | str y => cases hk; obtain ⟨t, rfl⟩ := rx; exact IsiPair.str_list ⟨.bl false, H, I.tok _, rfl, q⟩
  | ref p =>
    cases rx
    rcases hk with ⟨rfl, xs, hx⟩ | ⟨rfl, xs, hx⟩ | ⟨rfl, kvs, hx⟩
    · obtain ⟨its, r', pl, hz⟩ := I.list hx; exact IsiPair.isList_list pl.isList (fun _ _ e => e) ⟨.bl true, H, I, rfl, q⟩
    · obtain ⟨its, r', pl, hz⟩ := I.tuple hx; exact IsiPair.isTuple_list pl (fun _ _ e => e) ⟨.bl false, H, I.tok _, rfl, q⟩
    · obtain ⟨o, e, c⟩ := rD I hx; exact IsiPair.dict_list e c ⟨.bl false, H, I.tok _, rfl, q⟩
  | _ => exact hk.elim
theorem yS (bs : List Bool) (tr : Nat -> Bool) (h : ∀ i b, bs[i]? = some b -> tr i = b) : (List.range bs.length).all tr = bs.all id := by
  rw [Bool.eq_iff_iff, List.all_eq_true, List.all_eq_true]
  constructor
  · intro q b hb
    obtain ⟨i, hi⟩ := List.getElem?_of_mem hb
    have := q i (List.mem_range.mpr (List.getElem?_eq_some_iff.mp hi).1)
    rw [h i b hi] at this
    exact this
  · intro q i hi
    have hi' := List.mem_range.mp hi
    have e : bs[i]? = some bs[i] := List.getElem?_eq_getElem hi'
    rw [h i _ e]
    exact q _ (List.getElem_mem hi')
theorem jH (hc : X.calm = true) : eY X (.builtin "all") (fun xs H Q => ∃ (p : Addr) (bs : List Bool), xs = [.ref p] /\ SqL X.K H p (bs.map V.bl) /\ Q (.bl (bs.all id)) H) := by
  intro pins s σ H xs us Q I r h
  obtain ⟨p, bs, rfl, hx, q⟩ := h
  obtain ⟨u, rfl, rx⟩ := gJ r
  cases rx
  obtain ⟨its, rv, pl, hz⟩ := I.list hx
  have hl := rv.length
  rw [List.length_map] at hl
  have hlt : p < s.heap.objs.size := by obtain ⟨o, n, e, _⟩ := pl; exact Heap.lt_size e
  refine call_all_walk (wpAny_pyIter_list pl.isList ?_)
  refine ⟨s.heap.objs.size, _, _, _, _, _, fun i => (bs[i]?).getD false, rfl, Walks.list (A := X.A.in1) (I.ok.hd hc) s.heap.objs.size p (Nat.ne_of_lt hlt) its.toArray, ⟨⟨_, Heap.get?_push_size _ rfl, rfl, rfl⟩, pl.isList.push _⟩, ?_, fun h' tk hk => ?_⟩
  · intro i v s' Q' E' hP hQ'
    have hP' : its[i]? = some v := by simpa using hP
    have hi : i < bs.length := by rw [hl]; exact (List.getElem?_eq_some_iff.mp hP').1
    obtain ⟨w, hw, rw'⟩ := rv.get (i := i) (x := .bl bs[i]) (by rw [List.getElem?_map, List.getElem?_eq_getElem hi]; rfl)
    rw [hw] at hP'
    cases hP'
    cases rw'
    have e : (bs[i]?).getD false = bs[i] := by rw [List.getElem?_eq_getElem hi]; rfl
    rw [<- e]
    exact wpAny_truthy_bool hQ'
  · have e : (List.range its.toArray.size).all (fun i => (bs[i]?).getD false) = bs.all id := by
      rw [List.size_toArray, <- hl]
      exact yS bs _ fun i b hb => by rw [hb]; rfl
    rw [e]
    refine ⟨.bl _, H, I.kept (h' := h') fun b o e => hk b o ?_ (Heap.get?_push_of_some _ e), rfl, q⟩
    intro z
    have z' : b = s.heap.objs.size := by simpa using z
    exact Nat.lt_irrefl _ (z' ▸ Heap.lt_size e)
def aU (ns : List Int) : Int := ns.foldr (· + ·) 0
end
end L2
set_option Elab.async false
set_option linter.all false
set_option maxRecDepth 100000
namespace L2
open PySem PySem.Spec PyProof.Rows
mutual
def Den (K : PySem.W.Frag) (H : Hp) : PyData -> V -> Prop
  | .none, v => v = .non
  | .bool b, v => v = .bl b
  | .int i, v => v = .int i
  | .str x, v => v = .str x
  | .list ds, v => ∃ a xs, v = .ref a /\ SqL K H a xs /\ aR K H ds xs
  | .tuple ds, v => ∃ a xs, v = .ref a /\ SqT K H a xs /\ aR K H ds xs
  | .dict kvs, v => kvs = [] /\ ∃ a, v = .ref a /\ H a = some (.dK [])
def aR (K : PySem.W.Frag) (H : Hp) : List PyData -> List V -> Prop
  | [], xs => xs = []
  | d :: ds, xs => ∃ x r, xs = x :: r /\ Den K H d x /\ aR K H ds r
end
theorem aE.rd {H H' : Hp} {a : Addr} {u : HO} (e : aE H H') (h : Rd H a u) : Rd H' a u := by
  rcases h with h | ⟨o, h⟩
  · exact .inl (e a u h)
  · exact .inr ⟨o, e a _ h⟩
theorem aE.seqL {K : PySem.W.Frag} {H H' : Hp} {a : Addr} {xs : List V} (e : aE H H') (h : SqL K H a xs) : SqL K H' a xs := by
  rcases h with h | h
  · exact .inl (e.rd h)
  · exact .inr h
theorem aE.seqT {K : PySem.W.Frag} {H H' : Hp} {a : Addr} {xs : List V} (e : aE H H') (h : SqT K H a xs) : SqT K H' a xs := by
  rcases h with h | h
  · exact .inl (e.rd h)
  · exact .inr h
theorem aE.new {H : Hp} {p : Addr} {o : HO} (h : H p = none) : aE H (upd H p o) := fun b u e => by rw [aH (eZ e h)]; exact e
mutual
theorem aE.den {K : PySem.W.Frag} {H H' : Hp} (e : aE H H') : ∀ (d : PyData) (v : V), Den K H d v -> Den K H' d v
  | .none, v, h => by unfold Den at h ⊢; exact h
  | .bool b, v, h => by unfold Den at h ⊢; exact h
  | .int i, v, h => by unfold Den at h ⊢; exact h
  | .str x, v, h => by unfold Den at h ⊢; exact h
  | .list ds, v, h => by unfold Den at h ⊢; obtain ⟨a, xs, h1, h2, h3⟩ := h; exact ⟨a, xs, h1, e.seqL h2, aE.denAll e ds xs h3⟩
  | .tuple ds, v, h => by unfold Den at h ⊢; obtain ⟨a, xs, h1, h2, h3⟩ := h; exact ⟨a, xs, h1, e.seqT h2, aE.denAll e ds xs h3⟩
  | .dict kvs, v, h => by unfold Den at h ⊢; obtain ⟨h1, a, h2, h3⟩ := h; exact ⟨h1, a, h2, e a _ h3⟩
theorem aE.denAll {K : PySem.W.Frag} {H H' : Hp} (e : aE H H') : ∀ (ds : List PyData) (xs : List V), aR K H ds xs -> aR K H' ds xs
  | [], xs, h => by unfold aR at h ⊢; exact h
  | d :: ds, xs, h => by unfold aR at h ⊢; obtain ⟨x, r, h1, h2, h3⟩ := h; exact ⟨x, r, h1, aE.den e d x h2, aE.denAll e ds r h3⟩
end
section
variable {K : PySem.W.Frag} {H : Hp}
theorem eI {i : Int} {v : V} : Den K H (.int i) v ↔ v = .int i := by unfold Den; exact Iff.rfl
theorem sT {b : Bool} {v : V} : Den K H (.bool b) v ↔ v = .bl b := by unfold Den; exact Iff.rfl
theorem sU {v : V} : Den K H .none v ↔ v = .non := by unfold Den; exact Iff.rfl
theorem xB {x : Str} {v : V} : Den K H (.str x) v ↔ v = .str x := by unfold Den; exact Iff.rfl
theorem oC {ds : List PyData} {v : V} : Den K H (.list ds) v ↔ ∃ a xs, v = .ref a /\ SqL K H a xs /\ aR K H ds xs := by
  constructor
  · intro h; unfold Den at h; exact h
  · intro h; unfold Den; exact h
theorem cK {ds : List PyData} {v : V} : Den K H (.tuple ds) v ↔ ∃ a xs, v = .ref a /\ SqT K H a xs /\ aR K H ds xs := by
  constructor
  · intro h; unfold Den at h; exact h
  · intro h; unfold Den; exact h
theorem aAv {kvs : List (PyData × PyData)} {v : V} : Den K H (.dict kvs) v ↔ kvs = [] /\ ∃ a, v = .ref a /\ H a = some (.dK []) := by
  constructor
  · intro h; unfold Den at h; exact h
  · intro h; unfold Den; exact h
theorem bB {xs : List V} : aR K H [] xs ↔ xs = [] := by unfold aR; exact Iff.rfl
theorem aS {d : PyData} {ds : List PyData} {xs : List V} : aR K H (d :: ds) xs ↔ ∃ x r, xs = x :: r /\ Den K H d x /\ aR K H ds r := by
  constructor
  · intro h; unfold aR at h; exact h
  · intro h; unfold aR; exact h
theorem aW : ∀ {ds : List PyData} {xs : List V}, aR K H ds xs -> xs.length = ds.length
  | [], xs, h => by rw [bB.mp h]; rfl
  | d :: ds, xs, h => by
    obtain ⟨x, r, rfl, _, h3⟩ := aS.mp h
    rw [List.length_cons, List.length_cons, aW h3]
theorem kI : ∀ {ds : List PyData} {xs : List V} {i : Nat} {d : PyData}, aR K H ds xs -> ds[i]? = some d -> ∃ x, xs[i]? = some x /\ Den K H d x
  | [], _, _, _, _, e => by simp at e
  | d :: ds, xs, 0, d', h, e => by
    obtain ⟨x, r, rfl, h2, _⟩ := aS.mp h
    simp at e; subst e
    exact ⟨x, rfl, h2⟩
  | d :: ds, xs, i + 1, d', h, e => by
    obtain ⟨x, r, rfl, _, h3⟩ := aS.mp h
    obtain ⟨y, h4, h5⟩ := kI (i := i) (d := d') h3 (by simpa using e)
    exact ⟨y, by simpa using h4, h5⟩
theorem fJ {ds : List PyData} {xs : List V} {i : Nat} {x : V} (h : aR K H ds xs) (e : xs[i]? = some x) : ∃ d, ds[i]? = some d /\ Den K H d x := by
  have hl := aW h
  have hi : i < ds.length := by rw [<- hl]; exact (List.getElem?_eq_some_iff.mp e).1
  obtain ⟨y, h1, h2⟩ := kI h (List.getElem?_eq_getElem hi)
  rw [e] at h1; cases h1
  exact ⟨_, List.getElem?_eq_getElem hi, h2⟩
theorem eA : ∀ {ds es : List PyData} {xs ys : List V}, aR K H ds xs -> aR K H es ys -> aR K H (ds ++ es) (xs ++ ys)
  | [], es, xs, ys, h, h' => by rw [bB.mp h]; exact h'
  | d :: ds, es, xs, ys, h, h' => by
    obtain ⟨x, r, rfl, h2, h3⟩ := aS.mp h
    exact aS.mpr ⟨x, r ++ ys, rfl, h2, eA h3 h'⟩
theorem eL : ∀ {ns : List Int} {xs : List V}, aR K H (ns.map PyData.int) xs ↔ xs = ns.map V.int
  | [], xs => bB
  | n :: ns, xs => by
    rw [List.map_cons, aS]
    constructor
    · rintro ⟨x, r, rfl, h2, h3⟩
      rw [eI.mp h2, eL.mp h3]
      rfl
    · intro e
      exact ⟨_, _, e, eI.mpr rfl, eL.mpr rfl⟩
theorem aO {ns : List Int} {v : V} : Den K H (.tuple (ns.map .int)) v ↔ ∃ a, v = .ref a /\ SqT K H a (ns.map V.int) := by
  rw [cK]
  constructor
  · rintro ⟨a, xs, rfl, h1, h2⟩
    rw [eL.mp h2] at h1
    exact ⟨a, rfl, h1⟩
  · rintro ⟨a, rfl, h⟩
    exact ⟨a, _, rfl, h, eL.mpr rfl⟩
theorem gE {ns : List Int} {v : V} : Den K H (.list (ns.map .int)) v ↔ ∃ a, v = .ref a /\ SqL K H a (ns.map V.int) := by
  rw [oC]
  constructor
  · rintro ⟨a, xs, rfl, h1, h2⟩
    rw [eL.mp h2] at h1
    exact ⟨a, rfl, h1⟩
  · rintro ⟨a, rfl, h⟩
    exact ⟨a, _, rfl, h, eL.mpr rfl⟩
def jD : PyData -> Kd
  | .none => .non | .bool _ => .bl | .int _ => .int | .str _ => .str | .list _ => .lst | .tuple _ => .tup | .dict _ => .dct
theorem Den.kd {d : PyData} {v : V} (h : Den K H d v) : KdV K H v (jD d) := by
  cases d with
  | none => rw [sU.mp h]; rfl
  | bool b => rw [sT.mp h]; rfl
  | int i => rw [eI.mp h]; rfl
  | str x => rw [xB.mp h]; rfl
  | list ds => obtain ⟨a, xs, rfl, h1, _⟩ := oC.mp h; exact .inl ⟨rfl, xs, h1⟩
  | tuple ds => obtain ⟨a, xs, rfl, h1, _⟩ := cK.mp h; exact .inr (.inl ⟨rfl, xs, h1⟩)
  | dict kvs => obtain ⟨_, a, rfl, h1⟩ := aAv.mp h; exact .inr (.inr ⟨rfl, [], h1⟩)
end
section
variable {X : Cx} {pins : List (Addr × Obj)} {σ : St} {H : Hp} {s : Shared}
mutual
def eT : PyData -> Bool
  | .dict _ => false
  | .list ds => iP ds
  | .tuple ds => iP ds
  | _ => true
def iP : List PyData -> Bool
  | [] => true
  | d :: ds => eT d && iP ds
end
mutual
theorem Den.reads (I : Inv X pins σ H s) : ∀ (d : PyData) (v : V) (u : Value), eT d = true -> Den X.K H d v -> bG v u -> ∃ as, Reads s.heap u d as
  | .none, v, u, _, h, r => by rw [sU.mp h] at r; cases r; exact ⟨_, .none⟩
  | .bool b, v, u, _, h, r => by rw [sT.mp h] at r; cases r; exact ⟨_, .bool b⟩
  | .int i, v, u, _, h, r => by rw [eI.mp h] at r; obtain ⟨t, rfl⟩ := r; exact ⟨_, .int i t⟩
  | .str x, v, u, _, h, r => by rw [xB.mp h] at r; obtain ⟨t, rfl⟩ := r; exact ⟨_, .str x t⟩
  | .list ds, v, u, hn, h, r => by
    obtain ⟨a, xs, rfl, h1, h2⟩ := oC.mp h
    cases r
    obtain ⟨its, rv, ⟨o, n, e, c, _, d⟩, _⟩ := I.list h1
    obtain ⟨as, ra⟩ := aR.reads I ds xs its (by unfold eT at hn; exact hn) h2 rv
    exact ⟨_, .list e c d (by simpa using ra)⟩
  | .tuple ds, v, u, hn, h, r => by
    obtain ⟨a, xs, rfl, h1, h2⟩ := cK.mp h
    cases r
    obtain ⟨its, rv, ⟨o, e, c, n, d⟩, _⟩ := I.tuple h1
    obtain ⟨as, ra⟩ := aR.reads I ds xs its (by unfold eT at hn; exact hn) h2 rv
    exact ⟨_, .tuple e c d (by simpa using ra)⟩
  | .dict kvs, v, u, hn, _, _ => by unfold eT at hn; cases hn
theorem aR.reads (I : Inv X pins σ H s) : ∀ (ds : List PyData) (xs : List V) (us : List Value), iP ds = true -> aR X.K H ds xs -> aX xs us -> ∃ as, ReadsAll s.heap us ds as
  | [], xs, us, _, h, r => by rw [bB.mp h] at r; cases r; exact ⟨_, .nil⟩
  | d :: ds, xs, us, hn, h, r => by
    obtain ⟨x, rr, rfl, h2, h3⟩ := aS.mp h
    unfold iP at hn
    rw [Bool.and_eq_true] at hn
    cases r with
    | cons r1 r2 =>
      obtain ⟨as, ra⟩ := Den.reads I d x _ hn.1 h2 r1
      obtain ⟨bs, rb⟩ := aR.reads I ds rr _ hn.2 h3 r2
      exact ⟨_, .cons ra rb⟩
end
theorem vJ (hu : X.A.units + 64 < cLine) : OpR X (compareOp .Eq) (fun x y H Q => ∃ d e, Den X.K H d x /\ Den X.K H e y /\ eT d = true /\ eT e = true /\ SeqAt.shaped d = true /\ SeqAt.shaped e = true /\ Q (.bl (PyData.eqv d e)) H) := by
  intro pins s σ H x y v u Q I rx ry h
  obtain ⟨d, e, hd, he, n1, n2, s1, s2, q⟩ := h
  obtain ⟨as, ra⟩ := Den.reads I d x v n1 hd rx
  obtain ⟨bs, rb⟩ := Den.reads I e y u n2 he ry
  exact eq_dataH ra rb s1 s2 hu ⟨.bl _, H, I, rfl, q⟩
theorem rE (hu : X.A.units + 64 < cLine) : OpR X (compareOp .NotEq) (fun x y H Q => ∃ d e, Den X.K H d x /\ Den X.K H e y /\ eT d = true /\ eT e = true /\ SeqAt.shaped d = true /\ SeqAt.shaped e = true /\ Q (.bl (!PyData.eqv d e)) H) := by
  intro pins s σ H x y v u Q I rx ry h
  obtain ⟨d, e, hd, he, n1, n2, s1, s2, q⟩ := h
  obtain ⟨as, ra⟩ := Den.reads I d x v n1 hd rx
  obtain ⟨bs, rb⟩ := Den.reads I e y u n2 he ry
  exact ne_dataH ra rb s1 s2 hu ⟨.bl _, H, I, rfl, q⟩
theorem yT : MtR X "tuple.count" (fun x vs H Q => ∃ (a : Addr) (ns : List Int) (n : Int), x = .ref a /\ vs = [.int n] /\ SqT X.K H a (ns.map V.int) /\ Q (.int (ns.count n : Nat)) H) := by
  intro pins s σ H x v vs us Q I rx r h
  obtain ⟨a, ns, n, rfl, rfl, ha, q⟩ := h
  obtain ⟨u, rfl, t, rfl⟩ := gJ r
  cases rx
  obtain ⟨its, rv, ⟨⟨cls, dd, data, sl⟩, ho, hc, k, hd⟩, hzz⟩ := I.tuple ha
  simp only at hc hd
  subst hc hd
  have hi : IntsAre its ns := cZ rv
  refine call_meets PySem.F.slot_tuple_count ⟨_, ho, rfl⟩ PySem.F.entry_tuple_count (PySem.F.args_tuple_count_2 _ _) (SeqAt.tuple_countAt a its.toArray k dd sl (.int n t) (isInt n)) ⟨ho, fun y hy => (eq_isInt n t hi y (by simpa using hy)).at _ _, ?_⟩
  have e : (its.toArray.toList.countP (isInt n)) = ns.count n := by
    simp only [List.toList_toArray]
    clear q r ha rv ho hzz
    induction hi with
    | nil => rfl
    | cons m t' _ ih =>
      rw [List.countP_cons, List.count_cons, ih]
      rfl
  rw [e]
  exact ⟨.int _, H, I.tok _, ⟨_, rfl⟩, q⟩
end
end L2
set_option Elab.async false
set_option linter.all false
set_option maxRecDepth 100000
namespace L2
open PySem PySem.Spec PyProof.Rows
section
variable {prog : Program} {w : World} {A : Around} {E : Value -> Shared -> Prop} {s : Shared}
theorem yU {x : Value} {ns : List Int} {Q : Value -> Shared -> Prop} (h64 : ns.length < 64)
    (hc : ∀ Q' : List Value -> Shared -> Prop, (∀ h' tk vs, (∀ b o, s.heap.get? b = some o -> h'.get? b = some o) -> IntsAre vs ns -> Q' vs { s with heap := h', toks := tk }) -> wpAny (model prog w) A.in1 (collect x) Q' E s)
    (h : ∀ (h1 h' : Heap) tk out ns', (∀ b o, s.heap.get? b = some o -> h1.get? b = some o) -> (∀ b o, h1.get? b = some o -> h'.get? b = some o) -> h'.PlainList h1.objs.size out -> IntsAre out.toList ns' -> ns'.Perm ns -> ns'.Pairwise (· <= ·) -> Q (.ref h1.objs.size) { s with heap := h', toks := tk }) :
    wpAny (model prog w) A (call (.builtin "sorted") [x]) Q E s := by
  refine Calls.call_function_entry kind_sorted plain_sorted entry_sorted (args_sorted1 _) ?_
  unfold Builtin.«sorted»
  refine wpAny_bind (m := checkCount "sorted" 1 1 _) (wpAny_pure ?_)
  refine wpAny_bind (hc _ fun h1 tk vs kp hi => ?_)
  have hlen := hi.length
  refine wpAny_bind (wpAny_newList ?_ (by rw [sizeLine_eq]; omega))
  have hoL : (h1.push (seqObj "list" vs.toArray 0)).get? h1.objs.size = some (seqObj "list" vs.toArray 0) := Heap.get?_push_size _ rfl
  refine wpAny_bind (wpAny_holding (wpAny_call_entry slot_list_sort ⟨_, hoL, rfl⟩ entry_list_sort (list_sort_tree hoL hi (by omega) fun out ns' a1 a2 a3 => ⟨_, rfl, ?_⟩) (args_list_sort _)))
  refine wpAny_pure ⟨_, rfl, ?_⟩
  obtain ⟨e, he⟩ := sortedHeap_at (out := out) hoL
  refine h h1 _ tk out ns' kp (fun b o q => ?_) ⟨e, he⟩ a1 a2 a3
  rw [sortedHeap_old (Nat.ne_of_lt (Heap.lt_size q)) (by rw [size_push']; exact Nat.lt_succ_of_lt (Heap.lt_size q))]
  exact Heap.get?_push_of_some _ q
theorem pQ {x : Value} {ns : List Int} {b : Bool} {Q : Value -> Shared -> Prop} (h64 : ns.length < 64)
    (hc : ∀ Q' : List Value -> Shared -> Prop, (∀ h' tk vs, (∀ b o, s.heap.get? b = some o -> h'.get? b = some o) -> IntsAre vs ns -> Q' vs { s with heap := h', toks := tk }) -> wpAny (model prog w) A.in1 (collect x) Q' E s)
    (h : ∀ (h1 h' : Heap) tk out ns', (∀ b o, s.heap.get? b = some o -> h1.get? b = some o) -> (∀ b o, h1.get? b = some o -> h'.get? b = some o) -> h'.PlainList h1.objs.size out -> IntsAre out.toList ns' -> ns'.Perm ns -> Ordered b ns' -> Q (.ref h1.objs.size) { s with heap := h', toks := tk }) :
    wpAny (model prog w) A (call (.builtin "sorted") [x] [(Str.ofString "reverse", .bool b)]) Q E s := by
  refine call_function_entry_kw kind_sorted plain_sorted entry_sorted (args_sorted_rev _ _) ?_
  unfold Builtin.«sorted»
  refine wpAny_bind (m := checkCount "sorted" 1 1 _) (wpAny_pure ?_)
  refine wpAny_bind (hc _ fun h1 tk vs kp hi => ?_)
  have hlen := hi.length
  refine wpAny_bind (wpAny_newList ?_ (by rw [sizeLine_eq]; omega))
  have hoL : (h1.push (seqObj "list" vs.toArray 0)).get? h1.objs.size = some (seqObj "list" vs.toArray 0) := Heap.get?_push_size _ rfl
  refine wpAny_bind (wpAny_holding (wpAny_call_entry_kw slot_list_sort ⟨_, hoL, rfl⟩ entry_list_sort (list_sort_tree_rev hoL hi (by omega) fun out ns' a1 a2 a3 => ⟨_, rfl, ?_⟩) (args_list_sort_rev _ _)))
  refine wpAny_pure ⟨_, rfl, ?_⟩
  obtain ⟨e, he⟩ := sortedHeap_at (out := out) hoL
  refine h h1 _ tk out ns' kp (fun b o q => ?_) ⟨e, he⟩ a1 a2 a3
  rw [sortedHeap_old (Nat.ne_of_lt (Heap.lt_size q)) (by rw [size_push']; exact Nat.lt_succ_of_lt (Heap.lt_size q))]
  exact Heap.get?_push_of_some _ q
end
section
variable {X : Cx}
def bY (n : Nat) : List Int := (List.range n).map fun (i : Nat) => (i : Int)
theorem sV : eY X (.builtin "sorted") (fun xs H Q => ∃ (a : Addr) (ns : List Int), xs = [.ref a] /\ (SqL X.K H a (ns.map V.int) ∨ SqT X.K H a (ns.map V.int)) /\ ns.length < 64 /\
    ∀ (p : Addr) (ms : List Int), H p = none -> ms.Perm ns -> ms.Pairwise (· <= ·) -> Q (.ref p) (upd H p (.lst (ms.map V.int)))) := by
  intro pins s σ H xs us Q I r h
  obtain ⟨a, ns, rfl, ha, h64, q⟩ := h
  obtain ⟨u, rfl, rx⟩ := gJ r
  cases rx
  refine yU h64 (fun Q' hQ' => ?_) fun h1 h' tk out ns' k1 k2 pl hi hp ho => ?_
  · rcases ha with ha | ha
    · obtain ⟨its, rv, ⟨o, n, e, c, _, d⟩, hz⟩ := I.list ha
      have hl := rv.length
      exact wpAny_collect_seq a (.inl rfl) e c d (fun h' kp => hQ' h' s.toks _ kp (by simpa using cZ rv)) (by rw [List.size_toArray, <- hl]; exact hz)
    · obtain ⟨its, rv, ⟨o, e, c, n, d⟩, hz⟩ := I.tuple ha
      have hl := rv.length
      exact wpAny_collect_seq a (.inr rfl) e c d (fun h' kp => hQ' h' s.toks _ kp (by simpa using cZ rv)) (by rw [List.size_toArray, <- hl]; exact hz)
  · have I1 : Inv X pins σ H { s with heap := h1, toks := tk } := I.kept k1
    have hf := I1.hok.fresh (Nat.le_refl _)
    have hl := hp.length_eq
    obtain ⟨n, e⟩ := pl
    have I2 : Inv X pins σ (upd H h1.objs.size (.lst (ns'.map V.int))) { s with heap := h', toks := tk } :=
      I1.laid (t' := tk) k2 (Nat.le_refl _) (show bM X.prog X.w _ _ _ (.lst _) from ⟨by rw [List.length_map, hl, sizeLine_eq]; omega, out.toList, n, lU hi, by simpa using e⟩)
    exact ⟨.ref h1.objs.size, _, I2, rfl, q _ ns' hf hp ho⟩
theorem pR {x : Expr} {p pos kpos : Pos} {tx : TE} {cj cpos} (hg : Gl X "sorted") (hm : X.mg "sorted" = none) (hx : PE X x tx)
    (he : starEach [x] X.env = [(false, eval x X.env)] := by rfl) :
    PE X (.Call (.Name "sorted" p) [x] [⟨some "reverse", .Constant (.bool true) cj cpos, kpos⟩] pos) (fun σ H Q => tx σ H fun v H1 => ∃ (a : Addr) (ns : List Int), v = .ref a /\ (SqL X.K H1 a (ns.map V.int) ∨ SqT X.K H1 a (ns.map V.int)) /\ ns.length < 64 /\
      ∀ (p : Addr) (ms : List Int), H1 p = none -> ms.Perm ns -> ms.Pairwise (· ≥ ·) -> Q (.ref p) (upd H1 p (.lst (ms.map V.int)))) := by
  intro pins s σ H Q I h
  refine wpAny_Call_Name_kw (gX (u := .builtin "sorted") I hg hm (by decide +kernel) ?_)
  have hpa : PA X [x] (sO tx aAo) := aA hx aB he
  refine callWith_kw (thn (hpa pos pins s σ H (fun vs H1 => match vs with
      | [v] => ∃ (a : Addr) (ns : List Int), v = .ref a /\ (SqL X.K H1 a (ns.map V.int) ∨ SqT X.K H1 a (ns.map V.int)) /\ ns.length < 64 /\ ∀ (p : Addr) (ms : List Int), H1 p = none -> ms.Perm ns -> ms.Pairwise (· ≥ ·) -> Q (.ref p) (upd H1 p (.lst (ms.map V.int)))
      | _ => False) I h) fun us s1 ⟨vs, H1, I1, r1, q1⟩ => ?_) (by rw [he]; rfl) (by rw [he]; rfl)
  have hk : PK X [⟨some "reverse", .Constant (.bool true) cj cpos, kpos⟩] (sO (tC (.bl true)) aAo) := aBJ dY aCT
  refine thn (hk pos pins s1 σ H1 (fun zs H2 => zs = [.bl true] /\ H2 = H1) I1 ⟨rfl, rfl⟩) fun ws s2 hx9 => ?_
  obtain ⟨zs, H2, I2, rz, ez, eH⟩ := hx9
  subst ez eH
  obtain ⟨w1, rfl, rw1⟩ := gJ rz
  cases rw1
  match vs, r1, q1 with
  | [v], r1, q1 =>
    obtain ⟨a, ns, rfl, ha, h64, q⟩ := q1
    obtain ⟨u, rfl, rx⟩ := gJ r1
    cases rx
    show wpAny (model X.prog X.w) X.A (call (.builtin "sorted") [.ref a] [(Str.ofString "reverse", .bool true)]) _ _ _
    refine pQ h64 (fun Q' hQ' => ?_) fun h1 h' tk out ns' k1 k2 pl hi hp ho => ?_
    · rcases ha with ha | ha
      · obtain ⟨its, rv, ⟨o, n, e, c, _, d⟩, hz⟩ := I2.list ha
        have hl := rv.length
        exact wpAny_collect_seq a (.inl rfl) e c d (fun h' kp => hQ' h' s2.toks _ kp (by simpa using cZ rv)) (by rw [List.size_toArray, <- hl]; exact hz)
      · obtain ⟨its, rv, ⟨o, e, c, n, d⟩, hz⟩ := I2.tuple ha
        have hl := rv.length
        exact wpAny_collect_seq a (.inr rfl) e c d (fun h' kp => hQ' h' s2.toks _ kp (by simpa using cZ rv)) (by rw [List.size_toArray, <- hl]; exact hz)
    · have J1 : Inv X pins σ H2 { s2 with heap := h1, toks := tk } := I2.kept k1
      have hf := J1.hok.fresh (Nat.le_refl _)
      have hl := hp.length_eq
      obtain ⟨n, e⟩ := pl
      have J2 : Inv X pins σ (upd H2 h1.objs.size (.lst (ns'.map V.int))) { s2 with heap := h', toks := tk } :=
        J1.laid (t' := tk) k2 (Nat.le_refl _) (show bM X.prog X.w _ _ _ (.lst _) from ⟨by rw [List.length_map, hl, sizeLine_eq]; omega, out.toList, n, lU hi, by simpa using e⟩)
      exact ⟨.ref h1.objs.size, _, J2, rfl, q _ ns' hf hp ho⟩
  | [], _, q1 => exact q1.elim
  | _ :: _ :: _, _, q1 => exact q1.elim
end
end L2
set_option Elab.async false
set_option linter.all false
set_option maxRecDepth 100000
namespace L2
open PySem PySem.Spec PyProof.Rows
def tab (L : Bool) (ns : List Nat) : SetTable := { mask := 7, place := ns.toArray, dummies := #[], finger := 0, led := L, moves := 0, plain := true }
def aEj (l : List (Nat × Tok)) : Array (Int × Value) := (l.map fun p => ((p.1 : Int), Value.int (p.1 : Int) p.2)).toArray
theorem fs1 : ∀ (L : Bool) (k j : Fin 8), k ≠ j -> (tab L [k.val]).freeSlot ((j.val : Nat) : Int) = some (j.val, false) := by decide +kernel
def SX (L : Bool) (h : Heap) (a : Addr) (l : List (Nat × Tok)) : Prop := ∃ o ep, h.get? a = some o /\ o.ExactSet /\ o.data = .set (aEj l) ep (tab L (l.map (·.1)))
section
variable {prog : Program} {w : World} {A : Around} {E : Value -> Shared -> Prop} {s : Shared} {L : Bool} {a : Addr}
end
end L2
set_option Elab.async false
set_option linter.all false
set_option maxRecDepth 100000
namespace L2
open PySem PySem.Spec PyProof.Rows
section
variable {prog : Program} {w : World} {A : Around} {E : Value -> Shared -> Prop} {s : Shared}
abbrev Led (w : World) : Bool := !(w.params.followText "set-order")
theorem oE (a : Value) {Q₁ : Value -> Shared -> Prop}
    (h : Q₁ (.ref s.heap.objs.size) { s with heap := s.heap.push { cls := .type "set", dict := none, data := .set #[] 0 (.fresh 0 0 (Led w)) } }) :
    codeAny (model prog w) A (.call (.builtin "set.__new__") ⟨[.type "set", a], []⟩) (wants Q₁ E) s := by
  refine codeAny_of_tree ?_
  show wpAny _ A.in1 (do checkBuiltinCall "set.__new__" ⟨[.type "set", a], []⟩; again (.builtin "set.__new__" ⟨[.type "set", a], []⟩)) _ _ s
  refine wpAny_bind (wpAny_of_eq (PySem.F.newCall_set_1 a) (wpAny_pure ⟨plainId_quiet PySem.F.plain_set_new _, codeAny_builtin PySem.F.entry_set_new ?_⟩))
  rw [Around.under_plainId PySem.F.plain_set_new _]
  unfold Builtin.«set.__new__» Builtin.Frozenset.newClass
  have hsub := sub_set_self
  obtain ⟨hp, g, d, tk, os⟩ := s
  dsimp only
  wp_walk
  refine wpAny_askSetting (wpAny_pure ?_)
  dsimp only
  simp only [newObj]
  refine wpAny_bind (wpAny_alloc (wpAny_pure ?_))
  exact wpAny_pure h
theorem aAw {I S : Addr} {fp wr : List Addr} {n i : Nat} {P : Nat -> Value -> Prop} {St : Nat -> Heap -> Prop} {R : Result -> Shared -> Prop} (W : Walks prog w A.in1 I fp wr n P St) (hi : i < n) (st : St i s.heap)
    (h : ∀ v h' tk, P i v -> St (i + 1) h' -> (∀ b o, b ∉ wr -> s.heap.get? b = some o -> h'.get? b = some o) ->
      wpAny (model prog w) A.in1 (setAdd S v) (fun _ s2 => codeAny (model prog w) A (.builtin "set.update.loop" ⟨[.ref S, .ref I], []⟩) R s2) (fun e s' => R (.error e) s') { s with heap := h', toks := tk }) :
    codeAny (model prog w) A (.builtin "set.update.loop" ⟨[.ref S, .ref I], []⟩) R s := by
  refine codeAny_builtin PyProof.Rows.F.entry_set_update_loop ?_
  rw [Around.under_plainId PyProof.Rows.F.plain_set_update_loop _]
  show wpAny _ A.in1 (pyNext (.ref I) >>= _) _ _ s
  refine wpAny_bind (W.item i s _ _ hi st fun v h' tk hP hst' hk => ?_)
  show wpAny _ A.in1 (holding [v] (setAdd S v) >>= _) _ _ _
  refine wpAny_bind (wpAny_holding (wpAny_mono (h v h' tk hP hst' hk) (fun _ s2 q => ?_) fun _ _ e => e))
  exact wpAny_pure ⟨plainId_quiet PyProof.Rows.F.plain_set_update_loop _, q⟩
theorem aAx {I S : Addr} {fp wr : List Addr} {n : Nat} {P : Nat -> Value -> Prop} {St : Nat -> Heap -> Prop} {R : Result -> Shared -> Prop} (W : Walks prog w A.in1 I fp wr n P St) (st : St n s.heap)
    (h : ∀ h' tk, (∀ b o, b ∉ wr -> s.heap.get? b = some o -> h'.get? b = some o) -> R (.ok (.ret .none)) { s with heap := h', toks := tk }) :
    codeAny (model prog w) A (.builtin "set.update.loop" ⟨[.ref S, .ref I], []⟩) R s := by
  refine codeAny_builtin PyProof.Rows.F.entry_set_update_loop ?_
  rw [Around.under_plainId PyProof.Rows.F.plain_set_update_loop _]
  show wpAny _ A.in1 (pyNext (.ref I) >>= _) _ _ s
  refine wpAny_bind (W.done s _ _ st fun h' tk hk => ?_)
  show wpAny _ A.in1 (ret Value.none) _ _ _
  exact wpAny_pure (h h' tk hk)
def two (a b : Nat) (t u : Tok) : List (Nat × Tok) := if a = b then [(a, t)] else if a < b then [(a, t), (b, u)] else [(b, u), (a, t)]
theorem SX.keep {L : Bool} {h h' : Heap} {a : Addr} {l : List (Nat × Tok)} (x : SX L h a l) (k : ∀ o, h.get? a = some o -> h'.get? a = some o) : SX L h' a l := by
  obtain ⟨o, ep, e, r⟩ := x
  exact ⟨o, ep, k o e, r⟩
end
end L2
set_option Elab.async false
set_option linter.all false
set_option maxRecDepth 100000
namespace L2
open PySem PySem.Spec PyProof.Rows
section
variable {prog : Program} {w : World} {A : Around} {E : Value -> Shared -> Prop} {s : Shared} {S : Addr} {o : Obj} {ep : Nat} {l : List (Nat × Tok)}
end
end L2
set_option Elab.async false
set_option linter.all false
set_option maxRecDepth 100000
namespace L2
open PySem PySem.Spec PyProof.Rows
section
variable {prog : Program} {w : World} {A : Around} {E : Value -> Shared -> Prop} {s : Shared} {S : Addr} {o : Obj} {ep : Nat} {l : List (Nat × Tok)}
end
end L2
set_option Elab.async false
set_option linter.all false
set_option maxRecDepth 100000
namespace L2
open PySem PySem.Spec PyProof.Rows
def aEk (w : World) (p : Addr) (a b : Nat) : HO := .ext fun h => ∃ t u, SX (Led w) h p (two a b t u)
section
variable {X : Cx}
end
end L2
set_option Elab.async false
set_option linter.all false
set_option maxRecDepth 100000
namespace L2
open PySem PySem.Spec PyProof.Rows
structure Sub (prog : Program) (w : World) (i l : Addr) (n : Nat) (P : Nat -> Value -> Prop) (st : Nat -> Heap -> Prop) : Prop where
  keep : ∀ k h h', st k h -> (∀ b, b = i ∨ b = l -> ∀ o, h.get? b = some o -> h'.get? b = some o) -> st k h'
  obj : ∀ k h, st k h -> (∃ o, h.get? i = some o /\ ∀ v, o.data ≠ .cell v) /\ ∃ o, h.get? l = some o
  item : ∀ (A : Around) k (s : Shared) (Q : Value -> Shared -> Prop) (E : Value -> Shared -> Prop), k < n -> st k s.heap -> (∀ v h', P k v -> st (k + 1) h' -> Heap.SameBut i s.heap h' -> Q v { s with heap := h' }) -> wpAny (model prog w) A (Builtin.SmallTypes.nextOf (.ref i)) Q E s
  done : ∀ (A : Around) (s : Shared) (Q : Value -> Shared -> Prop) (E : Value -> Shared -> Prop), A.handled = none -> st n s.heap -> (∀ h' e, Heap.ExtBut i s.heap h' -> (∃ o, h'.get? e = some o /\ o.cls = .type "StopIteration") -> E (.ref e) { s with heap := h' }) ->
    wpAny (model prog w) A (Builtin.SmallTypes.nextOf (.ref i)) Q E s
theorem aAy (prog : Program) (w : World) (i l : Addr) (items : Array Value) (hne : l ≠ i) : Sub prog w i l items.size (fun k v => items[k]? = some v) (fun k h => h.IsListIter i l k /\ h.IsList l items) where
  keep := fun k h h' st kp => ⟨st.1.at fun o e => kp i (.inl rfl) o e, st.2.at fun o e => kp l (.inr rfl) o e⟩
  obj := fun k h st => by
    obtain ⟨⟨o, e, _, d⟩, ⟨o2, e2, _⟩⟩ := st
    exact ⟨⟨o, e, fun v z => by rw [d] at z; cases z⟩, o2, e2⟩
  item := fun A k s Q E hk st hQ => wpAny_nextOf_list_item st.1 st.2 (Array.getElem?_eq_getElem hk) fun h' a b => hQ _ h' (Array.getElem?_eq_getElem hk) ⟨a, st.2.at fun o e => b.extBut l o hne e⟩ b
  done := fun A s Q E hh st hE => wpAny_nextOf_list_end hh st.1 st.2 (Array.getElem?_eq_none (Nat.le_refl _)) hE
theorem kU {prog : Program} {w : World} {A : Around} {E : Value -> Shared -> Prop} {s : Shared} {it t : Addr} {i : Nat} {items : Array Value} {x : Value} {Q : Value -> Shared -> Prop} (hit : s.heap.IsTupleIter it t i) (ht : s.heap.IsTuple t items) (hx : items[i]? = some x)
    (hQ : ∀ h', h'.IsTupleIter it t (i + 1) -> Heap.SameBut it s.heap h' -> Q x { s with heap := h' }) : wpAny (model prog w) A (Builtin.SmallTypes.nextOf (.ref it)) Q E s := by
  obtain ⟨o, ho, hc, hd⟩ := id hit
  obtain ⟨ol, hol, _, nl, hdl⟩ := ht
  have hT := hit.typeIs
  unfold Builtin.SmallTypes.nextOf
  refine wpAny_bind (wpAny_callSpecial?_slot (name := Str.ofString "__next__") hT PySem.F.slot_tuple_iterator_next (wpAny_call_entry PySem.F.slot_tuple_iterator_next hT PySem.F.entry_tuple_iterator_next ?_ (PySem.F.args_tuple_iterator_next_1 _)))
  refine wpAny_bind (m := field (.ref it) 0) (wpAny_field ho hd (x := .ref t) rfl ?_)
  have hno : ¬ ((Value.ref t == Value.none) = true) := Bool.false_ne_true
  show wpAny _ _ (if (Value.ref t == Value.none) = true then _ else _) _ _ s
  rw [if_neg hno]
  refine wpAny_bind (m := field (.ref it) 1) (wpAny_field ho hd (x := .int i 0) rfl ?_)
  refine wpAny_bind (m := seqItems? (.ref t)) (wpAny_seqItems hol hdl ?_)
  simp only [Int.toNat_natCast, hx]
  refine wpAny_bind (wpAny_setField ho hd (by simp) (wpAny_pure ⟨x, rfl, wpAny_pure (hQ _ ?_ (Heap.SameBut.update ..))⟩))
  refine ⟨_, Heap.get?_update_self _ ho (Obj.isFreed_of_fields (Obj.data_mapFields hd _)), (Obj.cls_mapFields ..).trans hc, ?_⟩
  rw [Obj.data_mapFields hd]
  simp [rawInt]
theorem lW {prog : Program} {w : World} {A : Around} {E : Value -> Shared -> Prop} {s : Shared} {it t : Addr} {i : Nat} {items : Array Value} {Q : Value -> Shared -> Prop} (hh : A.handled = none) (hit : s.heap.IsTupleIter it t i) (ht : s.heap.IsTuple t items) (hx : items[i]? = none)
    (hE : ∀ h' e, Heap.ExtBut it s.heap h' -> (∃ o, h'.get? e = some o /\ o.cls = .type "StopIteration") -> E (.ref e) { s with heap := h' }) : wpAny (model prog w) A (Builtin.SmallTypes.nextOf (.ref it)) Q E s := by
  obtain ⟨o, ho, hc, hd⟩ := id hit
  obtain ⟨ol, hol, _, nl, hdl⟩ := ht
  have hT := hit.typeIs
  unfold Builtin.SmallTypes.nextOf
  refine wpAny_bind (wpAny_callSpecial?_slot (name := Str.ofString "__next__") hT PySem.F.slot_tuple_iterator_next (wpAny_call_entry PySem.F.slot_tuple_iterator_next hT PySem.F.entry_tuple_iterator_next ?_ (PySem.F.args_tuple_iterator_next_1 _)))
  refine wpAny_bind (m := field (.ref it) 0) (wpAny_field ho hd (x := .ref t) rfl ?_)
  have hno : ¬ ((Value.ref t == Value.none) = true) := Bool.false_ne_true
  show wpAny _ _ (if (Value.ref t == Value.none) = true then _ else _) _ _ s
  rw [if_neg hno]
  refine wpAny_bind (m := field (.ref it) 1) (wpAny_field ho hd (x := .int i 0) rfl ?_)
  refine wpAny_bind (m := seqItems? (.ref t)) (wpAny_seqItems hol hdl ?_)
  simp only [Int.toNat_natCast, hx]
  refine wpAny_bind (wpAny_rule (wpAny_bind (wpAny_setField ho hd (by simp) ?_)))
  refine wpAny_bind (m := newExc (.type "StopIteration") []) ?_
  simp only [newExc, newTuple]
  refine wpAny_bind (wpAny_newObj_type ?_ (by size_fits))
  refine wpAny_bind (m := firstArgMember _ _) (wpAny_of_eq (a := Value.none) (by first | rfl | (simp only [firstArgMember]; rfl)) ?_)
  refine wpAny_newObj_type ?_ (by size_fits)
  simp only [raiseNew]
  refine wpAny_bind (wpAny_handled ?_)
  first | rw [show A.in1.handled = none from hh] | rw [hh]
  refine wpAny_bind (wpAny_pure (wpAny_throw ?_))
  exact hE _ _ (((Heap.SameBut.update ..).extBut.push _).push _) ⟨_, Heap.get?_push_size _ rfl, rfl⟩
theorem yV (prog : Program) (w : World) (i l : Addr) (items : Array Value) (hne : l ≠ i) : Sub prog w i l items.size (fun k v => items[k]? = some v) (fun k h => h.IsTupleIter i l k /\ h.IsTuple l items) where
  keep := fun k h h' st kp => ⟨st.1.at fun o e => kp i (.inl rfl) o e, by obtain ⟨o, e, r⟩ := st.2; exact ⟨o, kp l (.inr rfl) o e, r⟩⟩
  obj := fun k h st => by
    obtain ⟨⟨o, e, _, d⟩, ⟨o2, e2, _⟩⟩ := st
    exact ⟨⟨o, e, fun v z => by rw [d] at z; cases z⟩, o2, e2⟩
  item := fun A k s Q E hk st hQ => kU st.1 st.2 (Array.getElem?_eq_getElem hk) fun h' a b => hQ _ h' (Array.getElem?_eq_getElem hk) ⟨a, by obtain ⟨o, e, r⟩ := st.2; exact ⟨o, b.extBut l o hne e, r⟩⟩ b
  done := fun A s Q E hh st hE => lW hh st.1 st.2 (Array.getElem?_eq_none (Nat.le_refl _)) hE
section
variable {prog : Program} {w : World} {A : Around} {E : Value -> Shared -> Prop} {s : Shared} {z TI TO i1 i2 l1 l2 : Addr} {n1 n2 : Nat} {P1 P2 : Nat -> Value -> Prop} {st1 st2 : Nat -> Heap -> Prop}
theorem aBO {k : Nat} {a b : Value} {Q : Value -> Shared -> Prop} (D : ZipApart z TI TO i1 i2 l1 l2) (S1 : Sub prog w i1 l1 n1 P1 st1) (S2 : Sub prog w i2 l2 n2 P2 st2)
    (hz : IsZip s.heap z TI TO .none) (hTI : IsPair s.heap TI (.ref i1) (.ref i2)) (hTO : IsPair s.heap TO a b) (h1 : st1 k s.heap) (h2 : st2 k s.heap) (k1 : k < n1) (k2 : k < n2)
    (hQ : ∀ h' x y, P1 k x -> P2 k y -> IsZip h' z TI TO (rawInt s.heap.objs.size) -> IsPair h' TO x y -> st1 (k + 1) h' -> st2 (k + 1) h' -> IsPair h' s.heap.objs.size x y ->
      (∀ c o, c ≠ z -> c ≠ TO -> c ≠ i1 -> c ≠ i2 -> s.heap.get? c = some o -> h'.get? c = some o) -> Q (.ref s.heap.objs.size) { s with heap := h' }) :
    wpAny (model prog w) A (Builtin.«zip.__next__» ⟨[.ref z], []⟩) (fun fin s' => ∃ v, fin = .done (.ret v) /\ Q v s') E s := by
  refine wpAny_bind (m := field (.ref z) 2) (wpAny_field hz rfl (x := .bool false) rfl ?_)
  refine wpAny_bind (m := field (.ref z) 3) (wpAny_field hz rfl (x := .ref TI) rfl ?_)
  refine wpAny_bind (wpAny_seqItems hTI rfl ?_)
  refine wpAny_bind (m := Builtin.SmallTypes.ownedTupleIsFree (.ref z)) ?_
  unfold Builtin.SmallTypes.ownedTupleIsFree
  refine wpAny_bind (wpAny_field hz rfl (x := .none) rfl (wpAny_pure ?_))
  simp only [if_true]
  refine wpAny_bind (wpAny_rule ?_)
  refine wpAny_bind (wpAny_field hz rfl (x := .ref TO) rfl ?_)
  refine wpAny_bind (wpAny_setField_rec hz (by simp) fun g1 hz1 b1 => ?_)
  have hz1' : IsZip g1 z TI TO .ellipsis := hz1
  refine wpAny_bind ?_
  simp only [List.zipIdx_cons, List.zipIdx_nil, List.forIn_cons, List.forIn_nil]
  -- the first one
  have s1 : st1 k g1 := S1.keep _ _ _ h1 fun c hc o e => b1.extBut c o (by rcases hc with r | r <;> rw [r]; exact D.i1z; exact D.l1z) e
  refine wpAny_bind (wpAny_bind (wpAny_onRaise ?_))
  refine wpAny_bind (m := Builtin.SmallTypes.nextOf (.ref i1)) (S1.item _ k _ _ _ k1 s1 fun x g2 px t1 b2 => wpAny_pure ?_)
  have o2 : IsPair g2 TO a b := b2.extBut _ _ D.TOi1 (b1.extBut _ _ D.TOz hTO)
  refine wpAny_bind (wpAny_seqItems o2 rfl ?_)
  refine wpAny_bind (wpAny_updateSeq_pair o2 fun g3 o3 b3 => ?_)
  have o3' : IsPair g3 TO x b := o3
  refine wpAny_bind (wpAny_letGo (wpAny_pure ?_))
  -- the second one
  have s2 : st2 k g3 := S2.keep _ _ _ h2 fun c hc o e => by
    rcases hc with r | r
    · rw [r] at e ⊢; exact b3.extBut _ _ D.TOi2.symm (b2.extBut _ _ D.i12.symm (b1.extBut _ _ D.i2z e))
    · rw [r] at e ⊢; exact b3.extBut _ _ D.l2TO (b2.extBut _ _ D.l2i1 (b1.extBut _ _ D.l2z e))
  refine wpAny_bind (wpAny_bind (wpAny_onRaise ?_))
  refine wpAny_bind (m := Builtin.SmallTypes.nextOf (.ref i2)) (S2.item _ k _ _ _ k2 s2 fun y g4 py t2 b4 => wpAny_pure ?_)
  have o4 : IsPair g4 TO x b := b4.extBut _ _ D.TOi2 o3'
  refine wpAny_bind (wpAny_seqItems o4 rfl ?_)
  refine wpAny_bind (wpAny_updateSeq_pair o4 fun g5 o5 b5 => ?_)
  have o5' : IsPair g5 TO x y := o5
  refine wpAny_bind (wpAny_letGo (wpAny_pure (wpAny_pure ?_)))
  refine wpAny_bind (wpAny_seqItems o5' rfl ?_)
  refine wpAny_bind (wpAny_newTuple ?_)
  have sz : g5.objs.size = s.heap.objs.size := by rw [b5.1, b4.1, b3.1, b2.1, b1.1]
  have z5 : IsZip g5 z TI TO .ellipsis := b5.extBut _ _ D.TOz.symm (b4.extBut _ _ D.i2z.symm (b3.extBut _ _ D.TOz.symm (b2.extBut _ _ D.i1z.symm hz1')))
  have kp5 : ∀ c o, c ≠ z -> c ≠ TO -> c ≠ i1 -> c ≠ i2 -> s.heap.get? c = some o -> g5.get? c = some o := fun c o c1 c2 c3 c4 e =>
    b5.extBut _ _ c2 (b4.extBut _ _ c4 (b3.extBut _ _ c2 (b2.extBut _ _ c3 (b1.extBut _ _ c1 e))))
  have t1' : st1 (k + 1) g5 := S1.keep _ _ _ t1 fun c hc o e => by
    rcases hc with r | r
    · rw [r] at e ⊢; exact b5.extBut _ _ D.TOi1.symm (b4.extBut _ _ D.i12 (b3.extBut _ _ D.TOi1.symm e))
    · rw [r] at e ⊢; exact b5.extBut _ _ D.l1TO (b4.extBut _ _ D.l1i2 (b3.extBut _ _ D.l1TO e))
  have t2' : st2 (k + 1) g5 := S2.keep _ _ _ t2 fun c hc o e => by
    rcases hc with r | r
    · rw [r] at e ⊢; exact b5.extBut _ _ D.TOi2.symm e
    · rw [r] at e ⊢; exact b5.extBut _ _ D.l2TO e
  have zlt : g5.objs.size ≠ z := Nat.ne_of_gt (Heap.lt_size z5)
  refine wpAny_bind (m := Builtin.SmallTypes.ownedTupleHandOut (.ref z) (.ref g5.objs.size)) ?_
  unfold Builtin.SmallTypes.ownedTupleHandOut
  have z6 : IsZip (g5.push { cls := .type "tuple", data := .seq #[x, y] }) z TI TO .ellipsis := Heap.get?_push_of_some _ z5
  refine wpAny_bind (wpAny_setField_rec z6 (by simp) fun g7 z7 b7 => ?_)
  have z7' : IsZip g7 z TI TO (rawInt g5.objs.size) := z7
  refine wpAny_setField_rec z7' (by simp) fun g8 z8 b8 => ?_
  have z8' : IsZip g8 z TI TO (rawInt g5.objs.size) := z8
  have up : ∀ c o, c ≠ z -> g5.get? c = some o -> g8.get? c = some o := fun c o c1 e => b8.extBut _ _ c1 (b7.extBut _ _ c1 (Heap.get?_push_of_some _ e))
  have T8 : IsPair g8 g5.objs.size x y := b8.extBut _ _ zlt (b7.extBut _ _ zlt (Heap.get?_push_size _ rfl))
  rw [sz] at z8' T8
  refine wpAny_pure ⟨_, rfl, ?_⟩
  show Q (.ref g5.objs.size) _
  rw [sz]
  refine hQ g8 x y px py z8' (up _ _ D.TOz o5') (S1.keep _ _ _ t1' fun c hc o e => up c o (by rcases hc with r | r <;> rw [r]; exact D.i1z; exact D.l1z) e) (S2.keep _ _ _ t2' fun c hc o e => up c o (by rcases hc with r | r <;> rw [r]; exact D.i2z; exact D.l2z) e) T8 fun c o c1 c2 c3 c4 e => up c o c1 (kp5 c o c1 c2 c3 c4 e)
theorem aC0 {k : Nat} {a b : Value} {Q : Fin -> Shared -> Prop} (hh : A.handled = none) (D : ZipApart z TI TO i1 i2 l1 l2) (S1 : Sub prog w i1 l1 n1 P1 st1) (S2 : Sub prog w i2 l2 n2 P2 st2)
    (hz : IsZip s.heap z TI TO .none) (hTI : IsPair s.heap TI (.ref i1) (.ref i2)) (hTO : IsPair s.heap TO a b) (h1 : st1 k s.heap) (h2 : st2 k s.heap) (hend : k = n1 /\ k <= n2 ∨ k = n2 /\ k < n1)
    (hE : ∀ h' e, (∀ c o, c ≠ z -> c ≠ TO -> c ≠ i1 -> c ≠ i2 -> s.heap.get? c = some o -> h'.get? c = some o) -> (∃ o, h'.get? e = some o /\ o.cls = .type "StopIteration") -> E (.ref e) { s with heap := h' }) :
    wpAny (model prog w) A (Builtin.«zip.__next__» ⟨[.ref z], []⟩) Q E s := by
  refine wpAny_bind (m := field (.ref z) 2) (wpAny_field hz rfl (x := .bool false) rfl ?_)
  refine wpAny_bind (m := field (.ref z) 3) (wpAny_field hz rfl (x := .ref TI) rfl ?_)
  refine wpAny_bind (wpAny_seqItems hTI rfl ?_)
  refine wpAny_bind (m := Builtin.SmallTypes.ownedTupleIsFree (.ref z)) ?_
  unfold Builtin.SmallTypes.ownedTupleIsFree
  refine wpAny_bind (wpAny_field hz rfl (x := .none) rfl (wpAny_pure ?_))
  simp only [if_true]
  refine wpAny_bind (wpAny_rule ?_)
  refine wpAny_bind (wpAny_field hz rfl (x := .ref TO) rfl ?_)
  refine wpAny_bind (wpAny_setField_rec hz (by simp) fun g1 hz1 b1 => ?_)
  have hz1' : IsZip g1 z TI TO .ellipsis := hz1
  refine wpAny_bind ?_
  simp only [List.zipIdx_cons, List.zipIdx_nil, List.forIn_cons, List.forIn_nil]
  have s1 : st1 k g1 := S1.keep _ _ _ h1 fun c hc o e => b1.extBut c o (by rcases hc with r | r <;> rw [r]; exact D.i1z; exact D.l1z) e
  refine wpAny_bind (wpAny_bind (wpAny_onRaise ?_))
  have fin : ∀ (g : Heap) (e : Addr) (g0 : Heap), (∃ o, g.get? e = some o /\ o.cls = .type "StopIteration") -> IsZip g z TI TO .ellipsis -> (∀ c o, c ≠ z -> c ≠ TO -> c ≠ i1 -> c ≠ i2 -> s.heap.get? c = some o -> g.get? c = some o) ->
      wpAny (model prog w) A (setField (.ref z) 0 .none) (fun _ s' => E (.ref e) s') E { s with heap := g } := fun g e g0 ⟨oe, hoe, hce⟩ hzz kp => by
    have hez : e ≠ z := fun q => by rw [q, hzz] at hoe; cases hoe; simp at hce
    exact wpAny_setField_rec hzz (by simp) fun g' _ b' => hE g' e (fun c o c1 c2 c3 c4 q => b'.extBut _ _ c1 (kp c o c1 c2 c3 c4 q)) ⟨oe, b'.extBut _ _ hez hoe, hce⟩
  rcases hend with ⟨e1, _⟩ | ⟨e2, k1⟩
  · rw [e1] at s1
    refine wpAny_bind (m := Builtin.SmallTypes.nextOf (.ref i1)) (S1.done _ _ _ _ hh s1 fun g2 e b2 he => ?_)
    exact fin g2 e g1 he (b2 _ _ D.i1z.symm hz1') fun c o c1 _ c3 _ q => b2 _ _ c3 (b1.extBut _ _ c1 q)
  · refine wpAny_bind (m := Builtin.SmallTypes.nextOf (.ref i1)) (S1.item _ k _ _ _ k1 s1 fun x g2 px t1 b2 => wpAny_pure ?_)
    have o2 : IsPair g2 TO a b := b2.extBut _ _ D.TOi1 (b1.extBut _ _ D.TOz hTO)
    refine wpAny_bind (wpAny_seqItems o2 rfl ?_)
    refine wpAny_bind (wpAny_updateSeq_pair o2 fun g3 o3 b3 => ?_)
    refine wpAny_bind (wpAny_letGo (wpAny_pure ?_))
    have s2 : st2 n2 g3 := by
      rw [<- e2]
      exact S2.keep _ _ _ h2 fun c hc o e => by
        rcases hc with r | r
        · rw [r] at e ⊢; exact b3.extBut _ _ D.TOi2.symm (b2.extBut _ _ D.i12.symm (b1.extBut _ _ D.i2z e))
        · rw [r] at e ⊢; exact b3.extBut _ _ D.l2TO (b2.extBut _ _ D.l2i1 (b1.extBut _ _ D.l2z e))
    refine wpAny_bind (wpAny_bind (wpAny_onRaise ?_))
    refine wpAny_bind (m := Builtin.SmallTypes.nextOf (.ref i2)) (S2.done _ _ _ _ hh s2 fun g4 e b4 he => ?_)
    exact fin g4 e g3 he (b4 _ _ D.i2z.symm (b3.extBut _ _ D.TOz.symm (b2.extBut _ _ D.i1z.symm hz1'))) fun c o c1 c2 c3 c4 q => b4 _ _ c4 (b3.extBut _ _ c2 (b2.extBut _ _ c3 (b1.extBut _ _ c1 q)))
end
end L2
set_option Elab.async false
set_option linter.all false
set_option maxRecDepth 100000
namespace L2
open PySem PySem.Spec PyProof.Rows
inductive Sk where
  | l | t
def SqK (k : Sk) (K : PySem.W.Frag) (H : Hp) (a : Addr) (xs : List V) : Prop := match k with | .l => SqL K H a xs | .t => SqT K H a xs
def AtK (k : Sk) (h : Heap) (a : Addr) (its : Array Value) : Prop := match k with | .l => h.IsList a its | .t => h.IsTuple a its
def ItK (k : Sk) (h : Heap) (i a : Addr) (n : Nat) : Prop := match k with | .l => h.IsListIter i a n | .t => h.IsTupleIter i a n
def itK (k : Sk) (a : Addr) : Obj := match k with | .l => { cls := .type "list_iterator", data := .fields #[.ref a, .int 0 0] } | .t => { cls := .type "tuple_iterator", data := .fields #[.ref a, .int 0 0] }
theorem ItK.new (k : Sk) (h : Heap) (a : Addr) : ItK k (h.push (itK k a)) h.objs.size a 0 := by
  cases k
  · exact ⟨_, Heap.get?_push_size _ rfl, rfl, rfl⟩
  · exact ⟨_, Heap.get?_push_size _ rfl, rfl, rfl⟩
theorem ItK.obj {k : Sk} {h : Heap} {i a : Addr} {n : Nat} (x : ItK k h i a n) : ∃ o, h.get? i = some o /\ ∀ v, o.data ≠ .cell v := by
  cases k
  · obtain ⟨o, e, _, d⟩ := x; exact ⟨o, e, fun v z => by rw [d] at z; cases z⟩
  · obtain ⟨o, e, _, d⟩ := x; exact ⟨o, e, fun v z => by rw [d] at z; cases z⟩
theorem ItK.at {k : Sk} {h h' : Heap} {i a : Addr} {n : Nat} (x : ItK k h i a n) (kp : ∀ o, h.get? i = some o -> h'.get? i = some o) : ItK k h' i a n := by
  cases k
  · exact Heap.IsListIter.at x kp
  · exact Heap.IsTupleIter.at x kp
theorem AtK.at {k : Sk} {h h' : Heap} {a : Addr} {its : Array Value} (x : AtK k h a its) (kp : ∀ o, h.get? a = some o -> h'.get? a = some o) : AtK k h' a its := by
  cases k
  · exact Heap.IsList.at x kp
  · obtain ⟨o, e, r⟩ := x; exact ⟨o, kp o e, r⟩
theorem sW (k : Sk) (prog : Program) (w : World) (i l : Addr) (items : Array Value) (hne : l ≠ i) : Sub prog w i l items.size (fun j v => items[j]? = some v) (fun j h => ItK k h i l j /\ AtK k h l items) := by
  cases k
  · exact aAy prog w i l items hne
  · exact yV prog w i l items hne
theorem aCu {prog : Program} {w : World} {A : Around} {E : Value -> Shared -> Prop} {s : Shared} {k : Sk} {a : Addr} {its : Array Value} {Q : Value -> Shared -> Prop} (h : AtK k s.heap a its) (hQ : Q (.ref s.heap.objs.size) { s with heap := s.heap.push (itK k a) }) : wpAny (model prog w) A (pyIter (.ref a)) Q E s := by
  cases k
  · exact wpAny_pyIter_list h hQ
  · exact wpAny_pyIter_tuple h hQ
section
variable {X : Cx} {pins : List (Addr × Obj)} {σ : St} {H : Hp} {s : Shared}
theorem Inv.seqK (I : Inv X pins σ H s) {k : Sk} {a : Addr} {xs : List V} (h : SqK k X.K H a xs) : ∃ its : List Value, aX xs its /\ AtK k s.heap a its.toArray := by
  cases k
  · obtain ⟨its, r, p, _⟩ := I.list h; exact ⟨its, r, p.isList⟩
  · obtain ⟨its, r, p, _⟩ := I.tuple h; exact ⟨its, r, p⟩
theorem Inv.seqK_inj (I : Inv X pins σ H s) {k : Sk} {a : Addr} {xs ys : List V} (h : SqK k X.K H a xs) (h' : SqK k X.K H a ys) : xs = ys := by
  cases k
  · exact I.list_inj h h'
  · exact I.tuple_inj h h'
theorem Inv.seq_ne (I : Inv X pins σ H s) {k : Sk} {a b : Addr} {xs : List V} (h : SqK k X.K H a xs) (f : kQ X pins H b) : a ≠ b := by
  have rd : ∀ {u : HO}, Rd H a u -> a ≠ b := fun {u} r z => by
    rcases r with r | ⟨o, r⟩ <;> (rw [z, f.1] at r; cases r)
  have kk : ∀ {o : Obj}, X.K.lookup a = some o -> a ≠ b := fun {o} e z => by
    have e1 := I.ok.mod.kin a o e
    rcases f.2.2.2.1 with q | q
    · exact I.ok.noex a o e1 (z ▸ q)
    · exact Nat.lt_irrefl _ (Nat.lt_of_lt_of_le (Heap.lt_size (I.ok.bs a o e1).1) (z ▸ q))
  cases k
  · rcases h with h | ⟨o, _, _, e, _⟩
    · exact rd h
    · exact kk e
  · rcases h with h | ⟨o, _, _, e, _⟩
    · exact rd h
    · exact kk e
theorem Inv.turnedL {h' : Heap} {t' : Nat} (ch : List Addr) (I : Inv X pins σ H s) (k : ∀ b o, b ∉ ch -> s.heap.get? b = some o -> h'.get? b = some o) (f : ∀ b ∈ ch, kQ X pins H b) : Inv X pins σ H { s with heap := h', toks := t' } := by
  have nit : ∀ b u, H b = some u -> b ∉ ch := fun b u e z => by rw [(f b z).1] at e; cases e
  have nL : X.env.locals ∉ ch := fun z => (f _ z).2.1 rfl
  refine I.step (g' := s.gens) (d' := s.drawn) (ch := ch) (fun b hb => ⟨(f b hb).2.2.2.1, (f b hb).2.1, (f b hb).2.2.2.2.1, (f b hb).2.2.2.2.2⟩) (fun b o _ _ hc e _ => k b o hc e) (fun b o _ _ hc e _ => ⟨o.slots, k b o hc e⟩) (fun _ _ _ _ n => n)
    (fun b o hc e => ⟨o, k b o hc e⟩) (fun _ _ e => e) (fun _ _ _ e => e) (fun b ps e => ⟨#[], by rw [e]; simp⟩) (fun m hm => ?_) (fun b u e => ?_) I.bare
  · obtain ⟨o, es, ep, ho, r⟩ := hm
    exact ⟨o, es, ep, k _ o nL ho, r⟩
  · refine (I.hok b u e).stay (fun c v hc q => k c v ?_ q) (fun _ q => q) fun _ _ q => q
    rcases hc with z | z
    · rw [z]; exact nit b u e
    · exact nit c _ z
theorem Inv.trackO {D : Addr} {u : HO} (I : Inv X pins σ H s) (new : bM X.prog X.w (upd H D u) s.heap D u) (hn : H D = none) (hL : D ≠ X.env.locals)
    (h1 : X.s₀.heap.objs.size <= D) (h2 : ∀ x c, X.env.cells.lookup x = some c -> c ≠ D) (h3 : ∀ p ∈ X.pn ++ pins, p.1 ≠ D) : Inv X pins σ (upd H D u) s := by
  have ne : ∀ b v, H b = some v -> b ≠ D := fun b v e z => by rw [z, hn] at e; cases e
  refine I.step (g' := s.gens) (d' := s.drawn) (t' := s.toks) (h' := s.heap) (ch := [D]) (fun b hb => ?_) (fun b o _ _ _ e _ => e) (fun b o _ _ _ e _ => ⟨o.slots, e⟩) (fun b o hc _ n => ?_) (fun b o _ e => ⟨o, e⟩)
    (fun b xs e => by rw [aH (ne b _ e)]; exact e) (fun b o v e => by rw [aH (ne b _ e)]; exact e) (fun b ps e => ⟨#[], by rw [aH (ne b _ e), e]; simp⟩) (fun _ h => h) (fun b v e => ?_) I.bare
  · have e : b = D := by simpa using hb
    subst e
    exact ⟨.inr h1, hL, h2, h3⟩
  · rw [aH (by simpa using hc)]; exact n
  · by_cases hb : b = D
    · subst hb
      rw [aC] at e; cases e
      exact new
    · rw [aH hb] at e
      exact (I.hok b v e).stay (fun c v _ q => q) (fun c q => by rw [aH (ne c _ q)]; exact q) fun c xs q => by rw [aH (ne c _ q)]; exact q
end
def Itz (K : PySem.W.Frag) (k1 k2 : Sk) (a b : Addr) : It :=
  ⟨fun i H => ∃ xs ys x y, SqK k1 K H a xs /\ SqK k2 K H b ys /\ xs[i]? = some x /\ ys[i]? = some y,
   fun i H v H' => ∃ p, H p = none /\ v = .ref p /\ ∀ xs ys, SqK k1 K H a xs -> SqK k2 K H b ys -> ∃ x y, xs[i]? = some x /\ ys[i]? = some y /\ H' = upd H p (.tup [x, y]),
   fun i H => ∃ xs ys, SqK k1 K H a xs /\ SqK k2 K H b ys /\ min xs.length ys.length = i⟩
theorem aAz {P : Program} {w : World} {K : PySem.W.Frag} {es : List Expr} {x1} {pos : Pos} (k1 k2 : Sk) (a b z TI TO i1 i2 : Addr) (D : ∀ l1 l2 : Addr, (∀ c ∈ [z, TI, TO, i1, i2], l1 ≠ c) -> (∀ c ∈ [z, TI, TO, i1, i2], l2 ≠ c) -> ZipApart z TI TO i1 i2 l1 l2) :
    Turn P w K (.Tuple es x1 pos) (Itz K k1 k2 a b) [z, TI, TO, i1, i2] z (fun i h => IsZip h z TI TO .none /\ IsPair h TI (.ref i1) (.ref i2) /\ (∃ x y, IsPair h TO x y) /\ ItK k1 h i1 a i /\ ItK k2 h i2 b i) where
  mem := by simp
  obj := fun i h st c hc => by
    obtain ⟨hz, hTI, ⟨x, y, hTO⟩, h1, h2⟩ := st
    simp only [List.mem_cons, List.not_mem_nil, or_false] at hc
    rcases hc with rfl | rfl | rfl | rfl | rfl
    · exact ⟨_, hz, fun v q => by cases q⟩
    · exact ⟨_, hTI, fun v q => by cases q⟩
    · exact ⟨_, hTO, fun v q => by cases q⟩
    · exact h1.obj
    · exact h2.obj
  keep := fun i h h' st k => by
    obtain ⟨hz, hTI, ⟨x, y, hTO⟩, h1, h2⟩ := st
    exact ⟨k z (by simp) _ hz, k TI (by simp) _ hTI, ⟨x, y, k TO (by simp) _ hTO⟩, h1.at fun o e => k i1 (by simp) o e, h2.at fun o e => k i2 (by simp) o e⟩
  item := by
    intro X hP hw hK hc i pins s σ H E I hf st hg
    subst hP hw hK
    obtain ⟨hz, hTI, ⟨x0, y0, hTO⟩, h1, h2⟩ := st
    obtain ⟨xs, ys, x, y, ha, hb, hx, hy⟩ := hg
    obtain ⟨its, rv, pa⟩ := I.seqK ha
    obtain ⟨jts, rw', pb⟩ := I.seqK hb
    obtain ⟨u, hu, ru⟩ := rv.get hx
    obtain ⟨v, hv, rv2⟩ := rw'.get hy
    have na : ∀ c ∈ [z, TI, TO, i1, i2], a ≠ c := fun c hc' => I.seq_ne ha (hf c hc')
    have nb : ∀ c ∈ [z, TI, TO, i1, i2], b ≠ c := fun c hc' => I.seq_ne hb (hf c hc')
    have DD := D a b na nb
    have hT : s.TypeIs (.ref z) "zip" := ⟨_, hz, rfl⟩
    have hi1 : i < its.toArray.size := by rw [List.size_toArray]; exact (List.getElem?_eq_some_iff.mp hu).1
    have hi2 : i < jts.toArray.size := by rw [List.size_toArray]; exact (List.getElem?_eq_some_iff.mp hv).1
    unfold pyNext
    refine wpAny_bind (wpAny_attempt (wpAny_callSpecial?_slot (name := Str.ofString "__next__") hT PySem.F.slot_zip_next (wpAny_call_entry PySem.F.slot_zip_next hT PySem.F.entry_zip_next
      (aBO DD (sW k1 X.prog X.w i1 a its.toArray (na i1 (by simp))) (sW k2 X.prog X.w i2 b jts.toArray (nb i2 (by simp))) hz hTI hTO ⟨h1, pa⟩ ⟨h2, pb⟩ hi1 hi2 fun h' u' v' pu pv hz' hTO' s1 s2 hT' kp => wpAny_pure ?_) (PySem.F.args_zip_next_1 _))))
    have eu : u' = u := by
      have q : its[i]? = some u' := by simpa using pu
      rw [hu] at q
      exact (Option.some.inj q).symm
    have ev : v' = v := by
      have q : jts[i]? = some v' := by simpa using pv
      rw [hv] at q
      exact (Option.some.inj q).symm
    subst eu ev
    refine ⟨_, rfl, wpAny_letOwnedTupleGo_zip hz' fun h2 hz2 sb2 => ?_⟩
    have Tz : s.heap.objs.size ≠ z := Nat.ne_of_gt (Heap.lt_size hz)
    have hT2 : IsPair h2 s.heap.objs.size u' v' := sb2.extBut _ _ Tz hT'
    have hf0 := I.hok.fresh (Nat.le_refl s.heap.objs.size)
    have fz := I.fpOk (Nat.le_refl s.heap.objs.size) hf0
    have I2 : Inv X pins σ H { s with heap := h2 } := by
      refine I.turnedL (t' := s.toks) [z, TO, i1, i2] (fun c o hc' e => ?_) (fun c hc' => hf c ?_)
      · simp only [List.mem_cons, List.not_mem_nil, or_false, not_or] at hc'
        exact sb2.extBut _ _ hc'.1 (kp c o hc'.1 hc'.2.1 hc'.2.2.1 hc'.2.2.2 e)
      · simp only [List.mem_cons, List.not_mem_nil, or_false] at hc' ⊢
        rcases hc' with r | r | r | r
        · exact .inl r
        · exact .inr (.inr (.inl r))
        · exact .inr (.inr (.inr (.inl r)))
        · exact .inr (.inr (.inr (.inr r)))
    have I3 : Inv X pins σ (upd H s.heap.objs.size (.tup [x, y])) { s with heap := h2 } := by
      refine I2.trackO (show bM X.prog X.w _ _ _ (.tup [x, y]) from ⟨by show 2 <= sizeLine; rw [sizeLine_eq]; decide, [u', v'], 0, .cons ru (.cons rv2 .nil), hT2⟩) hf0 fz.2.1 I.sz fz.2.2.2.2.1 fz.2.2.2.2.2
    refine ⟨.ref s.heap.objs.size, _, I3, rfl, ⟨s.heap.objs.size, hf0, rfl, fun xs' ys' ha' hb' => ?_⟩, ⟨hz2, sb2.extBut _ _ DD.TIz (kp _ _ DD.TIz DD.TITO DD.TIi1 DD.TIi2 hTI), ⟨_, _, sb2.extBut _ _ DD.TOz hTO'⟩, s1.1.at fun o e => sb2.extBut _ _ DD.i1z e, s2.1.at fun o e => sb2.extBut _ _ DD.i2z e⟩, fun c hc' => ?_⟩
    · rw [I.seqK_inj ha' ha, I.seqK_inj hb' hb]
      exact ⟨x, y, hx, hy, rfl⟩
    · have cl : c ≠ s.heap.objs.size := by
        obtain ⟨o, e⟩ : ∃ o, s.heap.get? c = some o := by
          simp only [List.mem_cons, List.not_mem_nil, or_false] at hc'
          rcases hc' with rfl | rfl | rfl | rfl | rfl
          · exact ⟨_, hz⟩
          · exact ⟨_, hTI⟩
          · exact ⟨_, hTO⟩
          · obtain ⟨o, e, _⟩ := h1.obj; exact ⟨o, e⟩
          · obtain ⟨o, e, _⟩ := h2.obj; exact ⟨o, e⟩
        exact Nat.ne_of_lt (Heap.lt_size e)
      rw [aH cl]
      exact (hf c hc').1
  done := by
    intro X hP hw hK hc i pins s σ H E I hf st hg
    subst hP hw hK
    obtain ⟨hz, hTI, ⟨x0, y0, hTO⟩, h1, h2⟩ := st
    obtain ⟨xs, ys, ha, hb, hmin⟩ := hg
    obtain ⟨its, rv, pa⟩ := I.seqK ha
    obtain ⟨jts, rw', pb⟩ := I.seqK hb
    have la := rv.length
    have lb := rw'.length
    have na : ∀ c ∈ [z, TI, TO, i1, i2], a ≠ c := fun c hc' => I.seq_ne ha (hf c hc')
    have nb : ∀ c ∈ [z, TI, TO, i1, i2], b ≠ c := fun c hc' => I.seq_ne hb (hf c hc')
    have DD := D a b na nb
    have hT : s.TypeIs (.ref z) "zip" := ⟨_, hz, rfl⟩
    unfold pyNext
    refine wpAny_bind (wpAny_attempt (wpAny_callSpecial?_slot (name := Str.ofString "__next__") hT PySem.F.slot_zip_next (wpAny_call_entry PySem.F.slot_zip_next hT PySem.F.entry_zip_next
      (aC0 (I.ok.hd hc) DD (sW k1 X.prog X.w i1 a its.toArray (na i1 (by simp))) (sW k2 X.prog X.w i2 b jts.toArray (nb i2 (by simp))) hz hTI hTO ⟨h1, pa⟩ ⟨h2, pb⟩ (by rw [List.size_toArray, List.size_toArray]; omega) fun h' e kp he => ?_) (PySem.F.args_zip_next_1 _))))
    obtain ⟨oe, hoe, hce⟩ := he
    refine wpAny_bind (wpAny_isInstance (T := "StopIteration") (b := true) ⟨oe, hoe, hce⟩ isSubtype_stop (wpAny_pure ⟨rfl, ?_⟩))
    refine I.turnedL (t' := s.toks) [z, TO, i1, i2] (fun c o hc' e => ?_) (fun c hc' => hf c ?_)
    · simp only [List.mem_cons, List.not_mem_nil, or_false, not_or] at hc'
      exact kp c o hc'.1 hc'.2.1 hc'.2.2.1 hc'.2.2.2 e
    · simp only [List.mem_cons, List.not_mem_nil, or_false] at hc' ⊢
      rcases hc' with r | r | r | r
      · exact .inl r
      · exact .inr (.inr (.inl r))
      · exact .inr (.inr (.inr (.inl r)))
      · exact .inr (.inr (.inr (.inr r)))
  self := fun _ _ _ _ _ st h => wpAny_pyIter_zip st.1 h
abbrev zh1 (k1 : Sk) (h : Heap) (a : Addr) : Heap := h.push (itK k1 a)
abbrev zh2 (k1 k2 : Sk) (h : Heap) (a b : Addr) : Heap := (zh1 k1 h a).push (itK k2 b)
abbrev zh3 (k1 k2 : Sk) (h : Heap) (a b : Addr) : Heap := (zh2 k1 k2 h a b).push { cls := .type "tuple", data := .seq #[.ref h.objs.size, .ref (zh1 k1 h a).objs.size] }
abbrev zh4 (k1 k2 : Sk) (h : Heap) (a b : Addr) : Heap := (zh3 k1 k2 h a b).push { cls := .type "tuple", data := .seq #[.none, .none] }
abbrev zh5 (k1 k2 : Sk) (h : Heap) (a b : Addr) : Heap := (zh4 k1 k2 h a b).push { cls := .type "zip", data := .fields #[.none, .bool false, .bool false, .ref (zh2 k1 k2 h a b).objs.size, .ref (zh3 k1 k2 h a b).objs.size] }
theorem sX (k1 k2 : Sk) (a b : Addr) (xs ys : Array Value) :
    Meets (Builtin.«zip.__new__» ⟨[.type "zip", .ref a, .ref b], []⟩) (fun _ R s => AtK k1 s.heap a xs /\ AtK k2 s.heap b ys /\ R (.ok (.ret (.ref (zh4 k1 k2 s.heap a b).objs.size))) { s with heap := zh5 k1 k2 s.heap a b }) :=
  .of_wp fun prog w A R s h => by
    obtain ⟨hp, g, d, tk, os⟩ := s
    obtain ⟨hl1, hl2, h⟩ := h
    have hsub := sub_zip
    have hA : AtK k1 (Shared.heap ⟨hp, g, d, tk, os⟩) a xs := hl1
    have hB : AtK k2 (Shared.heap ⟨hp.push (itK k1 a), g, d, tk, os⟩) b ys := AtK.at hl2 fun o e => Heap.get?_push_of_some _ e
    wp_walk using aCu hA, aCu hB
    exact ⟨_, rfl, h⟩
section
variable {X : Cx} {es : List Expr} {x1 : Nat} {tpos : Pos}
def aDK (K : PySem.W.Frag) (k1 k2 : Sk) (ta : TA) : TI := fun σ H R => ta σ H fun vs H1 => ∃ a b xs ys, vs = [.ref a, .ref b] /\ SqK k1 K H1 a xs /\ SqK k2 K H1 b ys /\ R (Itz K k1 k2 a b) H1
theorem vK (k1 k2 : Sk) {a b : Expr} {ta : TA} {p pos : Pos} (hg : Gl X "zip") (hm : X.mg "zip" = none) (ha : PA X [a, b] ta) (hs : starEach [a, b] X.env = [(false, eval a X.env), (false, eval b X.env)] := by rfl) (hs2 : starEach [b] X.env = [(false, eval b X.env)] := by rfl) :
    PI X (.Tuple es x1 tpos) (.Call (.Name "zip" p) [a, b] [] pos) (aDK X.K k1 k2 ta) := by
  intro pins s σ H R I h
  refine Call_ (gX (u := .type "zip") I hg hm (by decide +kernel) (PyProof.Rows.callWith_type1 (thn (ha pos pins s σ H _ I h) fun us s1 hx9 => ?_) (by rw [hs, hs2]) (by rw [hs2]; rfl)))
  obtain ⟨vs, H1, I1, r1, q1⟩ := hx9
  obtain ⟨l1, l2, xs, ys, rfl, hA, hB, q⟩ := q1
  obtain ⟨u1, u2, rfl, r1', r2'⟩ := kR r1
  cases r1'
  cases r2'
  obtain ⟨its, rv, pa⟩ := I1.seqK hA
  obtain ⟨jts, rw', pb⟩ := I1.seqK hB
  refine callType_new PySem.F.called_zip (by decide) (PySem.F.typeCall_zip_2 _ _) (PySem.F.newCall_zip_2 _ _) (fun obj => PySem.F.args_object_init_3 obj _ _) PySem.F.entry_zip_new (sX k1 k2 l1 l2 its.toArray jts.toArray) ⟨pa, pb, ?_⟩
  have n1 : (zh1 k1 s1.heap l1).objs.size = s1.heap.objs.size + 1 := Heap.size_push ..
  have n2 : (zh2 k1 k2 s1.heap l1 l2).objs.size = s1.heap.objs.size + 2 := by rw [Heap.size_push, n1]
  have n3 : (zh3 k1 k2 s1.heap l1 l2).objs.size = s1.heap.objs.size + 3 := by rw [Heap.size_push, n2]
  have n4 : (zh4 k1 k2 s1.heap l1 l2).objs.size = s1.heap.objs.size + 4 := by rw [Heap.size_push, n3]
  have g5 : IsZip (zh5 k1 k2 s1.heap l1 l2) (zh4 k1 k2 s1.heap l1 l2).objs.size (zh2 k1 k2 s1.heap l1 l2).objs.size (zh3 k1 k2 s1.heap l1 l2).objs.size .none := Heap.get?_push_size _ rfl
  have g4 : IsPair (zh5 k1 k2 s1.heap l1 l2) (zh3 k1 k2 s1.heap l1 l2).objs.size .none .none := Heap.get?_push_of_some _ (Heap.get?_push_size _ rfl)
  have g3 : IsPair (zh5 k1 k2 s1.heap l1 l2) (zh2 k1 k2 s1.heap l1 l2).objs.size (.ref s1.heap.objs.size) (.ref (zh1 k1 s1.heap l1).objs.size) := Heap.get?_push_of_some _ (Heap.get?_push_of_some _ (Heap.get?_push_size _ rfl))
  have g2 : ItK k2 (zh5 k1 k2 s1.heap l1 l2) (zh1 k1 s1.heap l1).objs.size l2 0 := (ItK.new k2 (zh1 k1 s1.heap l1) l2).at fun o e => Heap.get?_push_of_some _ (Heap.get?_push_of_some _ (Heap.get?_push_of_some _ e))
  have g1 : ItK k1 (zh5 k1 k2 s1.heap l1 l2) s1.heap.objs.size l1 0 := (ItK.new k1 s1.heap l1).at fun o e => Heap.get?_push_of_some _ (Heap.get?_push_of_some _ (Heap.get?_push_of_some _ (Heap.get?_push_of_some _ e)))
  have kp : ∀ c o, s1.heap.get? c = some o -> (zh5 k1 k2 s1.heap l1 l2).get? c = some o := fun c o e => Heap.get?_push_of_some _ (Heap.get?_push_of_some _ (Heap.get?_push_of_some _ (Heap.get?_push_of_some _ (Heap.get?_push_of_some _ e))))
  refine ⟨⟨_, g5, rfl⟩, wpAny_pyIter_zip (f0 := .none) g5 ?_⟩
  rw [n1, n2, n3, n4] at *
  have I2 : Inv X pins σ H1 { s1 with heap := zh5 k1 k2 s1.heap l1 l2 } := I1.kept (t' := s1.toks) kp
  refine ⟨s1.heap.objs.size + 4, [s1.heap.objs.size + 4, s1.heap.objs.size + 2, s1.heap.objs.size + 3, s1.heap.objs.size, s1.heap.objs.size + 1], _, _, H1, rfl, I2, aAz k1 k2 l1 l2 _ _ _ _ _ ?_, ⟨g5, g3, ⟨_, _, g4⟩, g1, g2⟩, fun c hc => ?_, q⟩
  · intro m1 m2 h1 h2
    have d : ∀ i j : Nat, i ≠ j -> s1.heap.objs.size + i ≠ s1.heap.objs.size + j := fun i j h => by omega
    exact ⟨d 2 4 (by decide), d 3 4 (by decide), d 0 4 (by decide), d 1 4 (by decide), d 2 3 (by decide), d 2 0 (by decide), d 2 1 (by decide), d 3 0 (by decide), d 3 1 (by decide), d 0 1 (by decide),
      h1 _ (by simp), h1 _ (by simp), h1 _ (by simp), h1 _ (by simp), h2 _ (by simp), h2 _ (by simp), h2 _ (by simp), h2 _ (by simp)⟩
  · have hc' : s1.heap.objs.size <= c := by
      simp only [List.mem_cons, List.not_mem_nil, or_false] at hc
      rcases hc with r | r | r | r | r
      · rw [r]; exact Nat.le_add_right _ _
      · rw [r]; exact Nat.le_add_right _ _
      · rw [r]; exact Nat.le_add_right _ _
      · rw [r]; exact Nat.le_refl _
      · rw [r]; exact Nat.le_add_right _ _
    exact I1.fpOk hc' (I1.hok.fresh hc')
end
end L2
set_option Elab.async false
set_option linter.all false
set_option maxRecDepth 100000
namespace L2
open PySem PySem.Spec PyProof.Rows
open PySem.AutoSeq1 (wpAny_loadPart')
theorem pS (l b : Addr) (items items2 : Array Value) (n n2 : Nat) (dd dd2 : Option Addr) (sl sl2 : Array (Option Value)) (hc0 : items.isEmpty = true) :
    Meets (Builtin.«tuple.__add__» ⟨[.ref l, .ref b], []⟩) (fun _ R s => s.heap.get? l = some { cls := .type "tuple", dict := dd, data := .seq items n, slots := sl } /\ s.heap.get? b = some { cls := .type "tuple", dict := dd2, data := .seq items2 n2, slots := sl2 } /\ R (.ok (.ret (Value.ref b))) s) :=
  .of_wp fun prog w A R s h => by
    obtain ⟨hp, g, d, tk, os⟩ := s
    obtain ⟨hl, hb, h⟩ := h
    have f1 := AutoSeq1.idx_int
    have f2 := AutoSeq1.sub_tuple_tuple
    wp_walk using wpAny_loadPart' hl, wpAny_loadPart' hb
    exact ⟨_, rfl, h⟩
section
variable {X : Cx}
theorem rF : OpR X (binaryOp .Add) (fun x y H Q => ∃ a b xs ys, x = .ref a /\ y = .ref b /\ SqT X.K H a xs /\ SqT X.K H b ys /\ xs.length + ys.length <= sizeLine /\ ∀ p H', aE H H' -> SqT X.K H' p (xs ++ ys) -> Q (.ref p) H') := by
  intro pins s σ H x y v u Q I rx ry h
  obtain ⟨a, b, xs, ys, rfl, rfl, ha, hb, hz, q⟩ := h
  by_cases hx : xs = []
  · subst hx
    cases rx
    cases ry
    obtain ⟨its, r1, ⟨⟨cls, dd, data, sl⟩, ho, hc, n, hd⟩, _⟩ := I.tuple ha
    obtain ⟨its2, r2, ⟨⟨cls2, dd2, data2, sl2⟩, ho2, hc2, n2, hd2⟩, _⟩ := I.tuple hb
    simp only at hc hd hc2 hd2
    subst hc hd hc2 hd2
    cases r1
    exact concat_meets ⟨_, ho, rfl⟩ ⟨_, ho2, rfl⟩ noFill_tuple_add seq_tuple_add PySem.F.slot_tuple_add PySem.F.entry_tuple_add (PySem.F.args_tuple_add_2 _ _)
      (pS a b _ _ n n2 dd dd2 sl sl2 rfl) ⟨ho, ho2, ⟨.ref b, H, I, rfl, q b H (aE.refl H) hb⟩⟩
  · refine aBL pins s σ H _ _ v u Q I rx ry ⟨a, b, xs, ys, rfl, rfl, ha, hb, hx, hz, fun e => ?_, fun e p hp => ?_⟩
    · subst e
      exact q a H (aE.refl H) (by rw [List.append_nil]; exact ha)
    · exact q p _ (aE.new hp) (SqT.of aC)
theorem jY {prog : Program} {w : World} {A : Around} {E : Value -> Shared -> Prop} {s : Shared} {t sl : Addr} {items : Array Value} {vl vu : Value} {lo hi : Option Int} {Q : Value -> Shared -> Prop} (ht : IsTup s.heap t items) (hs : s.heap.IsSliceOf sl vl vu .none) (pl : IsPart vl lo) (pu : IsPart vu hi)
    (hw : HT.sIx items.size 0 lo = 0 /\ HT.sIx items.size items.size hi = items.size) (h : Q (.ref t) s) : wpAny (model prog w) A (getItem (.ref t) (.ref sl)) Q E s := by
  obtain ⟨os, hos, hcs, hds⟩ := id hs
  have hTs : s.TypeIs (.ref sl) "slice" := ⟨os, hos, hcs⟩
  unfold getItem
  try with_reducible refine wpAny_holding ?_
  first | refine wpAny_bind (wpAny_pure ?_) | skip
  refine wpAny_bind (wpAny_sequenceKey ht.typeIs (by decide) ?_)
  refine wpAny_bind (wpAny_callSpecial?_slot (name := Str.ofString "__getitem__") ht.typeIs PyProof.Rows.slot_tuple_getitem
    (wpAny_call_entry PyProof.Rows.slot_tuple_getitem ht.typeIs entry_tuple_getitem ?_ (args_tuple_getitem _ _)))
  refine wpAny_bind (m := Builtin.Tuple.tupleItemsOf (.ref t)) (tupleItemsOf_ ht ?_)
  refine wpAny_bind (wpAny_typeOf hTs ?_)
  rw [if_pos (by decide)]
  refine wpAny_bind (HT.sliceApplied_gen hs pl pu ?_)
  have hyes : (((HT.sIx items.size 0 lo : Nat) : Int) == 0 && (1 : Int) == 1 && (HT.sIx items.size items.size hi - HT.sIx items.size 0 lo) == items.size) = true := by
    rw [hw.1, hw.2]; simp
  show wpAny _ _ (if (((HT.sIx items.size 0 lo : Nat) : Int) == 0 && (1 : Int) == 1 && (HT.sIx items.size items.size hi - HT.sIx items.size 0 lo) == items.size) = true then _ else _) _ _ s
  rw [if_pos hyes]
  unfold Builtin.Tuple.tupleIsExact
  refine wpAny_bind (wpAny_bind (wpAny_typeOf ht.typeIs (wpAny_pure ?_)))
  refine wpAny_ite_split (fun _ => wpAny_bind (wpAny_rule (wpAny_pure ⟨_, rfl, wpAny_pure h⟩))) (fun hab => absurd (by rfl) hab)
theorem xC : SlR X (fun x lo hi H Q => ∃ a xs, x = .ref a /\ SqT X.K H a xs /\ ∀ p H', aE H H' -> SqT X.K H' p (nX xs lo hi) -> Q (.ref p) H') := by
  intro pins s σ H x v vl vu lo hi sl Q I rx hs pl pu h
  obtain ⟨a, xs, rfl, hx, q⟩ := h
  by_cases hw : HT.sIx xs.length 0 lo = 0 /\ HT.sIx xs.length xs.length hi = xs.length
  · cases rx
    obtain ⟨its, r, ht, hz⟩ := I.tuple hx
    have hlen : its.toArray.size = xs.length := by rw [List.size_toArray]; exact r.length.symm
    refine ⟨"tuple", _, PyProof.Rows.slot_tuple_getitem.lookup, ht.typeIs, ?_⟩
    refine jY ht hs pl pu (by rw [hlen]; exact hw) ⟨.ref a, H, I, rfl, q a H (aE.refl H) ?_⟩
    have e : nX xs lo hi = xs := by
      unfold nX
      rw [hw.1, hw.2, List.drop_zero, Nat.sub_zero, List.take_length]
    rw [e]; exact hx
  · exact aCV pins s σ H _ v vl vu lo hi sl Q I rx hs pl pu ⟨a, xs, rfl, hx, hw, fun p hp => q p _ (aE.new hp) (SqT.of aC)⟩
theorem aBP (xs : List V) (k : Nat) : nX xs none (some (k : Int)) = xs.take k := by
  unfold nX
  rw [HT.sIx_none, HT.sIx_nat, List.drop_zero, Nat.sub_zero]
  by_cases h : k <= xs.length
  · rw [Nat.min_eq_left h]
  · rw [Nat.min_eq_right (by omega), List.take_of_length_le (Nat.le_refl _), List.take_of_length_le (by omega)]
theorem yW (xs : List V) (k : Nat) : nX xs (some (k : Int)) none = xs.drop k := by
  unfold nX
  rw [HT.sIx_none, HT.sIx_nat]
  by_cases h : k <= xs.length
  · rw [Nat.min_eq_left h, List.take_of_length_le (by rw [List.length_drop]; exact Nat.le_refl _)]
  · rw [Nat.min_eq_right (by omega), List.drop_of_length_le (Nat.le_refl _), List.drop_of_length_le (by omega), List.take_nil]
end
end L2
set_option Elab.async false
set_option linter.all false
set_option maxRecDepth 100000
namespace L2
open PySem PySem.Spec PyProof.Rows
def mY (N frn : List Str) (fr : List Nat) : Bool := frn.length == fr.length && (frn.zip fr).all fun y => N[y.2]? == some y.1
theorem bI {X : Cx} {scope : Scope} {own frn : List Str} {fr : List Nat} (sc : Scope) (N : List Str) (h1 : X.env.scope = sc) (h2 : X.N = N) (h : (lV sc scope own frn && mY N frn fr) = true) : CompOk X scope own fr frn := by
  rw [Bool.and_eq_true] at h
  obtain ⟨ha, hb⟩ := h
  unfold mY at hb
  simp only [Bool.and_eq_true, beq_iff_eq, List.all_eq_true] at hb
  refine ⟨by rw [h1]; exact ha, fun k x hk => ?_, hb.1.symm⟩
  have hlt : k < fr.length := by rw [<- hb.1]; exact (List.getElem?_eq_some_iff.mp hk).1
  refine ⟨fr[k], List.getElem?_eq_getElem hlt, ?_⟩
  have hm : (x, fr[k]) ∈ frn.zip fr := by
    refine List.mem_of_getElem? (i := k) ?_
    rw [List.getElem?_zip_eq_some]
    exact ⟨hk, List.getElem?_eq_getElem hlt⟩
  rw [h2]
  exact hb.2 _ hm
section
variable {J : It} {own : Nat} {fr : List Nat} {g : TG} {tt : TT} {te : TE} {σ : St} {H : Hp} {Q : Hp -> List V -> Prop}
theorem jO (n : Nat) (hn : n <= sizeLine) (SH : St -> Prop) (Pv : Nat -> List V -> Hp -> Prop) (hσ : SH (blk own fr σ)) (h0 : Pv 0 [] H) (hlen : ∀ i ys H, Pv i ys H -> ys.length <= i)
    (hstop : ∀ ys H, Pv n ys H -> J.stop n H) (hgo : ∀ i ys H, i < n -> Pv i ys H -> J.go i H)
    (hs : ∀ i ys σ x H H', i < n -> SH σ -> Pv i ys H -> J.yld i H x H' -> ys.length < sizeLine -> g x σ H' fun σ2 H2 => tt σ2 H2 fun b H3 => if b = true then te σ2 H3 fun y H4 => ys.length < sizeLine /\ SH σ2 /\ Pv (i + 1) (ys ++ [y]) H4 else SH σ2 /\ Pv (i + 1) ys H3)
    (hd : ∀ ys H, Pv n ys H -> Q H ys) :
    ∃ W : Nat -> Nat -> List V -> St -> Hp -> Prop, (∃ m, W 0 m [] (blk own fr σ) H) /\ ∀ i m ys σ' H, W i m ys σ' H ->
      (J.stop i H /\ Q H ys) ∨
      (J.go i H /\ ∃ N : List V -> St -> Hp -> Prop, (∀ ys' σ2 H2, N ys' σ2 H2 -> ∃ m', m' < m /\ W (i + 1) m' ys' σ2 H2) /\
        ∀ x H', J.yld i H x H' -> g x σ' H' fun σ2 H2 => tt σ2 H2 fun b H3 => if b = true then te σ2 H3 fun y H4 => ys.length < sizeLine /\ N (ys ++ [y]) σ2 H4 else N ys σ2 H3) := by
  refine ⟨fun i m ys σ' H => m = n - i /\ i <= n /\ SH σ' /\ Pv i ys H, ⟨n, by simp, Nat.zero_le _, hσ, h0⟩, ?_⟩
  rintro i m ys σ' H ⟨rfl, hi, sh, p⟩
  by_cases hlt : i < n
  · refine .inr ⟨hgo i ys H hlt p, fun ys' σ2 H2 => SH σ2 /\ Pv (i + 1) ys' H2, fun ys' σ2 H2 ⟨e, q⟩ => ⟨n - (i + 1), by omega, rfl, hlt, e, q⟩, fun x H' y => ?_⟩
    exact hs i ys σ' x H H' hlt sh p y (by have := hlen i ys H p; omega)
  · have e : i = n := by omega
    subst e
    exact .inl ⟨hstop ys H p, hd ys H p⟩
theorem hX {K : PySem.W.Frag} {a : Addr} {xs : List V} (SH : St -> Prop) (Pv : Nat -> List V -> Hp -> Prop) (hn : xs.length <= sizeLine) (hσ : SH (blk own fr σ)) (h0 : Pv 0 [] H) (hlen : ∀ i ys H, Pv i ys H -> ys.length <= i) (hl : ∀ i ys H, Pv i ys H -> SqT K H a xs)
    (hs : ∀ i ys σ x H, xs[i]? = some x -> SH σ -> Pv i ys H -> ys.length < sizeLine -> g x σ H fun σ2 H2 => tt σ2 H2 fun b H3 => if b = true then te σ2 H3 fun y H4 => ys.length < sizeLine /\ SH σ2 /\ Pv (i + 1) (ys ++ [y]) H4 else SH σ2 /\ Pv (i + 1) ys H3)
    (hd : ∀ ys H, Pv xs.length ys H -> Q H ys) :
    ∃ W : Nat -> Nat -> List V -> St -> Hp -> Prop, (∃ m, W 0 m [] (blk own fr σ) H) /\ ∀ i m ys σ' H, W i m ys σ' H ->
      ((Itt K a).stop i H /\ Q H ys) ∨
      ((Itt K a).go i H /\ ∃ N : List V -> St -> Hp -> Prop, (∀ ys' σ2 H2, N ys' σ2 H2 -> ∃ m', m' < m /\ W (i + 1) m' ys' σ2 H2) /\
        ∀ x H', (Itt K a).yld i H x H' -> g x σ' H' fun σ2 H2 => tt σ2 H2 fun b H3 => if b = true then te σ2 H3 fun y H4 => ys.length < sizeLine /\ N (ys ++ [y]) σ2 H4 else N ys σ2 H3) := by
  refine jO xs.length hn SH Pv hσ h0 hlen (fun ys H p => ⟨xs, hl _ _ _ p, Nat.le_refl _⟩) (fun i ys H hi p => ⟨xs, xs[i], hl _ _ _ p, List.getElem?_eq_getElem hi⟩) (fun i ys σ x H H' hi sh p y hz => ?_) hd
  obtain ⟨e, y⟩ := y
  subst e
  exact hs i ys σ x _ (y xs (hl _ _ _ p)) sh p hz
theorem yX {K : PySem.W.Frag} {a : Addr} {xs : List V} (SH : St -> Prop) (Pv : Nat -> List V -> Hp -> Prop) (hn : xs.length <= sizeLine) (hσ : SH (blk own fr σ)) (h0 : Pv 0 [] H) (hlen : ∀ i ys H, Pv i ys H -> ys.length <= i) (hl : ∀ i ys H, Pv i ys H -> SqL K H a xs)
    (hs : ∀ i ys σ x H, xs[i]? = some x -> SH σ -> Pv i ys H -> ys.length < sizeLine -> g x σ H fun σ2 H2 => tt σ2 H2 fun b H3 => if b = true then te σ2 H3 fun y H4 => ys.length < sizeLine /\ SH σ2 /\ Pv (i + 1) (ys ++ [y]) H4 else SH σ2 /\ Pv (i + 1) ys H3)
    (hd : ∀ ys H, Pv xs.length ys H -> Q H ys) :
    ∃ W : Nat -> Nat -> List V -> St -> Hp -> Prop, (∃ m, W 0 m [] (blk own fr σ) H) /\ ∀ i m ys σ' H, W i m ys σ' H ->
      ((Itl K a).stop i H /\ Q H ys) ∨
      ((Itl K a).go i H /\ ∃ N : List V -> St -> Hp -> Prop, (∀ ys' σ2 H2, N ys' σ2 H2 -> ∃ m', m' < m /\ W (i + 1) m' ys' σ2 H2) /\
        ∀ x H', (Itl K a).yld i H x H' -> g x σ' H' fun σ2 H2 => tt σ2 H2 fun b H3 => if b = true then te σ2 H3 fun y H4 => ys.length < sizeLine /\ N (ys ++ [y]) σ2 H4 else N ys σ2 H3) := by
  refine jO xs.length hn SH Pv hσ h0 hlen (fun ys H p => ⟨xs, hl _ _ _ p, Nat.le_refl _⟩) (fun i ys H hi p => ⟨xs, xs[i], hl _ _ _ p, List.getElem?_eq_getElem hi⟩) (fun i ys σ x H H' hi sh p y hz => ?_) hd
  obtain ⟨e, y⟩ := y
  subst e
  exact hs i ys σ x _ (y xs (hl _ _ _ p)) sh p hz
theorem fM {lo : Int} {n : Nat} (SH : St -> Prop) (Pv : Nat -> List V -> Hp -> Prop) (hn : n <= sizeLine) (hσ : SH (blk own fr σ)) (h0 : Pv 0 [] H) (hlen : ∀ i ys H, Pv i ys H -> ys.length <= i)
    (hs : ∀ i ys σ H, i < n -> SH σ -> Pv i ys H -> ys.length < sizeLine -> g (.int (lo + i)) σ H fun σ2 H2 => tt σ2 H2 fun b H3 => if b = true then te σ2 H3 fun y H4 => ys.length < sizeLine /\ SH σ2 /\ Pv (i + 1) (ys ++ [y]) H4 else SH σ2 /\ Pv (i + 1) ys H3)
    (hd : ∀ ys H, Pv n ys H -> Q H ys) :
    ∃ W : Nat -> Nat -> List V -> St -> Hp -> Prop, (∃ m, W 0 m [] (blk own fr σ) H) /\ ∀ i m ys σ' H, W i m ys σ' H ->
      ((Itr lo n).stop i H /\ Q H ys) ∨
      ((Itr lo n).go i H /\ ∃ N : List V -> St -> Hp -> Prop, (∀ ys' σ2 H2, N ys' σ2 H2 -> ∃ m', m' < m /\ W (i + 1) m' ys' σ2 H2) /\
        ∀ x H', (Itr lo n).yld i H x H' -> g x σ' H' fun σ2 H2 => tt σ2 H2 fun b H3 => if b = true then te σ2 H3 fun y H4 => ys.length < sizeLine /\ N (ys ++ [y]) σ2 H4 else N ys σ2 H3) := by
  refine jO n hn SH Pv hσ h0 hlen (fun ys H p => Nat.le_refl _) (fun i ys H hi p => hi) (fun i ys σ x H H' hi sh p y hz => ?_) hd
  obtain ⟨e, y⟩ := y
  subst e y
  exact hs i ys σ _ hi sh p hz
theorem sY {K : PySem.W.Frag} {k1 k2 : Sk} {a b : Addr} {xs ys : List V} (SH : St -> Prop) (Pv : Nat -> List V -> Hp -> Prop) (hn : xs.length <= sizeLine) (heq : xs.length = ys.length) (hσ : SH (blk own fr σ)) (h0 : Pv 0 [] H) (hlen : ∀ i zs H, Pv i zs H -> zs.length <= i) (hl : ∀ i zs H, Pv i zs H -> SqK k1 K H a xs /\ SqK k2 K H b ys)
    (hs : ∀ i zs σ x y p H, xs[i]? = some x -> ys[i]? = some y -> SH σ -> Pv i zs H -> H p = none -> zs.length < sizeLine -> g (.ref p) σ (upd H p (.tup [x, y])) fun σ2 H2 => tt σ2 H2 fun c H3 => if c = true then te σ2 H3 fun y H4 => zs.length < sizeLine /\ SH σ2 /\ Pv (i + 1) (zs ++ [y]) H4 else SH σ2 /\ Pv (i + 1) zs H3)
    (hd : ∀ zs H, Pv xs.length zs H -> Q H zs) :
    ∃ W : Nat -> Nat -> List V -> St -> Hp -> Prop, (∃ m, W 0 m [] (blk own fr σ) H) /\ ∀ i m ys σ' H, W i m ys σ' H ->
      ((Itz K k1 k2 a b).stop i H /\ Q H ys) ∨
      ((Itz K k1 k2 a b).go i H /\ ∃ N : List V -> St -> Hp -> Prop, (∀ ys' σ2 H2, N ys' σ2 H2 -> ∃ m', m' < m /\ W (i + 1) m' ys' σ2 H2) /\
        ∀ x H', (Itz K k1 k2 a b).yld i H x H' -> g x σ' H' fun σ2 H2 => tt σ2 H2 fun b H3 => if b = true then te σ2 H3 fun y H4 => ys.length < sizeLine /\ N (ys ++ [y]) σ2 H4 else N ys σ2 H3) := by
  refine jO xs.length hn SH Pv hσ h0 hlen (fun zs H p => ⟨xs, ys, (hl _ _ _ p).1, (hl _ _ _ p).2, by rw [<- heq, Nat.min_self]⟩) (fun i zs H hi p => ⟨xs, ys, xs[i], ys[i]'(by omega), (hl _ _ _ p).1, (hl _ _ _ p).2, List.getElem?_eq_getElem hi, List.getElem?_eq_getElem (by omega)⟩) (fun i zs σ v H H' hi sh p y hz => ?_) hd
  obtain ⟨q, hq, rfl, hy⟩ := y
  obtain ⟨x, y, h1, h2, rfl⟩ := hy xs ys (hl _ _ _ p).1 (hl _ _ _ p).2
  exact hs i zs σ x y q H h1 h2 sh p hq hz
end
end L2
set_option Elab.async false
set_option linter.all false
set_option maxRecDepth 100000
namespace L2
open PySem PySem.Spec PyProof.Rows
section
variable {X : Cx}
def aDL (i j : Int) : Prop := 0 < j /\ j < 1267650600228229401496703205376
theorem aAA : OpR X (binaryOp .FloorDiv) (rI aDL fun i j => .int (i / j)) := opI fun i j _ _ _ _ _ hc q => by
  have h1 : (0 : Int) < j := hc.1
  have h2 : j < 1267650600228229401496703205376 := hc.2
  refine floordiv_int (by omega) (by rw [Int.fdiv_eq_ediv_of_nonneg i (by omega)]; exact q) (.inl (PyProof.noPylong_of_log2 ?_))
  have h3 : j.natAbs.log2 < 100 := (Nat.log2_lt (by omega)).mpr (by omega)
  omega
theorem lX {prog : Program} {w : World} {A : Around} {E : Value -> Shared -> Prop} {s : Shared} {sl : Addr} {tk : Tok} {n : Nat} {Q : Int × Int × Nat -> Shared -> Prop} (hs : s.heap.IsSliceOf sl .none .none (.int (-1) tk))
    (h : Q ((n : Int) - 1, -1, n) s) : wpAny (model prog w) A (Builtin.Slice.sliceApplied (.ref sl) (pure (n : Int))) Q E s := by
  obtain ⟨os, hos, hcs, hds⟩ := id hs
  unfold Builtin.Slice.sliceApplied Builtin.Slice.sliceFields
  refine wpAny_bind (wpAny_bind (wpAny_field hos hds (x := .none) rfl (wpAny_bind (wpAny_field hos hds (x := .none) rfl (wpAny_bind (wpAny_field hos hds (x := .int (-1) tk) rfl (wpAny_pure ?_)))))))
  refine wpAny_bind (HT.slicePart_ (.int (-1) tk) ?_)
  show wpAny _ _ (if ((-1 : Int) == 0) = true then _ else _) _ _ s
  rw [if_neg (by decide)]
  refine wpAny_bind (HT.slicePart_ .none (wpAny_bind (HT.slicePart_ .none (wpAny_bind (wpAny_pure ?_)))))
  show wpAny _ _ (match Builtin.Slice.sliceAdjust none none (-1) (n : Int) with | (lo, hi) => pure (lo, (-1 : Int), Builtin.Slice.slicePlaces lo hi (-1))) _ _ s
  have e : Builtin.Slice.sliceAdjust none none (-1) (n : Int) = ((n : Int) - 1, -1) := by simp [Builtin.Slice.sliceAdjust]
  rw [e]
  have e2 : Builtin.Slice.slicePlaces ((n : Int) - 1) (-1) (-1) = n := by
    unfold Builtin.Slice.slicePlaces
    rw [if_neg (by decide)]
    by_cases h0 : n = 0
    · subst h0; decide
    · rw [if_pos (by omega)]
      have : ((n : Int) - 1 - -1 - 1) / (- -1) + 1 = n := by rw [show (- -1 : Int) = 1 from rfl, Int.ediv_one]; omega
      rw [this]; simp
  show wpAny _ _ (pure ((n : Int) - 1, (-1 : Int), Builtin.Slice.slicePlaces ((n : Int) - 1) (-1) (-1))) _ _ s
  rw [e2]
  exact wpAny_pure h
theorem sZ {α β : Type} {f g : α -> Option β} : ∀ {l : List α}, (∀ x ∈ l, f x = g x) -> l.filterMap f = l.filterMap g
  | [], _ => rfl
  | x :: r, h => by rw [List.filterMap_cons, List.filterMap_cons, h x (List.mem_cons_self ..), sZ fun y hy => h y (List.mem_cons_of_mem _ hy)]
theorem tD (xs : Array Value) : ((List.range xs.size).filterMap fun (k : Nat) => xs[((xs.size : Int) - 1 + (k : Int) * (-1)).toNat]?).toArray = xs.toList.reverse.toArray := by
  have h := HT.pick_gen xs.toList.reverse.toArray 0 xs.size
  have e : (List.range xs.size).filterMap (fun (k : Nat) => xs[((xs.size : Int) - 1 + (k : Int) * (-1)).toNat]?) = (List.range xs.size).filterMap (fun (m : Nat) => xs.toList.reverse.toArray[(((0 : Nat) : Int) + (m : Int) * 1).toNat]?) := by
    refine sZ fun k hk => ?_
    have hk' := List.mem_range.mp hk
    have h1 : ((xs.size : Int) - 1 + (k : Int) * (-1)).toNat = xs.size - 1 - k := by omega
    have h2 : (((0 : Nat) : Int) + (k : Int) * 1).toNat = k := by omega
    rw [h1, h2]
    simp only [List.getElem?_toArray]
    rw [List.getElem?_reverse (by simpa using hk')]
    simp
  rw [e, h]
  congr 1
  rw [List.drop_zero, List.take_of_length_le (by simp)]
theorem kW {prog : Program} {w : World} {A : Around} {E : Value -> Shared -> Prop} {s : Shared} {t sl : Addr} {items : Array Value} {tk : Tok} {Q : Value -> Shared -> Prop} (ht : IsTup s.heap t items) (hs : s.heap.IsSliceOf sl .none .none (.int (-1) tk))
    (h : Q (.ref s.heap.objs.size) { s with heap := s.heap.push { cls := .type "tuple", data := .seq items.toList.reverse.toArray } }) (hsz : items.size <= sizeLine) : wpAny (model prog w) A (getItem (.ref t) (.ref sl)) Q E s := by
  have htake : sizeOk (.seq items.toList.reverse.toArray) := by
    show items.toList.reverse.toArray.size <= sizeLine
    rw [List.size_toArray, List.length_reverse, Array.length_toList]
    exact hsz
  obtain ⟨os, hos, hcs, hds⟩ := id hs
  have hTs : s.TypeIs (.ref sl) "slice" := ⟨os, hos, hcs⟩
  unfold getItem
  try with_reducible refine wpAny_holding ?_
  first | refine wpAny_bind (wpAny_pure ?_) | skip
  refine wpAny_bind (wpAny_sequenceKey ht.typeIs (by decide) ?_)
  refine wpAny_bind (wpAny_callSpecial?_slot (name := Str.ofString "__getitem__") ht.typeIs PyProof.Rows.slot_tuple_getitem
    (wpAny_call_entry PyProof.Rows.slot_tuple_getitem ht.typeIs entry_tuple_getitem ?_ (args_tuple_getitem _ _)))
  refine wpAny_bind (m := Builtin.Tuple.tupleItemsOf (.ref t)) (tupleItemsOf_ ht ?_)
  refine wpAny_bind (wpAny_typeOf hTs ?_)
  rw [if_pos (by decide)]
  refine wpAny_bind (lX hs ?_)
  have hno : ¬ ((((items.size : Int) - 1) == 0 && (-1 : Int) == 1 && items.size == items.size) = true) := by simp
  show wpAny _ _ (if (((items.size : Int) - 1) == 0 && (-1 : Int) == 1 && items.size == items.size) = true then _ else _) _ _ s
  rw [if_neg hno, tD]
  first
    | exact wpAny_bind (m := Builtin.Tuple.tupleExact _) (wpAny_newObj_type (wpAny_pure ⟨_, rfl, wpAny_pure h⟩) htake)
    | exact wpAny_bind (m := Builtin.Tuple.tupleExact _) (wpAny_newObj_type (wpAny_bind (wpAny_pure (wpAny_pure ⟨_, rfl, wpAny_pure h⟩))) htake)
    | exact wpAny_bind (wpAny_bind (m := Builtin.Tuple.tupleExact _) (wpAny_newObj_type (wpAny_pure (wpAny_pure ⟨_, rfl, wpAny_pure h⟩)) htake))
    | exact wpAny_bind (wpAny_bind (m := Builtin.Tuple.tupleExact _) (wpAny_newObj_type (wpAny_pure ⟨_, rfl, wpAny_pure h⟩) htake))
def aEl (K : PySem.W.Frag) (te ts : TE) : TE := fun σ H Q => te σ H fun x H1 => ts σ H1 fun y H2 => y = .int (-1) /\ ∃ a xs, x = .ref a /\ SqT K H2 a xs /\ ∀ p, H2 p = none -> Q (.ref p) (upd H2 p (.tup xs.reverse))
theorem aAB {e st : Expr} {te ts : TE} {pos p2 : Pos} (he : PE X e te) (hst : PE X st ts) : PE X (.Subscript e (.Slice none none (some st) p2) pos) (aEl X.K te ts) := by
  intro pins s σ H Q I h
  refine Subscript_ (thn (he pins s σ H _ I h) fun v s1 hx9 => ?_)
  obtain ⟨x, H1, I1, r1, q1⟩ := hx9
  refine wpAny_Slice ?_
  rw [evalPart_none]
  refine wpAny_pure ?_
  show wpAny _ _ (evalPart none X.env) _ _ s1
  rw [evalPart_none]
  refine wpAny_pure ?_
  show wpAny _ _ (evalPart (some st) X.env) _ _ s1
  rw [evalPart_some]
  refine thn (hst pins s1 σ H1 _ I1 q1) fun vst s3 hx9 => ?_
  obtain ⟨y, H3, I3, r3, q3⟩ := hx9
  obtain ⟨rfl, a, xs, rfl, hx, q⟩ := q3
  obtain ⟨tk, rfl⟩ := r3
  cases r1
  have I4 : Inv X pins σ H3 { s3 with heap := s3.heap.push { cls := .type "slice", data := .fields #[.none, .none, .int (-1) tk] } } := I3.kept (t' := s3.toks) fun b ob q => Heap.get?_push_of_some _ q
  obtain ⟨its, r, ht, hz⟩ := I4.tuple hx
  have hlen := r.length
  have hg : wpAny (model X.prog X.w) X.A (getItem (.ref a) (.ref s3.heap.objs.size)) (EP X pins σ Q) X.xe { s3 with heap := s3.heap.push { cls := .type "slice", data := .fields #[.none, .none, .int (-1) tk] } } := by
    refine kW ht (Heap.IsSliceOf.new ..) ?_ (by rw [List.size_toArray]; omega)
    refine ⟨.ref _, _, I4.laid (t' := s3.toks) (o := .tup xs.reverse) (fun b ob q => Heap.get?_push_of_some _ q) (Nat.le_refl _) ?_, rfl, q _ (I4.hok.fresh (Nat.le_refl _))⟩
    exact ⟨by rw [List.length_reverse]; exact hz, its.reverse, 0, r.reverse, Heap.get?_push_size _ rfl⟩
  show wpAny (model X.prog X.w) X.A (subscriptTail e (.Slice none none (some st) p2) (.ref a) (.ref s3.heap.objs.size)) (EP X pins σ Q) X.xe { s3 with heap := s3.heap.push { cls := .type "slice", data := .fields #[.none, .none, .int (-1) tk] } }
  exact tail_any (ops := [.ref a, .ref s3.heap.objs.size]) ht.typeIs PyProof.Rows.slot_tuple_getitem.lookup hg (by with_unfolding_all rfl)
end
end L2
set_option Elab.async false
set_option linter.all false
set_option maxRecDepth 100000
namespace L2
open PySem PySem.Spec PyProof.Rows
def Vw (S : List Addr) (H : Hp) : Hp := fun b => if b ∈ S then none else H b
theorem Vw.out {S : List Addr} {H : Hp} {b : Addr} (n : b ∉ S) : Vw S H b = H b := by unfold Vw; rw [if_neg n]
theorem Vw.sub {S : List Addr} {H : Hp} : aE (Vw S H) H := fun b o h => by
  by_cases z : b ∈ S
  · unfold Vw at h; rw [if_pos z] at h; cases h
  · rw [Vw.out z] at h; exact h
theorem Vw.keep {S : List Addr} {H H' : Hp} (e : ∀ b o, b ∉ S -> H b = some o -> H' b = some o) : aE (Vw S H) (Vw S H') := fun b o h => by
  by_cases z : b ∈ S
  · unfold Vw at h; rw [if_pos z] at h; cases h
  · rw [Vw.out z] at h ⊢; exact e b o z h
theorem Vw.same {S : List Addr} {H H' : Hp} (e : aE H H') : aE (Vw S H) (Vw S H') := Vw.keep fun b o _ h => e b o h
def Fx (S : List Addr) (H : Hp) : Prop := ∀ b ∈ S, ∃ xs, H b = some (.lst xs)
theorem Fx.same {S : List Addr} {H H' : Hp} (f : Fx S H) (e : aE H H') : Fx S H' := fun b hb => let ⟨xs, h⟩ := f b hb; ⟨xs, e b _ h⟩
theorem Fx.new {S : List Addr} {H : Hp} {p : Addr} (f : Fx S H) (h : H p = none) : p ∉ S := fun z => by
  obtain ⟨xs, q⟩ := f p z
  rw [q] at h; cases h
theorem Fx.nil {H : Hp} : Fx [] H := fun _ h => (List.not_mem_nil h).elim
section
variable {K : PySem.W.Frag} {S : List Addr} {H H' H0 : Hp}
theorem Fx.seqT {a : Addr} {xs : List V} (f : Fx S H) (h : SqT K H a xs) : SqT K (Vw S H) a xs := by
  rcases h with (h | ⟨o, h⟩) | h
  · exact .inl (.inl (by rw [Vw.out fun z => by obtain ⟨ys, q⟩ := f a z; rw [q] at h; cases h]; exact h))
  · exact .inl (.inr ⟨o, by rw [Vw.out fun z => by obtain ⟨ys, q⟩ := f a z; rw [q] at h; cases h]; exact h⟩)
  · exact .inr h
theorem Vw.at {p : Addr} {o : HO} (f : Fx S H) (h : H p = none) : Vw S (upd H p o) p = some o := by rw [Vw.out (f.new h)]; exact aC
def Dn (K : PySem.W.Frag) (S : List Addr) (H : Hp) (x : V) : Prop := ∃ d, Den K (Vw S H) d x
def DT (K : PySem.W.Frag) (S : List Addr) (n : Nat) (H : Hp) (x : V) : Prop := ∃ a xs, x = .ref a /\ SqT K (Vw S H) a xs /\ xs.length <= n /\ ∀ y ∈ xs, Dn K S H y
def II (_ : Hp) (x : V) : Prop := ∃ i, x = .int i
class Mo (R : Hp -> V -> Prop) : Prop where
  mo : ∀ {H H' : Hp} {v : V}, aE H H' -> R H v -> R H' v
theorem Dn.keep {x : V} (h : Dn K S H x) (e : aE (Vw S H) (Vw S H')) : Dn K S H' x := let ⟨d, h⟩ := h; ⟨d, e.den _ _ h⟩
theorem Dn.same {x : V} (h : Dn K S H x) (e : aE H H') : Dn K S H' x := h.keep (Vw.same e)
theorem DT.keep {n : Nat} {x : V} (h : DT K S n H x) (e : aE (Vw S H) (Vw S H')) : DT K S n H' x := let ⟨a, xs, h1, h2, h3, h4⟩ := h; ⟨a, xs, h1, e.seqT h2, h3, fun y hy => (h4 y hy).keep e⟩
theorem DT.same {n : Nat} {x : V} (h : DT K S n H x) (e : aE H H') : DT K S n H' x := h.keep (Vw.same e)
instance : Mo (Dn K S) := ⟨fun e h => Dn.same h e⟩
instance {n : Nat} : Mo (DT K S n) := ⟨fun e h => DT.same h e⟩
instance : Mo II := ⟨fun _ h => h⟩
theorem aAC (i : Int) : Dn K S H (.int i) := ⟨.int i, eI.mpr rfl⟩
theorem II.dn {x : V} (h : II H x) : Dn K S H x := let ⟨i, h⟩ := h; h ▸ aAC i
theorem aAD : ∀ {xs : List V}, (∀ x ∈ xs, Dn K S H x) -> ∃ ds, aR K (Vw S H) ds xs
  | [], _ => ⟨[], bB.mpr rfl⟩
  | x :: r, h => by
    obtain ⟨d, hd⟩ := h x (List.mem_cons_self ..)
    obtain ⟨ds, hds⟩ := aAD (xs := r) fun y hy => h y (List.mem_cons_of_mem _ hy)
    exact ⟨d :: ds, aS.mpr ⟨x, r, rfl, hd, hds⟩⟩
theorem DT.dn {n : Nat} {x : V} (h : DT K S n H x) : Dn K S H x := by
  obtain ⟨a, xs, rfl, h2, _, h4⟩ := h
  obtain ⟨ds, hds⟩ := aAD h4
  exact ⟨.tuple ds, cK.mpr ⟨a, xs, rfl, h2, hds⟩⟩
theorem aBQ {l : List Int} : ∀ x ∈ l.map V.int, Dn K S H x := fun x hx => by
  obtain ⟨i, _, rfl⟩ := List.mem_map.mp hx
  exact aAC i
theorem DT.ints {a : Addr} {l : List Int} {n : Nat} (f : Fx S H) (h : SqT K H a (l.map V.int)) (hn : l.length <= n) : DT K S n H (.ref a) := ⟨a, _, rfl, f.seqT h, by rw [List.length_map]; exact hn, aBQ⟩
def Al (H0 : Hp) (S : List Addr) (te : TE) (σ : St) (R : Hp -> V -> Prop) : Prop := ∀ H, aE H0 H -> Fx S H -> ∀ Q : VK, (∀ v H', aE H H' -> R H' v -> Q v H') -> te σ H Q
variable {σ : St} {R R' : Hp -> V -> Prop} {te ta tb ts : TE} {t tr : TA} {tl th : TO}
theorem Al.mono (h : Al H0 S te σ R) (m : ∀ H v, R H v -> R' H v) : Al H0 S te σ R' := fun H s f Q k => h H s f Q fun v H' s' r => k v H' s' (m H' v r)
theorem Al.i (h : Al H0 S te σ II) : Al H0 S te σ (Dn K S) := h.mono fun _ _ r => r.dn
theorem Al.d {n : Nat} (h : Al H0 S te σ (DT K S n)) : Al H0 S te σ (Dn K S) := h.mono fun _ _ r => r.dn
instance {a : Addr} {xs : List V} : Mo (fun H v => v = .ref a /\ SqT K H a xs) := ⟨fun e h => ⟨h.1, e.seqT h.2⟩⟩
instance {x : V} : Mo (fun _ v => v = x) := ⟨fun _ h => h⟩
end
end L2
set_option Elab.async false
set_option linter.all false
set_option maxRecDepth 100000
namespace L2
open PySem PySem.Spec PyProof.Rows
open PySem.AutoSeq1 (wpAny_loadPart')
theorem nf {b : Bool} (h : b = false) : decide (b = true) = false := by rw [h]; rfl
theorem nt {b : Bool} (h : b = true) : decide (b = true) = true := by rw [h]; rfl
theorem oF (l : Addr) (items : Array Value) (n : Nat) (dd : Option Addr) (sl : Array (Option Value)) (x : Int) (u : Tok) (h1 : 1 < x) (h2 : x <= 1000) (hne : items.isEmpty = false) (hz : items.size <= 1000) :
    Meets (Builtin.«tuple.__mul__» ⟨[.ref l, .int x u], []⟩) (fun _ R s => s.heap.get? l = some { cls := .type "tuple", dict := dd, data := .seq items n, slots := sl } /\ R (.ok (.ret (Value.ref s.heap.objs.size))) { s with heap := s.heap.push { cls := Value.type "tuple", data := Data.seq (List.foldl (fun x1 x2 => x1 ++ x2) #[] (List.replicate x.toNat items)) }, toks := s.toks }) :=
  .of_wp fun prog w A R s h => by
    obtain ⟨hp, g, d, tk, os⟩ := s
    obtain ⟨hl, h⟩ := h
    have f1 := AutoSeq1.idx_int
    have f2 := AutoSeq1.sub_tuple_tuple
    wp_walk using wpAny_loadPart' hl
    refine wpAny_ite_false (nf (show (decide (x < -2 ^ 63) || decide (x ≥ 2 ^ 63)) = false from by rw [decide_eq_false (show ¬ x < -2 ^ 63 by omega), decide_eq_false (show ¬ x ≥ 2 ^ 63 by omega)]; rfl)) ?_
    wp_walk using wpAny_loadPart' hl
    refine wpAny_ite_false (nf (show (items.isEmpty || x == 1) = false from by rw [hne, beq_eq_false_iff_ne.mpr (show x ≠ 1 by omega)]; rfl)) ?_
    wp_walk using wpAny_loadPart' hl
    refine wpAny_ite_false (nf (show (decide (x <= 0) || items.isEmpty) = false from by rw [hne, decide_eq_false (show ¬ x <= 0 by omega)]; rfl)) ?_
    wp_walk using wpAny_loadPart' hl
    have hm : (items.size : Int) * x <= 1000 * 1000 := Int.mul_le_mul (by omega) h2 (by omega) (by omega)
    refine wpAny_ite_false (decide_eq_false (show ¬ (items.size : Int) * x > (2 ^ 63 - 1) / 8 by omega)) ?_
    wp_walk using wpAny_loadPart' hl
    refine wpAny_ite_false (nf (show decide ((items.size : Int) * x > (sizeLine : Int)) = false from decide_eq_false (by rw [sizeLine_eq]; omega))) ?_
    have hsz : ¬ (List.foldl (fun x1 x2 => x1 ++ x2) #[] (List.replicate x.toNat items)).size > sizeLine := by
      have e := jN items.toList x.toNat []
      rw [List.nil_append] at e
      have e2 : List.foldl (fun x1 x2 => x1 ++ x2) #[] (List.replicate x.toNat items) = (List.replicate x.toNat items.toList).flatten.toArray := e
      rw [e2, List.size_toArray, rC, Array.length_toList, sizeLine_eq]
      have : x.toNat * items.size <= 1000 * 1000 := Nat.mul_le_mul (by omega) hz
      omega
    wp_walk using wpAny_loadPart' hl
    exact ⟨_, rfl, h⟩
theorem oG (l : Addr) (items : Array Value) (n : Nat) (dd : Option Addr) (sl : Array (Option Value)) (x : Int) (u : Tok) (h1 : 1 < x) (h2 : x <= 1000) (hne : items.isEmpty = true) :
    Meets (Builtin.«tuple.__mul__» ⟨[.ref l, .int x u], []⟩) (fun _ R s => s.heap.get? l = some { cls := .type "tuple", dict := dd, data := .seq items n, slots := sl } /\ R (.ok (.ret (Value.ref l))) s) :=
  .of_wp fun prog w A R s h => by
    obtain ⟨hp, g, d, tk, os⟩ := s
    obtain ⟨hl, h⟩ := h
    have f1 := AutoSeq1.idx_int
    have f2 := AutoSeq1.sub_tuple_tuple
    wp_walk using wpAny_loadPart' hl
    refine wpAny_ite_false (nf (show (decide (x < -2 ^ 63) || decide (x ≥ 2 ^ 63)) = false from by rw [decide_eq_false (show ¬ x < -2 ^ 63 by omega), decide_eq_false (show ¬ x ≥ 2 ^ 63 by omega)]; rfl)) ?_
    wp_walk using wpAny_loadPart' hl
    exact ⟨_, rfl, h⟩
theorem iA : fillsNumberSlot (.type "tuple") "mul" = pure false :=
  PySem.fillsNumberSlot_seq (id := "tuple.__mul__") (r := some (.builtin "tuple.__rmul__")) PySem.F.slot_tuple_mul.lookup (by decide +kernel) PySem.F.slot_tuple_rmul.lookup (by decide +kernel)
theorem kX : seqRepeat? (.type "tuple") = pure (some (.builtin "tuple.__mul__")) := by
  unfold seqRepeat?
  rw [PySem.seqSlot_of (T := "tuple") (name := "__mul__") (id := "tuple.__mul__") PySem.F.slot_tuple_mul.lookup (by decide +kernel), PySem.seqSlot_of (T := "tuple") (name := "__rmul__") (id := "tuple.__rmul__") PySem.F.slot_tuple_rmul.lookup (by decide +kernel)]
  rfl
theorem jI (a : Int) (t : Tok) (l : Addr) (items : Array Value) (n : Nat) (dd : Option Addr) (sl : Array (Option Value)) :
    Meets (Builtin.«int.__rmul__» ⟨[.int a t, .ref l], []⟩) (fun _ R s => s.heap.get? l = some { cls := .type "tuple", dict := dd, data := .seq items n, slots := sl } /\ R (.ok (.ret Value.notImplemented)) s) :=
  .of_wp fun prog w A R s h => by
    obtain ⟨hp, g, d, tk, os⟩ := s
    obtain ⟨hl, h⟩ := h
    wp_walk using wpAny_loadPart' hl
    exact ⟨_, rfl, h⟩
def aDM (K : PySem.W.Frag) : R2 := fun x y H Q => ∃ a k xs, x = .ref a /\ y = .int k /\ SqT K H a xs /\ 1 < k /\ k <= 1000 /\ xs.length <= 1000 /\ ∀ p H', aE H H' -> SqT K H' p (List.replicate k.toNat xs).flatten -> Q (.ref p) H'
theorem aBR {X : Cx} {K : PySem.W.Frag} (hK : X.K = K) : OpR X (binaryOp .Mult) (aDM K) := by
  subst hK
  intro pins s σ H x y v u Q I rx ry h
  obtain ⟨a, k, xs, rfl, rfl, ha, h1, h2, hz, q⟩ := h
  cases rx
  obtain ⟨t, rfl⟩ := ry
  obtain ⟨its, r, ⟨⟨cls, dd, data, sl⟩, ho, hc, n, hd⟩, hzz⟩ := I.tuple ha
  simp only at hc hd
  subst hc hd
  have hl := r.length
  refine wpAny_binaryOp_repeat_ref (T := "tuple") (U := "int") (by decide) ⟨_, ho, rfl⟩ (fun s' => typeIs_int s' k t) iA PySem.F.fills_int_mul PySem.F.slot_int_rmul kX PySem.F.slot_int_index.lookup
    (call_meets PySem.F.slot_int_rmul (typeIs_int s k t) PySem.F.entry_int_rmul (PySem.F.args_int_rmul_2 _ _) (jI k t a its.toArray n dd sl) ⟨ho, rfl, ⟨_, ho, rfl⟩, ?_⟩)
  by_cases hx : xs = []
  · subst hx
    cases r
    refine call_meets PySem.F.slot_tuple_mul ⟨_, ho, rfl⟩ PySem.F.entry_tuple_mul (PySem.F.args_tuple_mul_2 _ _) (oG a _ n dd sl k t h1 h2 rfl) ⟨ho, ?_⟩
    exact ⟨.ref a, H, I, rfl, q a H (aE.refl H) (by rw [List.flatten_replicate_nil]; exact ha)⟩
  · have hne : its.toArray.isEmpty = false := by
      cases its with
      | nil => cases r; exact absurd rfl hx
      | cons _ _ => rfl
    refine call_meets PySem.F.slot_tuple_mul ⟨_, ho, rfl⟩ PySem.F.entry_tuple_mul (PySem.F.args_tuple_mul_2 _ _) (oF a its.toArray n dd sl k t h1 h2 hne (by rw [List.size_toArray]; omega)) ⟨ho, ?_⟩
    have hnew : List.foldl (fun x1 x2 => x1 ++ x2) #[] (List.replicate k.toNat its.toArray) = (List.replicate k.toNat its).flatten.toArray := by
      have := jN its k.toNat []
      rw [List.nil_append] at this
      exact this
    rw [hnew]
    have hlen : (List.replicate k.toNat xs).flatten.length <= sizeLine := by
      rw [rC, sizeLine_eq]
      have : k.toNat * xs.length <= 1000 * 1000 := Nat.mul_le_mul (by omega) hz
      omega
    refine ⟨.ref _, _, I.laid (t' := s.toks) (o := .tup (List.replicate k.toNat xs).flatten) (fun b ob q => Heap.get?_push_of_some _ q) (Nat.le_refl _) ?_, rfl, q _ _ (aE.new (I.hok.fresh (Nat.le_refl _))) (SqT.of aC)⟩
    exact ⟨hlen, (List.replicate k.toNat its).flatten, 0, r.rep k.toNat, Heap.get?_push_size _ rfl⟩
section
variable {X : Cx} {pins : List (Addr × Obj)} {σ : St} {H : Hp} {s : Shared}
end
section
variable {K : PySem.W.Frag} {S : List Addr} {H H' H0 : Hp} {E E' : Hp -> V -> Prop}
def DTe (K : PySem.W.Frag) (S : List Addr) (E : Hp -> V -> Prop) (n : Nat) (H : Hp) (x : V) : Prop := ∃ a xs, x = .ref a /\ SqT K (Vw S H) a xs /\ xs.length <= n /\ ∀ y ∈ xs, E H y
def LTe (S : List Addr) (E : Hp -> V -> Prop) (n : Nat) (H : Hp) (x : V) : Prop := ∃ a xs, x = .ref a /\ Vw S H a = some (.lst xs) /\ xs.length <= n /\ ∀ y ∈ xs, E H y
instance {n : Nat} [m : Mo E] : Mo (DTe K S E n) := ⟨fun e ⟨a, xs, h1, h2, h3, h4⟩ => ⟨a, xs, h1, (Vw.same e).seqT h2, h3, fun y hy => m.mo e (h4 y hy)⟩⟩
instance {n : Nat} [m : Mo E] : Mo (LTe S E n) := ⟨fun e ⟨a, xs, h1, h2, h3, h4⟩ => ⟨a, xs, h1, Vw.same e _ _ h2, h3, fun y hy => m.mo e (h4 y hy)⟩⟩
variable {σ : St} {te ta tb ts : TE} {t tr : TA} {tl th : TO}
end
section
variable {env : Env} {gH es : List Expr} {k : Nat} {pos : Pos} {a b c : Expr}
end
end L2
set_option Elab.async false
set_option linter.all false
set_option maxRecDepth 100000
namespace L2
open PySem PySem.Spec PyProof.Rows
def aAE (X : Cx) (scope : Scope) (z0 : Str) (C : Addr) : Env := { compEnvC scope (cI X.env scope.names []) C X.env with cells := (z0, C + 1) :: cI X.env scope.names [] }
def bR (X : Cx) (scope : Scope) (z0 : Str) (N : List Str) (C : Addr) (s0 : Shared) (H0 : Hp) (fp : List Addr) : Cx where
  prog := X.prog
  w := X.w
  K := X.K
  mg := X.mg
  base := X.base
  A := X.A
  N := N
  s₀ := s0
  H₀ := H0
  env := aAE X scope z0 C
  outer := X.stack
  stack := X.stack
  ex := fp
  fn := fun y => y == z0
  calm := X.calm
  pn := []
  xe := fun _ _ => False
def kJ (sc scope : Scope) (z0 : Str) (own : List Str) (frn : List Str) : Bool :=
  scope.kind == .function && scope.names.all (fun y => y.2 != .cell || y.1 == z0) && scope.names.all (fun y => y.2 != .local || scope.names.lookup y.1 == some .local) &&
  scope.names.all (fun y => y.2 != .free || sc.names.lookup y.1 == some .cell || sc.names.lookup y.1 == some .free) && decide (own ++ frn).Nodup &&
  frn.all (fun x => scope.names.lookup x == some .free) && scope.names.lookup z0 == some .cell && scope.names.all (fun y => y.2 != .free || y.1 != z0)
structure CompOk1 (X : Cx) (scope : Scope) (z0 : Str) (own : List Str) (fr : List Nat) (frn : List Str) : Prop where
  ck : kJ X.env.scope scope z0 own frn = true
  ix : ∀ (k : Nat) (x : Str), frn[k]? = some x -> ∃ j : Nat, fr[k]? = some j /\ X.N[j]? = some x
  len : fr.length = frn.length
  cf : ∀ (n : Nat) (cl : List (Str × Addr)), cellsFrom n scope.names cl = (z0, n) :: cl
  pc : ∀ h : Heap, pushCells h scope.names = h.push { cls := .type "cell", data := .cell none }
theorem aBS {M : Model} {A : Around} {E : Value -> Shared -> Prop} {s : Shared} {scope : Scope} {globals : Addr} {cl : List (Str × Addr)} {qual z0 : Str} {env : Env} {Q : Env -> Shared -> Prop}
    (cf : ∀ (n : Nat) (cl : List (Str × Addr)), cellsFrom n scope.names cl = (z0, n) :: cl) (pc : ∀ h : Heap, pushCells h scope.names = h.push { cls := .type "cell", data := .cell none })
    (h : Q (newEnv scope s.heap.objs.size globals ((z0, s.heap.objs.size + 1) :: cl) qual none .none (some env) builtinsNs) { s with heap := (s.heap.push { cls := .type "dict", data := .dict #[] }).push { cls := .type "cell", data := .cell none } }) :
    wpAny M A (newFunctionEnv scope globals cl [] qual none .none (some env)) Q E s := by
  simp only [newFunctionEnv, Option.isSome_some, if_true]
  refine wpAny_bind (wpAny_alloc ?_)
  refine wpAny_bind (wpAny_layCells _ (fun name kind cells => by cases hkc : kind == NameKind.cell <;> simp [hkc]) _ _ _ _ ?_)
  rw [cf, pc, show ({ s with heap := s.heap.push { cls := .type "dict", data := .dict #[] } } : Shared).heap.objs.size = s.heap.objs.size + 1 from Heap.size_push ..]
  rw [List.forIn_nil]
  exact wpAny_bind (wpAny_pure (wpAny_pure h))
section
variable {X : Cx} {scope : Scope} {z0 : Str} {own frn : List Str} {fr : List Nat}
theorem CompOk1.parts (S : CompOk1 X scope z0 own fr frn) : scope.kind = .function /\ (∀ y ∈ scope.names, y.2 = .cell -> y.1 = z0) /\ (∀ y ∈ scope.names, y.2 = .local -> scope.names.lookup y.1 = some .local) /\
    (∀ y ∈ scope.names, y.2 = .free -> X.env.scope.names.lookup y.1 = some .cell ∨ X.env.scope.names.lookup y.1 = some .free) /\ (own ++ frn).Nodup /\ (∀ x ∈ frn, scope.names.lookup x = some .free) /\ scope.names.lookup z0 = some .cell /\ ∀ y ∈ scope.names, y.2 = .free -> y.1 ≠ z0 := by
  have h := S.ck
  unfold kJ at h
  simp only [Bool.and_eq_true, List.all_eq_true, decide_eq_true_eq, Bool.or_eq_true, bne_iff_ne, ne_eq, beq_iff_eq] at h
  obtain ⟨⟨⟨⟨⟨⟨⟨h1, h2⟩, h3⟩, h4⟩, h5⟩, h7⟩, h8⟩, h9⟩ := h
  refine ⟨h1, fun y hy e => ?_, fun y hy e => ?_, fun y hy e => ?_, h5, h7, h8, fun y hy e => ?_⟩
  · rcases h2 y hy with z | z
    · exact absurd e z
    · exact z
  · rcases h3 y hy with z | z
    · exact absurd e z
    · exact z
  · rcases h4 y hy with (z | z) | z
    · exact absurd e z
    · exact .inl z
    · exact .inr z
  · rcases h9 y hy with z | z
    · exact absurd e z
    · exact z
theorem tE (S : CompOk1 X scope z0 own fr frn) (σ : St) : (blk own.length fr σ).length = (own ++ frn).length := by
  unfold blk
  rw [List.length_append, List.length_append, List.length_replicate, List.length_map, S.len]
theorem oH {x : Str} {c C : Addr} {cl : List (Str × Addr)} (h : ((z0, C + 1) :: cl).lookup x = some c) : (x = z0 /\ c = C + 1) ∨ (x ≠ z0 /\ cl.lookup x = some c) := by
  rw [List.lookup_cons] at h
  cases e : x == z0 with
  | true => rw [e] at h; exact .inl ⟨by simpa using e, (Option.some.inj h).symm⟩
  | false => rw [e] at h; exact .inr ⟨by simpa using e, h⟩
theorem tF {x : Str} {C : Addr} {cl : List (Str × Addr)} (h : x ≠ z0) : ((z0, C + 1) :: cl).lookup x = cl.lookup x := by
  rw [List.lookup_cons, show (x == z0) = false by simpa using h]
theorem aAF {C : Addr} {cl : List (Str × Addr)} : ((z0, C + 1) :: cl).lookup z0 = some (C + 1) := by
  rw [List.lookup_cons, show (z0 == z0) = true by simp]
theorem yY {pins : List (Addr × Obj)} {σ : St} {H : Hp} {s : Shared} {fp : List Addr} {h1 : Heap} {tk : Nat} {C D : Addr} {oD : Obj} {m : Str -> Option Value} (I : Inv X pins σ H s) (S : CompOk1 X scope z0 own fr frn)
    (hfp : ∀ b ∈ fp, kQ X pins H b) (hlt : ∀ b ∈ fp, b < s.heap.objs.size) (hC : s.heap.objs.size <= C) (hn : h1.Ns C m) (hk : ∀ b o, s.heap.get? b = some o -> h1.get? b = some o)
    (hD : s.heap.objs.size <= D) (hDC : D ≠ C) (hoD : h1.get? D = some oD) (hdD : ∀ v, oD.data ≠ .cell v) (hcl : h1.IsCell (C + 1) none) :
    Inv (bR X scope z0 (own ++ frn) C s H fp) [(D, oD)] (blk own.length fr σ) H { s with heap := h1, toks := tk } := by
  obtain ⟨p1, p2, p3, p4, p5, p7, p8, p9⟩ := S.parts
  have below : ∀ b, b < s.heap.objs.size -> b ≠ C := fun b hb z => Nat.lt_irrefl _ (Nat.lt_of_lt_of_le (z ▸ hb) hC)
  have clsub : ∀ x c, (cI X.env scope.names []).lookup x = some c -> X.env.cells.lookup x = some c := fun x c e => by
    rcases gK _ _ _ _ (cT e) with q | q
    · cases q
    · exact q
  have clt : ∀ x c, X.env.cells.lookup x = some c -> c < s.heap.objs.size := fun x c e => by
    obtain ⟨v, q⟩ := I.cell x c e
    exact q.lt
  have nstk : ∀ b ∈ fp, b ∉ frs X.stack := fun b hb z => by
    obtain ⟨_, f1, f2, _⟩ := hfp b hb
    rcases List.mem_cons.mp (I.stkSub b z) with e | e
    · exact f1 e
    · exact f2 e
  have Dfs : D ∉ frs X.stack := fun z => by
    have q := I.stkSub D z
    rcases List.mem_cons.mp q with e | e
    · exact Nat.lt_irrefl _ (Nat.lt_of_lt_of_le (e ▸ I.lt : D < _) hD)
    · exact I.nofs hD e
  refine ⟨⟨I.ok.mod, p1, I.ok.glob, I.ok.blt, hC, fun x y c e1 e2 => ?inj, fun x hx => ?has, fun x c e e2 => ?cab, I.ok.hd, I.ok.frames, .inl rfl, fun b hb => ?exf, I.bs, Nat.le_trans I.ok.bsz I.sz, fun b o e hb => ?noex, nstk, I.stack, I.stkFree⟩,
    rfl, I.bare, Un.kept hk, ⟨m, hn, fun i x v e1 e2 e3 => ?loc⟩, fun x c e => ?cell, I.hok.fresh hC, fun x c e => ?freeC, fun p hp => ?pin, I.hok.kept hk, tE S σ⟩
  case inj =>
    have e1' : ((z0, C + 1) :: cI X.env scope.names []).lookup x = some c := e1
    have e2' : ((z0, C + 1) :: cI X.env scope.names []).lookup y = some c := e2
    rcases oH e1' with ⟨rfl, rfl⟩ | ⟨n1, q1⟩ <;> rcases oH e2' with ⟨rfl, e⟩ | ⟨n2, q2⟩
    · rfl
    · exact absurd (clt _ _ (clsub _ _ q2)) (Nat.not_lt.mpr (Nat.le_succ_of_le hC))
    · subst e
      exact absurd (clt _ _ (clsub _ _ q1)) (Nat.not_lt.mpr (Nat.le_succ_of_le hC))
    · exact I.ok.inj x y c (clsub x c q1) (clsub y c q2)
  case has =>
    have hx' : (relabel scope X.env).names.lookup x = some .cell ∨ (relabel scope X.env).names.lookup x = some .free := hx
    show ∃ c, ((z0, C + 1) :: cI X.env scope.names []).lookup x = some c
    by_cases hz : x = z0
    · rw [hz, aAF]
      exact ⟨_, rfl⟩
    · rw [tF hz]
      have hl : (relabel scope X.env).names.lookup x = _ := dI (env := X.env) x scope.names
      rw [hl] at hx'
      cases e : scope.names.lookup x with
      | none =>
        rw [e] at hx'
        rcases hx' with z | z <;> cases z
      | some k =>
        have hmem := cT e
        have hkf : k = .free := by
          rw [e] at hx'
          simp only [Option.map_some, Option.some.injEq] at hx'
          by_cases c : (k == NameKind.free && X.env.scope.kind == .function && X.env.kindOf x == some .cell) = true
          · simp only [Bool.and_eq_true, beq_iff_eq] at c
            exact c.1.1
          · rw [if_neg c] at hx'
            rcases hx' with z | z
            · exact absurd (p2 _ hmem z) hz
            · exact z
        subst hkf
        obtain ⟨c, hc⟩ := I.ok.has x (p4 _ hmem rfl)
        obtain ⟨c', hc'⟩ := gL (env := X.env) scope.names [] x (.inr ⟨hmem, c, hc⟩)
        exact fX hc'
  case cab =>
    have e' : (x == z0) = true := e
    have e2' : ((z0, C + 1) :: cI X.env scope.names []).lookup x = some c := e2
    rcases oH e2' with ⟨_, rfl⟩ | ⟨n1, _⟩
    · exact Nat.le_succ_of_le hC
    · exact absurd (by simpa using e') n1
  case exf =>
    refine ⟨below b (hlt b hb), fun x c e => ?_⟩
    have e' : ((z0, C + 1) :: cI X.env scope.names []).lookup x = some c := e
    rcases oH e' with ⟨_, rfl⟩ | ⟨_, q⟩
    · exact fun z => Nat.lt_irrefl _ (Nat.lt_of_lt_of_le (hlt b hb) (by rw [<- z]; exact Nat.le_succ_of_le hC))
    · exact (hfp b hb).2.2.2.2.1 x c (clsub x c q)
  case noex =>
    rcases (hfp b hb).2.2.2.1 with z | z
    · exact I.ok.noex b o e z
    · exact absurd (Nat.lt_of_lt_of_le (Heap.lt_size (I.ok.bs b o e).1) z) (Nat.lt_irrefl _)
  case loc =>
    show ∃ u, bG v u /\ aCI _ _ _ x u
    have e1' : (own ++ frn)[i]? = some x := e1
    have e2' : (blk own.length fr σ)[i]? = some (some v) := e2
    unfold blk at e2'
    by_cases hi : i < own.length
    · rw [List.getElem?_append_left (by simpa using hi), List.getElem?_replicate] at e2'
      rw [if_pos hi] at e2'
      cases e2'
    · rw [List.getElem?_append_right (by simpa using hi)] at e2'
      rw [List.getElem?_append_right (by omega)] at e1'
      rw [List.length_replicate, List.getElem?_map] at e2'
      obtain ⟨j, hj1, hj2⟩ := S.ix _ _ e1'
      rw [hj1] at e2'
      simp only [Option.map_some, Option.some.injEq] at e2'
      have hσ : σ[j]? = some (some v) := by
        cases q : σ[j]? with
        | none => rw [q] at e2'; cases e2'
        | some w => rw [q] at e2'; exact congrArg some e2'
      have hfree := p7 x (List.mem_of_getElem? e1')
      have hmem := cT hfree
      have hxz : x ≠ z0 := p9 _ hmem rfl
      have kx := p4 _ hmem rfl
      have vis : Vis X.env.scope x := by
        rcases kx with z | z
        · exact .inr (.inl z)
        · exact .inr (.inr z)
      obtain ⟨m0, hn0, hl0⟩ := I.loc
      obtain ⟨u, ru, lk⟩ := hl0 j x v hj2 hσ vis
      refine ⟨u, ru, .inr ⟨?_, ?_⟩⟩
      · show (relabel scope X.env).names.lookup x = some .cell ∨ (relabel scope X.env).names.lookup x = some .free
        have hl : (relabel scope X.env).names.lookup x = _ := dI (env := X.env) x scope.names
        rw [hl, hfree]
        simp only [Option.map_some, Option.some.injEq]
        by_cases c : (NameKind.free == NameKind.free && X.env.scope.kind == .function && X.env.kindOf x == some .cell) = true
        · rw [if_pos c]; exact .inl rfl
        · rw [if_neg c]; exact .inr rfl
      · rcases lk with ⟨kl, _⟩ | ⟨_, c, hc, hcell⟩
        · have kl' : X.env.scope.names.lookup x = some .local := kl
          rcases kx with z | z <;> (have z' : X.env.scope.names.lookup x = _ := z; rw [kl'] at z'; cases z')
        · obtain ⟨c', hc'⟩ := gL (env := X.env) scope.names [] x (.inr ⟨hmem, c, hc⟩)
          obtain ⟨c2, hc2⟩ := fX hc'
          have ec : c2 = c := by
            have := clsub x c2 hc2
            rw [hc] at this
            exact (Option.some.inj this).symm
          subst ec
          obtain ⟨oc, ho, hd⟩ := hcell
          exact ⟨c2, (tF hxz).trans hc2, oc, hk _ _ ho, hd⟩
  case cell =>
    have e' : ((z0, C + 1) :: cI X.env scope.names []).lookup x = some c := e
    rcases oH e' with ⟨_, rfl⟩ | ⟨_, q⟩
    · exact ⟨none, hcl⟩
    · obtain ⟨v, o, ho, hd⟩ := I.cell x c (clsub x c q)
      exact ⟨v, o, hk _ _ ho, hd⟩
  case freeC =>
    have e' : ((z0, C + 1) :: cI X.env scope.names []).lookup x = some c := e
    rcases oH e' with ⟨_, rfl⟩ | ⟨_, q⟩
    · exact I.hok.fresh (Nat.le_succ_of_le hC)
    · exact I.freeC x c (clsub x c q)
  case pin =>
    have hp' : p ∈ ([] : List (Addr × Obj)) ++ [(D, oD)] := hp
    simp only [List.nil_append, List.mem_singleton] at hp'
    subst hp'
    exact ⟨hoD, I.hok.fresh hD, hDC, Dfs, hdD⟩
end
section
variable {X : Cx} {scope : Scope} {z0 : Str} {own frn : List Str} {fr : List Nat} {elt tg iter : Expr} {ifs : List Expr} {pos : Pos} {wi : TI} {g : TG} {tt : TT} {te : TE}
theorem tG {pins : List (Addr × Obj)} {σ : St} {H2 : Hp} {s2 : Shared} {it : Addr} {fp : List Addr} {tn : Nat -> Heap -> Prop} {J : It} {RR : Value -> Addr -> Result -> Shared -> Prop} {E : Value -> Shared -> Prop} {Q : Hp -> List V -> Prop}
    (S : CompOk1 X scope z0 own fr frn) (hc : X.calm = true) (I2 : Inv X pins σ H2 s2) (T : Turn X.prog X.w X.K tg J fp it tn) (st2 : tn 0 s2.heap) (f2 : ∀ b ∈ fp, kQ X pins H2 b)
    (hg : ∀ C s0 H0 fp, PG (bR X scope z0 (own ++ frn) C s0 H0 fp) tg g) (ht : ∀ C s0 H0 fp, PF (bR X scope z0 (own ++ frn) C s0 H0 fp) ifs tt) (he : ∀ C s0 H0 fp, PE (bR X scope z0 (own ++ frn) C s0 H0 fp) elt te)
    (w : ∃ W : Nat -> Nat -> List V -> St -> Hp -> Prop, (∃ m, W 0 m [] (blk own.length fr σ) H2) /\ ∀ i m ys σ' H, W i m ys σ' H ->
      (J.stop i H /\ Q H ys) ∨
      (J.go i H /\ ∃ N : List V -> St -> Hp -> Prop, (∀ ys' σ2 H2, N ys' σ2 H2 -> ∃ m', m' < m /\ W (i + 1) m' ys' σ2 H2) /\
        ∀ x H', J.yld i H x H' -> g x σ' H' fun σ2 H2 => tt σ2 H2 fun b H3 => if b = true then te σ2 H3 fun y H4 => ys.length < sizeLine /\ N (ys ++ [y]) σ2 H4 else N ys σ2 H3))
    (hRR : ∀ (C D : Addr) (s' : Shared) (H' : Hp) (ys : List V) (its : Array Value) (m : Str -> Option Value), s2.heap.objs.size <= C -> s2.heap.objs.size <= D -> D ≠ C -> s'.heap.Ns C m -> H' C = none -> H' D = none -> s'.heap.PlainList D its -> aX ys its.toList -> ys.length <= sizeLine ->
      Inv X pins σ H' s' -> Q H' ys -> RR (.ref D) C (.ok .next) s') :
    wpAny (model X.prog X.w) X.A (newList []) (fun acc s₃ => wpAny (model X.prog X.w) X.A (newFunctionEnv scope X.env.globals (cI X.env scope.names []) [] X.env.qual none .none (some X.env)) (fun cenv s₄ =>
      codeAny (model X.prog X.w) X.A (.compStart (.ListComp elt [⟨tg, iter, ifs, 0⟩] scope pos) 0 (.ref it) acc { cenv with scope := relabel scope X.env }) (RR acc cenv.locals) s₄) E s₃) E s2 := by
  obtain ⟨p1, p2, p3, p4, p5, p7, p8, p9⟩ := S.parts
  obtain ⟨W, ⟨m0, w0⟩, turn⟩ := w
  refine wpAny_newObj_type (aBS S.cf S.pc ?_)
  dsimp only
  generalize hH2 : s2.heap.push { cls := .type "list", dict := none, data := .seq ([] : List Value).toArray } = HD
  generalize hh1 : (HD.push { cls := .type "dict", data := .dict #[] }).push { cls := .type "cell", data := .cell none } = h₁
  have hCs : HD.objs.size = s2.heap.objs.size + 1 := by rw [<- hH2, Heap.size_push]
  have hns₁ : h₁.Ns HD.objs.size (fun _ => none) := by rw [<- hh1]; exact (Heap.Ns.new HD (.type "dict")).push _
  have hcell : h₁.IsCell (HD.objs.size + 1) none := by
    rw [<- hh1]
    refine ⟨{ cls := .type "cell", data := .cell none }, ?_, rfl⟩
    have e := Heap.get?_push_size (HD.push { cls := .type "dict", data := .dict #[] }) (o := { cls := .type "cell", data := .cell none }) rfl
    rw [Heap.size_push] at e
    exact e
  have hDC : s2.heap.objs.size ≠ HD.objs.size := by omega
  have hCle : s2.heap.objs.size <= HD.objs.size := by omega
  have below : ∀ b, b < s2.heap.objs.size -> b ≠ HD.objs.size /\ b ≠ s2.heap.objs.size := fun b hb => ⟨by omega, by omega⟩
  have old : ∀ b o, s2.heap.get? b = some o -> h₁.get? b = some o := fun b o e => by rw [<- hh1]; exact Heap.get?_push_of_some _ (Heap.get?_push_of_some _ (hH2 ▸ Heap.get?_push_of_some _ e))
  have hacc : h₁.get? s2.heap.objs.size = some { cls := .type "list", data := .seq ([] : List Value).toArray } := by rw [<- hh1]; exact Heap.get?_push_of_some _ (Heap.get?_push_of_some _ (hH2 ▸ Heap.get?_push_size _ rfl))
  have flt : ∀ b ∈ fp, b < s2.heap.objs.size := fun b hb => by
    obtain ⟨o, e, _⟩ := T.obj _ _ st2 b hb
    exact Heap.lt_size e
  generalize hDg : s2.heap.objs.size = D at *
  generalize hCg : HD.objs.size = C at *
  have st3 : tn 0 h₁ := T.keep _ _ _ st2 fun b _ o e => old b o e
  -- facts of the block
  have clsub : ∀ x c, (cI X.env scope.names []).lookup x = some c -> X.env.cells.lookup x = some c := fun x c e => by
    rcases gK _ _ _ _ (cT e) with q | q
    · cases q
    · exact q
  have hcs : ∀ x c, ((z0, C + 1) :: cI X.env scope.names []).lookup x = some c -> c = C + 1 ∨ X.env.cells.lookup x = some c := fun x c e => by
    rcases oH e with ⟨_, e⟩ | ⟨_, e⟩
    · exact .inl e
    · exact .inr (clsub x c e)
  have cD : ∀ x c, ((z0, C + 1) :: cI X.env scope.names []).lookup x = some c -> c ≠ D := fun x c e z => by
    rcases hcs x c e with e | e
    · omega
    obtain ⟨v, q⟩ := I2.cell x c e
    exact Nat.lt_irrefl _ (Nat.lt_of_lt_of_le q.lt (by rw [hDg, z]; exact Nat.le_refl _))
  have loop : ∀ s₃ : Shared, s₃ = { s2 with heap := h₁, toks := s2.toks } ->
      codeAny (model X.prog X.w) X.A (.compLoop (.ListComp elt [⟨tg, iter, ifs, 0⟩] scope pos) 0 (.ref it) (.ref D) (aAE X scope z0 C)) (RR (.ref D) C) s₃ := by
    rintro s₃ rfl
    have I3 : Inv (bR X scope z0 (own ++ frn) C s2 H2 fp) [(D, _)] (blk own.length fr σ) H2 { s2 with heap := h₁, toks := s2.toks } :=
      yY (m := fun _ => none) I2 S f2 (by rw [hDg]; exact flt) (by rw [hDg]; exact hCle) (hns₁ : h₁.Ns C _) old (by rw [hDg]; exact Nat.le_refl _) hDC hacc (fun v z => by cases z) hcell
    have stat : ∀ {H' : Hp} {pl : List (Addr × Obj)}, (∀ p ∈ pl, p.1 = D) -> (∀ b ∈ fp, H' b = none) -> ∀ b ∈ fp, kQ (bR X scope z0 (own ++ frn) C s2 H2 fp) pl H' b := fun {H' pl} hpl hn b hb => by
      refine ⟨hn b hb, (below b (flt b hb)).1, fun z => ?_, .inl hb, fun x c e => (by
        rcases hcs x c e with e | e
        · exact fun z => Nat.lt_irrefl _ (Nat.lt_of_lt_of_le (flt b hb) (by rw [<- z, e]; exact Nat.le_succ_of_le hCle))
        · exact (f2 b hb).2.2.2.2.1 x c e), fun p hp => ?_⟩
      · have z' : b ∈ frs X.stack := z
        rcases List.mem_cons.mp (I2.stkSub b z') with e | e
        · exact (f2 b hb).2.1 e
        · exact (f2 b hb).2.2.1 e
      · have hp' : p ∈ pl := by simpa [bR] using hp
        rw [hpl p hp']
        exact Ne.symm (below b (flt b hb)).2
    refine mK (env := aAE X scope z0 C) (fun n s' => ∃ i σ' H' ys its o, Inv (bR X scope z0 (own ++ frn) C s2 H2 fp) [(D, o)] σ' H' s' /\ s'.heap.PlainList D its /\ aX ys its.toList /\ ys.length <= sizeLine /\ tn i s'.heap /\ (∀ b ∈ fp, H' b = none) /\ W i n ys σ' H') ?_ m0
      ⟨0, _, H2, [], #[], _, I3, ⟨_, hacc⟩, .nil, Nat.zero_le _, st3, fun b hb => (f2 b hb).1, w0⟩
    rintro n s5 ⟨i, σ5, H5, ys, its, o, I5, pl5, v5, z5, st5, fr5, w5⟩
    have one : ∀ {o : Obj}, ∀ p ∈ [(D, o)], p.1 = D := fun p hp => by
      have e := List.mem_singleton.mp hp
      rw [e]
    rcases turn i n ys σ5 H5 w5 with ⟨stop, qn⟩ | ⟨go, N, hN, step⟩
    · refine wpAny_mono (T.done (bR X scope z0 (own ++ frn) C s2 H2 fp) rfl rfl rfl hc i _ s5 σ5 H5 (fun _ _ => False) I5 (stat one fr5) st5 stop) (fun r s6 hx9 => ?_) fun _ _ z => z
      obtain ⟨hr, I6⟩ := hx9
      subst hr
      obtain ⟨m6, hn6, _⟩ := I6.loc
      have p6 := I6.pin (D, o) (by simp [bR])
      have p5' := I5.pin (D, o) (by simp [bR])
      have pl6 : s6.heap.PlainList D its := by
        obtain ⟨k, e⟩ := pl5
        have e1 : o = _ := Option.some.inj (p5'.1.symm.trans e)
        exact ⟨k, by rw [p6.1]; exact congrArg some e1⟩
      have IX : Inv X pins σ H5 s6 := I2.call' (ch := fp) I6.os I6.base I6.hok I6.bare fun b hb => ⟨(f2 b hb).2.2.2.1, (f2 b hb).2.1, (f2 b hb).2.2.2.2.1, (f2 b hb).2.2.2.2.2⟩
      exact hRR C D s6 H5 ys its m6 hCle (Nat.le_refl _) hDC hn6 I6.free p6.2.1 pl6 v5 z5 IX qn
    · refine wpAny_mono (T.item (bR X scope z0 (own ++ frn) C s2 H2 fp) rfl rfl rfl hc i _ s5 σ5 H5 (fun _ _ => False) I5 (stat one fr5) st5 go) (fun r s6 hx9 => ?_) fun _ _ z => z
      obtain ⟨u, hr, h6⟩ := hx9
      subst hr
      refine wpAny_mono h6 (fun _ s7 hx9 => ?_) fun _ _ z => z
      obtain ⟨x, H7, I7, r7, y7, st7, fr7⟩ := hx9
      have I7' := I7.pinned (stat one fr7) (T.obj _ _ st7)
      refine wpAny_mono (hg C s2 H2 fp _ s7 σ5 H7 x u _ I7' r7 (step x H7 y7)) (fun _ s8 hx9 => ?_) fun _ _ z => z
      obtain ⟨σ8, H8, I8, q8⟩ := hx9
      refine wpAny_mono (ht C s2 H2 fp _ s8 σ8 H8 _ I8 q8) (fun b s9 hx9 => ?_) fun _ _ z => z
      obtain ⟨H9, I9, q9⟩ := hx9
      -- what stands of the iterator and of the gathered list behind the tests, behind the item
      have keepT : ∀ {H' : Hp} {s' : Shared} {σ' : St}, Inv (bR X scope z0 (own ++ frn) C s2 H2 fp) ([(D, o)] ++ lT fp s7.heap) σ' H' s' -> tn (i + 1) s'.heap /\ (∀ b ∈ fp, H' b = none) /\ s'.heap.PlainList D its /\ H' D = none := fun {H' s' σ'} I' => by
        refine ⟨T.keep _ _ _ st7 fun b hb o e => (I'.pin (b, o) (List.mem_append_right _ (List.mem_append_right _ (fI hb e)))).1, fun b hb => ?_, ?_, ?_⟩
        · obtain ⟨o, e, d⟩ := T.obj _ _ st7 b hb
          exact (I'.pin (b, o) (List.mem_append_right _ (List.mem_append_right _ (fI hb e)))).2.1
        · have p' := I'.pin (D, o) (by simp [bR])
          have p5' := I5.pin (D, o) (by simp [bR])
          obtain ⟨k, e⟩ := pl5
          have e1 : o = _ := Option.some.inj (p5'.1.symm.trans e)
          exact ⟨k, by rw [p'.1]; exact congrArg some e1⟩
        · exact (I'.pin (D, o) (by simp [bR])).2.1
      cases b with
      | false =>
        rw [if_neg Bool.false_ne_true] at q9
        rw [if_neg Bool.false_ne_true]
        obtain ⟨m', hm, w'⟩ := hN ys σ8 H9 q9
        obtain ⟨t9, fr9, pl9, _⟩ := keepT I9
        exact ⟨m', hm, i + 1, σ8, H9, ys, its, o, I9.unpinned, pl9, v5, z5, t9, fr9, w'⟩
      | true =>
        rw [if_pos rfl] at q9
        rw [if_pos rfl]
        refine wpAny_mono (he C s2 H2 fp _ s9 σ8 H9 _ I9 q9) (fun y s10 hx9 => ?_) fun _ _ z => z
        obtain ⟨yv, H10, I10, r10, lt10, q10⟩ := hx9
        obtain ⟨t10, fr10, pl10, hD10⟩ := keepT I10
        have hl := v5.length
        refine wpAny_list_append_plain pl10 (fun h11 pl11 sb11 => ?_) (by rw [<- Array.length_toList, <- hl]; exact Nat.le_of_lt lt10)
        obtain ⟨m', hm, w'⟩ := hN _ σ8 H10 q10
        have I10' : Inv (bR X scope z0 (own ++ frn) C s2 H2 fp) [] σ8 H10 s10 := I10.pins_of fun p hp => by cases hp
        have I11 : Inv (bR X scope z0 (own ++ frn) C s2 H2 fp) [] σ8 H10 { s10 with heap := h11 } :=
          I10'.turned (t' := s10.toks) (it := D) (fun b o hb e => (sb11.2 b hb).trans e) hD10 hDC (.inr (by show s2.heap.objs.size <= D; rw [hDg]; exact Nat.le_refl _)) cD (fun p hp => by simp [bR] at hp)
        obtain ⟨k11, e11⟩ := id pl11
        have DfsX : D ∉ frs X.stack := fun z => by
          rcases List.mem_cons.mp (I2.stkSub D z) with e | e
          · exact Nat.lt_irrefl _ (Nat.lt_of_lt_of_le I2.lt (by rw [hDg, e]; exact Nat.le_refl _))
          · exact I2.nofs (by rw [hDg]; exact Nat.le_refl _) e
        refine ⟨m', hm, i + 1, σ8, H10, ys ++ [yv], its.push y, { cls := .type "list", data := .seq (its.push y) k11 }, I11.pins_of fun p hp => ?_, pl11, ?_, by rw [List.length_append]; show ys.length + 1 <= _; omega, T.keep _ _ _ t10 fun b hb o e => (sb11.2 b (below b (flt b hb)).2).trans e, fr10, w'⟩
        · have e := List.mem_singleton.mp hp
          subst e
          exact ⟨e11, hD10, hDC, DfsX, fun v z => by cases z⟩
        · rw [Array.toList_push]
          exact v5.append (.cons r10 .nil)
  exact codeAny_compStart_list (loop _ rfl) (T.self X.A 0 _ _ _ st3 (loop _ rfl))
theorem CompOk1.clo {pins : List (Addr × Obj)} {σ : St} {H : Hp} {s : Shared} (S : CompOk1 X scope z0 own fr frn) (I : Inv X pins σ H s) : closureFor scope X.env = pure (cI X.env scope.names []) := by
  obtain ⟨p1, p2, p3, p4, p5, p7, p8, p9⟩ := S.parts
  exact vF fun y hy e => I.ok.has y.1 (p4 y hy e)
theorem aAG (S : CompOk1 X scope z0 own fr frn) (hc : X.calm = true) (hi : PI X tg iter wi) (hg : ∀ C s0 H0 fp, PG (bR X scope z0 (own ++ frn) C s0 H0 fp) tg g) (ht : ∀ C s0 H0 fp, PF (bR X scope z0 (own ++ frn) C s0 H0 fp) ifs tt)
    (he : ∀ C s0 H0 fp, PE (bR X scope z0 (own ++ frn) C s0 H0 fp) elt te) (hs : ∀ x, foldedSetIterable iter X.env x = pure x := by intro _; rfl) :
    PE X (.ListComp elt [⟨tg, iter, ifs, 0⟩] scope pos) (aAu own.length fr wi g tt te) := by
  intro pins s σ H Q I h
  obtain ⟨p1, p2, p3, p4, p5, p7, p8, p9⟩ := S.parts
  rw [eval_ListComp]
  refine wpAny_comprehension_free (use := none) rfl hs (S.clo I) p1 p3 (thn (hi pins s σ H _ I h) fun v s1 h1 => thn h1 fun itv s2 h2 => ?_)
  obtain ⟨it, fp, tn, J, H2, e, I2, T, st2, f2, hw⟩ := h2
  subst e
  refine tG (RR := fun acc C => compPost (model X.prog X.w) X.A X.xe none (EP X pins σ Q) acc C) (Q := fun H ys => ∀ p, H p = none -> Q (.ref p) (upd H p (.lst ys))) S hc I2 T st2 f2 hg ht he hw ?_
  intro C D s' H' ys its m hC hD hDC hns hHC hHD pl v z IX q
  have cne : ∀ a, s2.heap.objs.size <= a -> ∀ x c, X.env.cells.lookup x = some c -> c ≠ a := fun a ha x c e z => by
    obtain ⟨v, w⟩ := I2.cell x c e
    exact Nat.lt_irrefl _ (Nat.lt_of_lt_of_le w.lt (by rw [z]; exact ha))
  have pne : ∀ a, s2.heap.objs.size <= a -> ∀ p ∈ X.pn ++ pins, p.1 ≠ a := fun a ha p hp z => Nat.lt_irrefl _ (Nat.lt_of_lt_of_le (Heap.lt_size (I2.pin p hp).1) (by rw [z]; exact ha))
  have lne : ∀ a, s2.heap.objs.size <= a -> a ≠ X.env.locals := fun a ha z => Nat.lt_irrefl _ (Nat.lt_of_lt_of_le I2.lt (by rw [<- z]; exact ha))
  refine ⟨m, hns, fun h' hs' => ⟨.ref D, upd H' D (.lst ys), ?_, rfl, q D hHD⟩⟩
  have IT : Inv X pins σ (upd H' D (.lst ys)) s' := IX.track pl v z hHD (lne D hD) (Nat.le_trans I2.sz hD) (cne D hD) (pne D hD)
  exact IT.turned (t' := s'.toks) (it := C) (fun b o hb e => (hs'.2 b hb).trans e) (by rw [aH (Ne.symm hDC)]; exact hHC) (lne C hC) (.inr (Nat.le_trans I2.sz hC)) (cne C hC) (pne C hC)
end
theorem vL {X : Cx} {scope : Scope} {z0 : Str} {own frn : List Str} {fr : List Nat} (sc : Scope) (N : List Str) (h1 : X.env.scope = sc) (h2 : X.N = N) (cf : ∀ (n : Nat) (cl : List (Str × Addr)), cellsFrom n scope.names cl = (z0, n) :: cl) (pc : ∀ h : Heap, pushCells h scope.names = h.push { cls := .type "cell", data := .cell none })
    (h : (kJ sc scope z0 own frn && mY N frn fr) = true) : CompOk1 X scope z0 own fr frn := by
  rw [Bool.and_eq_true] at h
  obtain ⟨ha, hb⟩ := h
  unfold mY at hb
  simp only [Bool.and_eq_true, beq_iff_eq, List.all_eq_true] at hb
  refine ⟨by rw [h1]; exact ha, fun k x hk => ?_, hb.1.symm, cf, pc⟩
  have hlt : k < fr.length := by rw [<- hb.1]; exact (List.getElem?_eq_some_iff.mp hk).1
  refine ⟨fr[k], List.getElem?_eq_getElem hlt, ?_⟩
  have hm : (x, fr[k]) ∈ frn.zip fr := by
    refine List.mem_of_getElem? (i := k) ?_
    rw [List.getElem?_zip_eq_some]
    exact ⟨hk, List.getElem?_eq_getElem hlt⟩
  rw [h2]
  exact hb.2 _ hm
def aDN (scope sc : Scope) : Scope := { scope with names := scope.names.map fun (n, k) => if (k == NameKind.free && sc.kind == .function && sc.names.lookup n == some .cell) then (n, NameKind.cell) else (n, k) }
end L2
set_option Elab.async false
set_option linter.all false
set_option maxRecDepth 100000
namespace L2
open PySem PySem.Spec PyProof.Rows
section
variable {X : Cx}
theorem qK (hc : X.calm = true) : eY X (.builtin "min") (fun xs H Q => ∃ (p : Addr) (ns : List Int), xs = [.ref p] /\ SqL X.K H p (ns.map V.int) /\ 0 < ns.length /\ ∀ M, M ∈ ns -> (∀ a ∈ ns, M <= a) -> Q (.int M) H) := by
  intro pins s σ H xs us Q I r h
  obtain ⟨p, ns, rfl, hx, hne, q⟩ := h
  obtain ⟨u, rfl, rx⟩ := gJ r
  cases rx
  obtain ⟨its, rv, pl, hz⟩ := I.list hx
  have hi : IntsAre its ns := cZ rv
  obtain ⟨xs, e⟩ := hi.allInts.items
  have hns : ns = xs.toList.map (·.1) := by
    rw [<- hi.numsOf, <- nums_intItems, <- e]
  have hsz : 0 < xs.size := by
    have h3 := hne; rw [hns, List.length_map, Array.length_toList] at h3; exact h3
  have hl := pl.isList
  rw [e] at hl
  refine min_intList (I.ok.hd hc) hl hsz fun v h' tk hv hk => ?_
  obtain ⟨t, rfl⟩ := intItems_at hv
  obtain ⟨h1, h2⟩ := argBest_lt (numAt xs) (xs.size - 1)
  refine ⟨.int _, H, I.kept hk, ⟨_, rfl⟩, q _ ?_ fun a ha => ?_⟩
  · rw [hns, numAt_eq]; exact getD_mem (by rw [List.length_map, Array.length_toList]; omega)
  · rw [hns] at ha
    obtain ⟨j, hj, rfl⟩ := mem_getD ha
    rw [List.length_map, Array.length_toList] at hj
    rw [<- numAt_eq]; exact h2 j (by omega)
end
theorem aAH : bootBuiltins "min" = some (.builtin "min") := by decide +kernel
end L2
set_option Elab.async false
set_option linter.all false
set_option maxRecDepth 100000
namespace L2
open PySem PySem.Spec PyProof.Rows
section
variable {P : Program} {w : World} {K : PySem.W.Frag} {mg : Str -> Option Value} {base : Heap} {N : List Str} {qual : Str} {scope : Scope} {f : Addr} {cd : Value} {A : Around} {outer : List Env} {s0 : Shared} {H0 : Hp} {E : XK}
end
end L2
set_option Elab.async false
set_option linter.all false
set_option maxRecDepth 100000
namespace L2
open PySem PySem.Spec PyProof.Rows
abbrev vbm : List Value := [.type "ValueError", .type "Exception", .type "BaseException", .type "object"]
def qns : List Str := ["__init__", "__getattribute__", "__getattr__", "__class__"]
inductive TailN (h : Heap) (bmB : List Value) : List Value -> Prop
  | base : TailN h bmB bmB
  | own {A : Addr} {c0 : Value} {dd : Option Addr} {cd : ClassData} {sl : Array (Option Value)} {mA : Str -> Option Value} {tl : List Value} :
      h.get? A = some { cls := c0, dict := dd, data := .cls cd, slots := sl } -> h.Ns cd.ns mA -> (∀ n ∈ qns, mA n = none) -> TailN h bmB tl -> TailN h bmB (.ref A :: tl)
theorem TailN.tail {h : Heap} {bmB tl : List Value} (T : TailN h bmB tl) : OwnTail h bmB tl := by
  induction T with
  | base => exact .base
  | own hA hN hq _ ih => exact .own hA hN (hq _ (.head _)) ih
theorem TailN.keeps {h h' : Heap} {bmB tl : List Value} (T : TailN h bmB tl) (hk : ∀ b o, h.get? b = some o -> h'.get? b = some o) : TailN h' bmB tl := by
  induction T with
  | base => exact .base
  | own hA hN hq _ ih => exact .own (hk _ _ hA) (hN.keeps hk) hq ih
def EcH (h : Heap) (C : Addr) (bm : List Value) : Prop := ∃ N nm q bs hdct sn sub ab col dd k0 k1 k2 k3 k5 mN, h.get? C = some (excClassObj nm q C N bs bm hdct sn sub ab col dd k0 k1 k2 k3 k5 "ValueError.__new__") /\ h.Ns N mN /\ (∀ n ∈ qns, mN n = none) /\ TailN h vbm bm
theorem EcH.keeps {h h' : Heap} {C : Addr} {bm : List Value} (x : EcH h C bm) (hk : ∀ b o, h.get? b = some o -> h'.get? b = some o) : EcH h' C bm := by
  obtain ⟨N, nm, q, bs, hdct, sn, sub, ab, col, dd, k0, k1, k2, k3, k5, mN, hC, hN, hq, T⟩ := x
  exact ⟨N, nm, q, bs, hdct, sn, sub, ab, col, dd, k0, k1, k2, k3, k5, mN, hk _ _ hC, hN.keeps hk, hq, T.keeps hk⟩
section
variable {M : Model} {prog : Program} {w : World} {A : Around} {E : Value -> Shared -> Prop} {h : Heap} {g : Array GenState} {d : Drawn} {t : Nat} {os : OsState} {a C : Addr} {o : Obj} {bm : List Value}
theorem EcH.has {T : String} (x : EcH h C bm) (hb : vbm.contains (.type T) = true) : (Value.ref C :: bm).contains (.type T) = true := by
  obtain ⟨N, nm, q, bs, hdct, sn, sub, ab, col, dd, k0, k1, k2, k3, k5, mN, hC, hN, hmN, TT⟩ := x
  rw [List.contains_cons, TT.tail.hasType hb, Bool.or_true]
end
end L2
set_option Elab.async false
set_option linter.all false
set_option maxRecDepth 100000
namespace L2
open PySem PySem.Spec PyProof.Rows
section
variable {M : Model} {prog : Program} {w : World} {A : Around} {E : Value -> Shared -> Prop} {h : Heap} {g : Array GenState} {d : Drawn} {t : Nat} {os : OsState} {a C : Addr} {o : Obj} {bm : List Value}
end
end L2
set_option Elab.async false
set_option linter.all false
set_option maxRecDepth 100000
namespace L2
open PySem PySem.Spec PyProof.Rows
section
variable {X : Cx}
end
end L2
set_option Elab.async false
set_option linter.all false
set_option maxRecDepth 100000
namespace L2
open PySem PySem.Spec PyProof.Rows
section
variable {P : Program} {w : World} {l : List Env} {H H' : Hp} {s s' : Shared} {E : XK} {a T C : Addr}
end
section
variable {X : Cx} {pins : List (Addr × Obj)} {σ : St} {H : Hp} {s s' : Shared} {E : XK} {e : Value} {M : Model} {A : Around} {F : Value -> Shared -> Prop} {L : Addr}
end
end L2
set_option Elab.async false
set_option linter.all false
set_option maxRecDepth 100000
namespace L2
open PySem PySem.Spec PyProof.Rows
section
variable {M : Model} {A : Around} {E : Value -> Shared -> Prop} {h : Heap} {g : Array GenState} {d : Drawn} {t : Nat} {os : OsState} {a C C' : Addr} {oe : Obj} {bm bm' : List Value}
end
section
variable {X : Cx} {k : Nat} {f : Addr} {fd : FuncData} {ps : List Str} {sp : Sp} {dvs : List V} {ds : List Value} {x : Str} {p pos apos : Pos} {e : Expr} {es : List Expr} {t : TA}
end
end L2
set_option Elab.async false
set_option linter.all false
set_option maxRecDepth 100000
namespace L2
open PySem PySem.Spec PyProof.Rows
section
variable {X : Cx} {K : PySem.W.Frag}
end
end L2
set_option Elab.async false
set_option linter.all false
set_option maxRecDepth 100000
namespace L2
open PySem PySem.Spec PyProof.Rows
structure PEo (X : Cx) (e : Expr) (t : TE) : Prop where
  go : PE X e t
structure PAo (X : Cx) (es : List Expr) (t : TA) : Prop where
  go : PA X es t
structure PSo (X : Cx) (st : Stmt) (t : TS) : Prop where
  go : PS X st t
structure PSso (X : Cx) (sts : List Stmt) (t : TS) : Prop where
  go : PSs X sts t
section
variable {X : Cx} {pos : Pos} {e a b : Expr} {es : List Expr} {te ta tb : TE} {t : TA} {st : Stmt} {gH : List Stmt} {ts us : TS}
end
end L2
set_option Elab.async false
set_option linter.all false
set_option maxRecDepth 100000
namespace L2
open PySem PySem.Spec PyProof.Rows
def tDt (K : PySem.W.Frag) (Z : List Addr) (S : St -> Prop) (d : PyData) : TE := fun σ H Q => S σ /\ Fx Z H /\ ∀ v H', aE H H' -> Den K (Vw Z H') d v -> Q v H'
def tDA (K : PySem.W.Frag) (Z : List Addr) (S : St -> Prop) (ds : List PyData) : TA := fun σ H Q => S σ /\ Fx Z H /\ ∀ vs H', aE H H' -> aR K (Vw Z H') ds vs -> Q vs H'
structure Dt (X : Cx) (K : PySem.W.Frag) (Z : List Addr) (S : St -> Prop) (e : Expr) (d : PyData) : Prop where
  go : PE X e (tDt K Z S d)
structure DA (X : Cx) (K : PySem.W.Frag) (Z : List Addr) (S : St -> Prop) (es : List Expr) (ds : List PyData) : Prop where
  go : PA X es (tDA K Z S ds)
section
variable {X : Cx} {K : PySem.W.Frag} {Z : List Addr} {S : St -> Prop} {te : TE} {pos : Pos} {e a b : Expr} {es : List Expr} {d : PyData} {ds : List PyData}
theorem PE.imp {t t' : TE} (h : PE X e t) (q : ∀ σ H Q, t' σ H Q -> t σ H Q) : PE X e t' := fun pins s σ H Q I z => h pins s σ H Q I (q σ H Q z)
theorem PA.imp {t t' : TA} (h : PA X es t) (q : ∀ σ H Q, t' σ H Q -> t σ H Q) : PA X es t' := fun pos pins s σ H Q I z => h pos pins s σ H Q I (q σ H Q z)
theorem PSso.ex {sts : List Stmt} {t : TS} {R : TS -> Prop} (h : PSso X sts t) (r : R t) : ∃ t, PSs X sts t /\ R t := ⟨t, h.go, r⟩
end
end L2
set_option Elab.async false
set_option linter.all false
set_option maxRecDepth 100000
namespace L2
open PySem PySem.Spec PyProof.Rows
section
variable {X : Cx} {tg l : Expr} {body : List Stmt} {tl : TE} {g : TG} {tb : TS} {pos : Pos}
end
end L2
set_option Elab.async false
set_option linter.all false
set_option maxRecDepth 100000
namespace L2
open PySem PySem.Spec PyProof.Rows
end L2
set_option Elab.async false
set_option linter.all false
set_option maxRecDepth 100000
namespace L2
open PySem PySem.Spec PyProof.Rows
def kB : List Int -> Nat
  | [] => 0
  | k :: r => if k ∈ r then kB r else kB r + 1
def jE (l : List Int) : Nat := kB l.reverse
theorem yZ (l : List Int) (k : Int) : jE (l ++ [k]) = if k ∈ l then jE l else jE l + 1 := by
  unfold jE
  rw [List.reverse_append]
  show kB (k :: l.reverse) = _
  simp only [kB, List.mem_reverse]
theorem oI : ∀ l : List Int, kB l <= l.length
  | [] => Nat.le_refl _
  | k :: r => by
    have := oI r
    unfold kB
    split <;> simp <;> omega
theorem aBT (l : List Int) : jE l <= l.length := by
  have := oI l.reverse
  rwa [List.length_reverse] at this
theorem mL : ∀ l : List Int, kB l = l.length ↔ l.Nodup
  | [] => by simp [kB]
  | k :: r => by
    have h1 := mL r
    have h2 := oI r
    unfold kB
    rw [List.nodup_cons, <- h1, List.length_cons]
    by_cases hk : k ∈ r
    · rw [if_pos hk]
      constructor
      · intro h; omega
      · intro h; exact absurd hk h.1
    · rw [if_neg hk]
      constructor
      · intro h; exact ⟨hk, by omega⟩
      · intro h; omega
theorem vM (l : List Int) : jE l = l.length ↔ l.Nodup := by
  have h := mL l.reverse
  rw [List.length_reverse] at h
  unfold jE
  rw [h]
  unfold List.Nodup
  rw [List.pairwise_reverse]
  constructor <;> intro h <;> exact h.imp fun z => Ne.symm z
section
variable {prog : Program} {w : World} {A : Around} {E : Value -> Shared -> Prop} {s : Shared}
theorem zC {a : Addr} {S : Int -> Bool} {n : Nat} {k : Int} {t : Tok} {Q : Bool -> Shared -> Prop} (hS : s.heap.SetOf (intKind prog w) a S n) (hroom : n + 1 < scanBound)
    (h : ∀ h', Heap.SameBut a s.heap h' -> h'.SetOf (intKind prog w) a (fun k' => S k' || decide (k' = k)) (if S k then n else n + 1) -> Q (!S k) { s with heap := h', toks := s.toks + 1 }) :
    wpAny (model prog w) A (setAdd a (.int k t)) Q E s := by
  have hkey : (intKind prog w).is k (.int k t) = true := by simp [intKind, Value.isInt]
  unfold setAdd
  refine wpAny_bind ((intKind prog w).pyHash hkey ?_)
  exact wpAny_setAddHashed_of (s := { s with toks := s.toks + 1 }) hkey rfl hS hroom fun h' hsb hS' => h h' hsb hS'
theorem aAI {I S : Addr} {fp wr : List Addr} {ns : List Int} {P : Nat -> Value -> Prop} {St : Nat -> Heap -> Prop} {R : Result -> Shared -> Prop} (W : Walks prog w A.in1 I fp wr ns.length P St)
    (hP : ∀ i v, P i v -> ∃ k t, ns[i]? = some k /\ v = .int k t) (hfp : ∀ c ∈ fp, c ≠ S) (hwr : S ∉ wr) (hlen : ns.length + 1 < scanBound) :
    ∀ (j i : Nat) (s : Shared), i + j = ns.length -> St i s.heap -> s.heap.SetOf (intKind prog w) S (fun k => decide (k ∈ ns.take i)) (jE (ns.take i)) ->
      (∀ h' tk, h'.SetOf (intKind prog w) S (fun k => decide (k ∈ ns)) (jE ns) -> (∀ b o, b ≠ S -> b ∉ wr -> s.heap.get? b = some o -> h'.get? b = some o) -> R (.ok (.ret .none)) { s with heap := h', toks := tk }) ->
      codeAny (model prog w) A (.builtin "set.update.loop" ⟨[.ref S, .ref I], []⟩) R s := by
  intro j
  induction j with
  | zero =>
    intro i s hi st hS h
    have e : i = ns.length := by omega
    subst e
    rw [List.take_length] at hS
    refine aAx W st fun h' tk k => h h' tk ?_ fun b o _ hb e => k b o hb e
    obtain ⟨o, es, ep, t, e, c⟩ := hS
    exact ⟨o, es, ep, t, k _ _ hwr e, c⟩
  | succ j ih =>
    intro i s hi st hS h
    refine aAw W (i := i) (by omega) st fun v h2 tk2 hv st2 k2 => ?_
    obtain ⟨k, t, hk, rfl⟩ := hP i v hv
    have hS2 : h2.SetOf (intKind prog w) S (fun k => decide (k ∈ ns.take i)) (jE (ns.take i)) := by
      obtain ⟨o, es, ep, t, e, c⟩ := hS
      exact ⟨o, es, ep, t, k2 _ _ hwr e, c⟩
    have hd := aBT (ns.take i)
    rw [List.length_take] at hd
    refine zC (s := { s with heap := h2, toks := tk2 }) hS2 (by omega) fun h3 sb hS3 => ?_
    have et : ns.take (i + 1) = ns.take i ++ [k] := by rw [List.take_succ, hk]; rfl
    refine ih (i + 1) _ (by omega) (W.frame _ _ _ st2 fun c hc o e => (sb.2 c (hfp c hc)).trans e) ?_ fun h' tk hS' kp => ?_
    · have e1 : (fun k_1 => decide (k_1 ∈ ns.take (i + 1))) = (fun k' => decide (k' ∈ ns.take i) || decide (k' = k)) := by
        funext k'
        rw [et]
        simp
      have e2 : jE (ns.take (i + 1)) = if decide (k ∈ ns.take i) = true then jE (ns.take i) else jE (ns.take i) + 1 := by
        rw [et, yZ]
        by_cases z : k ∈ ns.take i
        · rw [if_pos z, if_pos (decide_eq_true z)]
        · rw [if_neg z, if_neg (by simpa using z)]
      rw [e1, e2]
      exact hS3
    · exact h h' tk hS' fun b o nb hb e => kp b o nb hb ((sb.2 b nb).trans (k2 b o hb e))
set_option maxHeartbeats 3200000 in
theorem pT {l : Addr} {its : Array Value} {ns : List Int} {Q : Value -> Shared -> Prop} (hh : A.handled = none) (hl : s.heap.IsList l its) (hi : IntsAre its.toList ns) (hlen : ns.length + 1 < scanBound)
    (h : ∀ (h' : Heap) (tk : Nat), h'.SetOf (intKind prog w) s.heap.objs.size (fun k => decide (k ∈ ns)) (jE ns) -> (∀ b o, b < s.heap.objs.size -> s.heap.get? b = some o -> h'.get? b = some o) -> Q (.ref s.heap.objs.size) { s with heap := h', toks := tk }) :
    wpAny (model prog w) A (call (.type "set") [.ref l]) Q E s := by
  obtain ⟨c, tl, hmro⟩ := PySem.F.called_set.mro
  have hmade := PySem.F.called_set.made
  have hsub := PySem.F.called_set.sub
  refine wpAny_call (codeAny_of_tree ?_)
  show wpAny _ _ (callAny (.type "set") _) _ _ _
  refine wpAny_pure ⟨Code.quiet_builtin _ (by decide +kernel), codeAny_builtin PySem.F.entry_type_call ?_⟩
  rw [Around.under_plain (weight_type_call_type "set" [.ref l] []) rfl]
  have h1 := PySem.F.called_set.notType
  have h2 := PySem.F.called_set.canCreate
  have hct := PySem.F.typeCall_set_1 (.ref l)
  repeat (any_goals (first | assumption | wp_step))
  refine codeAny_mono (oE (.ref l) (E := E) (Q₁ := fun obj s₁ => obj = .ref s.heap.objs.size /\ s₁ = { s with heap := s.heap.push { cls := .type "set", dict := none, data := .set #[] 0 (.fresh 0 0 (Led w)) } }) ⟨rfl, rfl⟩) fun r s₁ hr => ?_
  cases r with
  | error e => exact hr
  | ok fl =>
    cases fl with
    | ret obj =>
      obtain ⟨rfl, rfl⟩ := hr
      generalize hled : Led w = led at h ⊢
      have hS : (s.heap.push { cls := .type "set", dict := none, data := .set #[] 0 (.fresh 0 0 led) }).get? s.heap.objs.size = some { cls := .type "set", dict := none, data := .set #[] 0 (.fresh 0 0 led) } := Heap.get?_push_size _ rfl
      have hT : Shared.TypeIs { s with heap := s.heap.push { cls := .type "set", dict := none, data := .set #[] 0 (.fresh 0 0 led) } } (.ref s.heap.objs.size) "set" := ⟨_, hS, rfl⟩
      have hli := PySem.F.called_set.init.lookup
      have hbi := PySem.F.called_set.init.bind (.ref s.heap.objs.size)
      repeat (any_goals (first | assumption | wp_step))
      refine codeAny_mono (codeAny_call_builtin (R := wants (fun r s₂ => r = .none /\ ∃ h' tk, s₂ = { s with heap := h', toks := tk } /\ h'.SetOf (intKind prog w) s.heap.objs.size (fun k => decide (k ∈ ns)) (jE ns) /\
          (∀ b o, b < s.heap.objs.size -> s.heap.get? b = some o -> h'.get? b = some o)) E) PySem.F.called_set.init.plain PySem.F.entry_set_init (check_set_init_1 hT ?_)) fun r₂ s₂ hr₂ => ?_
      · obtain ⟨ol, hol, hcl, nl, hdl⟩ := hl
        obtain ⟨ocls, odict, odata, oslots⟩ := ol
        simp only at hcl hdl
        subst hcl; subst hdl
        have hol' : (s.heap.push { cls := .type "set", dict := none, data := .set #[] 0 (.fresh 0 0 led) }).get? l = some { cls := .type "list", dict := odict, data := .seq its nl, slots := oslots } := Heap.get?_push_of_some _ hol
        have hsls := PySem.F.sub_list_set
        have hslf := PySem.F.sub_list_frozenset
        have hne : (Value.type "list" == Value.type "dict") = false := by decide
        have hl1 : (s.heap.push { cls := .type "set", dict := none, data := .set #[] 0 (.fresh 0 0 led) }).IsList l its := ⟨_, hol', rfl, nl, rfl⟩
        unfold Builtin.«set.__init__» noKeywords Builtin.Frozenset.updateFrom
        generalize hPI : pyIter = PI
        wp_walk
        subst hPI
        refine wpAny_pyIter_list hl1 ?_
        refine wpAny_bind (wpAny_runValue ?_)
        have hlS : l < s.heap.objs.size := Heap.lt_size hol
        have hh3 : A.in1.in1.in1.handled = none := by simp [hh]
        generalize hH1 : s.heap.push { cls := .type "set", dict := none, data := .set #[] 0 (.fresh 0 0 led) } = H1 at *
        have szH1 : H1.objs.size = s.heap.objs.size + 1 := by rw [<- hH1, Heap.size_push]
        have hneI : l ≠ H1.objs.size := by rw [szH1]; exact Nat.ne_of_lt (Nat.lt_succ_of_lt hlS)
        have W := Walks.list (prog := prog) (w := w) hh3 H1.objs.size l hneI its
        have hsz : its.size = ns.length := by rw [<- hi.length, Array.length_toList]
        rw [hsz] at W
        generalize hS0 : s.heap.objs.size = S at *
        have SI : S ≠ H1.objs.size := by omega
        have lS : l ≠ S := Nat.ne_of_lt hlS
        refine aAI W (fun i v hv => ?_) (fun c hc => ?_) (by simpa using SI) hlen ns.length 0 _ (by omega) ⟨⟨_, Heap.get?_push_size _ rfl, rfl, rfl⟩, hl1.push _⟩ ?_ fun h6 tk6 x6 k6 => ?_
        · have hv' : its[i]? = some v := hv
          have hil : i < its.toList.length := by
            rw [Array.length_toList]
            exact (Array.getElem?_eq_some_iff.mp hv').1
          have e1 : its.toList[i]? = some v := by rw [Array.getElem?_toList]; exact hv'
          obtain ⟨k, t, e2, e3⟩ := IntsAre.at hi i v e1
          exact ⟨k, t, e3, e2⟩
        · rcases List.mem_cons.mp hc with z | z
          · rw [z]; exact Ne.symm SI
          · have z' : c = l := by simpa using z
            rw [z']; exact lS
        · refine ⟨_, #[], 0, _, Heap.get?_push_of_some _ hS, ⟨rfl, rfl, rfl⟩, rfl, fun e he => by simp at he, fun k => by simp, by decide, by rfl, rfl⟩
        · show wpAny _ _ _ _ _ _
          refine wpAny_pure ?_
          show wpAny _ _ (ret Value.none) _ _ _
          refine wpAny_pure ⟨rfl, h6, tk6, rfl, x6, fun c o hc e => ?_⟩
          have c1 : c ≠ S := Nat.ne_of_lt hc
          have c2 : c ∉ [H1.objs.size] := by
            intro z
            have z' : c = H1.objs.size := by simpa using z
            omega
          exact k6 c o c1 c2 (Heap.get?_push_of_some _ (hH1 ▸ Heap.get?_push_of_some _ e))
      · cases r₂ with
        | error e => exact hr₂
        | ok fl₂ =>
          cases fl₂ with
          | ret r =>
            obtain ⟨rfl, h', tk, rfl, hS', hk'⟩ := hr₂
            repeat (any_goals (first | assumption | wp_step))
            exact h _ _ hS' hk'
          | _ => exact hr₂.elim
    | _ => exact hr.elim
end
end L2
set_option Elab.async false
set_option linter.all false
set_option maxRecDepth 100000
namespace L2
open PySem PySem.Spec PyProof.Rows
theorem qL : ∀ {vs : List Value} {ns : List Int}, aX (ns.map V.int) vs -> IntsAre vs ns
  | [], [], _ => .nil
  | v :: vs, n :: ns, h => by
    cases h with
    | cons r t =>
      obtain ⟨k, rfl⟩ := r
      exact .cons n k (qL t)
  | [], n :: ns, h => by cases h
  | v :: vs, [], h => by cases h
section
variable {X : Cx}
theorem zD {K : PySem.W.Frag} (hK : X.K = K) (hc : X.calm = true) : eY X (.type "set") (fun xs H Q => ∃ (l : Addr) (ns : List Int), xs = [.ref l] /\ SqL K H l (ns.map V.int) /\ ns.length <= 40 /\ ∀ p, H p = none -> Q (.ref p) (upd H p (.set (fun k => decide (k ∈ ns)) (jE ns)))) := by
  subst hK
  intro pins s σ H xs us Q I r h
  obtain ⟨l, ns, rfl, hL, hn, q⟩ := h
  obtain ⟨u, rfl, rx⟩ := gJ r
  cases rx
  obtain ⟨its, rv, pl, hz⟩ := I.list hL
  refine pT (I.ok.hd hc) pl.isList (qL rv) (Nat.lt_of_le_of_lt (Nat.succ_le_succ hn) (by decide)) fun h' tk x kp => ?_
  have kp' : ∀ b o, s.heap.get? b = some o -> h'.get? b = some o := fun b o e => kp b o (Heap.lt_size e) e
  have hf := I.hok.fresh (Nat.le_refl s.heap.objs.size)
  exact ⟨.ref s.heap.objs.size, _, I.laid (t' := tk) kp' (Nat.le_refl _) (show bM X.prog X.w _ _ _ (.set _ _) from x), rfl, q _ hf⟩
theorem pU : eY X (.builtin "len") (fun xs H Q => ∃ p S n, xs = [.ref p] /\ H p = some (.set S n) /\ Q (.int (n : Nat)) H) := by
  intro pins s σ H xs us Q I r h
  obtain ⟨p, S, n, rfl, hp, q⟩ := h
  obtain ⟨u, rfl, rx⟩ := gJ r
  cases rx
  obtain ⟨o, es, ep, t, ho, hex, hd, _, _, hb, hf, hn⟩ := I.hok p _ hp
  subst hn
  have hb' : es.size < 2 ^ 20 := Nat.lt_trans hb (by decide)
  have : (2 : Int) ^ 63 = 9223372036854775808 := by decide
  have : (2 : Nat) ^ 20 = 1048576 := by decide
  exact PySem.call_len_set ho hex hd hf (by omega) ⟨.int es.size, H, I.tok _, ⟨_, rfl⟩, q⟩
end
end L2
set_option Elab.async false
set_option linter.all false
set_option maxRecDepth 100000
namespace L2
open PySem PySem.Spec PyProof.Rows
section
variable {prog : Program} {w : World} {A : Around} {E : Value -> Shared -> Prop} {s : Shared} {e it l : Addr} {n : Nat} {P : Nat -> Value -> Prop} {st : Nat -> Heap -> Prop}
end
section
variable {X : Cx} {es : List Expr} {x1 : Nat} {tpos : Pos}
end
end L2
set_option Elab.async false
set_option linter.all false
set_option maxRecDepth 100000
namespace L2
open PySem PySem.Spec PyProof.Rows
theorem aAJ {n : Nat} (h : n <= 1000) : n <= sizeLine := by rw [sizeLine_eq]; omega
section
variable {own : Nat} {fr : List Nat} {g : TG} {te : TE} {σ : St} {H : Hp} {Qf : Hp -> List V -> Prop} {K : PySem.W.Frag}
theorem aBU {vs : List V} {i : Nat} {v : V} (h : vs[i]? = some v) : vs.take (i + 1) = vs.take i ++ [v] := by rw [List.take_succ, h]; rfl
theorem rG {J : It} {n : Nat} {vs : List V} (SH : St -> Prop) (hn : n <= 1000) (hl : vs.length = n) (hσ : SH (blk own fr σ)) (hstop : ∀ H', aE H H' -> J.stop n H') (hgo : ∀ i H', i < n -> aE H H' -> J.go i H')
    (hs : ∀ i v x σ H1 H2, i < n -> vs[i]? = some v -> SH σ -> aE H H1 -> J.yld i H1 x H2 -> ∀ Q : V -> St -> Hp -> Prop, (∀ σ2 H4, SH σ2 -> aE H1 H4 -> Q v σ2 H4) -> g x σ H2 fun σ2 H3 => te σ2 H3 fun y H4 => Q y σ2 H4)
    (hd : ∀ H', aE H H' -> Qf H' vs) :
    ∃ W : Nat -> Nat -> List V -> St -> Hp -> Prop, (∃ m, W 0 m [] (blk own fr σ) H) /\ ∀ i m ys σ' H, W i m ys σ' H ->
      (J.stop i H /\ Qf H ys) ∨
      (J.go i H /\ ∃ N : List V -> St -> Hp -> Prop, (∀ ys' σ2 H2, N ys' σ2 H2 -> ∃ m', m' < m /\ W (i + 1) m' ys' σ2 H2) /\
        ∀ x H', J.yld i H x H' -> g x σ' H' fun σ2 H2 => vH σ2 H2 fun b H3 => if b = true then te σ2 H3 fun y H4 => ys.length < sizeLine /\ N (ys ++ [y]) σ2 H4 else N ys σ2 H3) := by
  refine jO n (aAJ hn) SH (fun i ys H' => ys = vs.take i /\ aE H H') hσ ⟨rfl, aE.refl H⟩ (fun i ys H' p => by rw [p.1, List.length_take]; omega) (fun ys H' p => hstop H' p.2) (fun i ys H' hi p => hgo i H' hi p.2) ?_ (fun ys H' p => ?_)
  · rintro i ys σ' x H1 H2 hi sh ⟨rfl, s1⟩ hy hz
    have hv : vs[i]? = some vs[i] := List.getElem?_eq_getElem (by omega)
    have h := hs i vs[i] x σ' H1 H2 hi hv sh s1 hy (fun y σ2 H4 => (vs.take i).length < sizeLine /\ SH σ2 /\ (vs.take i ++ [y] = vs.take (i + 1) /\ aE H H4)) fun σ2 H4 sh2 s4 => ⟨hz, sh2, (aBU hv).symm, s1.trans s4⟩
    exact h
  · obtain ⟨rfl, s1⟩ := p
    rw [List.take_of_length_le (by omega)]
    exact hd H' s1
theorem tH {a : Addr} {xs vs : List V} (SH : St -> Prop) (hn : xs.length <= 1000) (hl : vs.length = xs.length) (ha : SqL K H a xs) (hσ : SH (blk own fr σ))
    (hs : ∀ (i : Nat) x v σ H1, xs[i]? = some x -> vs[i]? = some v -> SH σ -> aE H H1 -> ∀ Q : V -> St -> Hp -> Prop, (∀ σ2 H4, SH σ2 -> aE H1 H4 -> Q v σ2 H4) -> g x σ H1 fun σ2 H2 => te σ2 H2 fun y H4 => Q y σ2 H4)
    (hd : ∀ H', aE H H' -> Qf H' vs) :
    ∃ W : Nat -> Nat -> List V -> St -> Hp -> Prop, (∃ m, W 0 m [] (blk own fr σ) H) /\ ∀ i m ys σ' H, W i m ys σ' H ->
      ((Itl K a).stop i H /\ Qf H ys) ∨
      ((Itl K a).go i H /\ ∃ N : List V -> St -> Hp -> Prop, (∀ ys' σ2 H2, N ys' σ2 H2 -> ∃ m', m' < m /\ W (i + 1) m' ys' σ2 H2) /\
        ∀ x H', (Itl K a).yld i H x H' -> g x σ' H' fun σ2 H2 => vH σ2 H2 fun b H3 => if b = true then te σ2 H3 fun y H4 => ys.length < sizeLine /\ N (ys ++ [y]) σ2 H4 else N ys σ2 H3) := by
  refine rG SH hn hl hσ (fun H' s => ⟨xs, s.seqL ha, Nat.le_refl _⟩) (fun i H' hi s => ⟨xs, xs[i], s.seqL ha, List.getElem?_eq_getElem hi⟩) (fun i v x σ H1 H2 hi hv sh s y Q k => ?_) hd
  obtain ⟨e, y⟩ := y
  subst e
  exact hs i x v σ _ (y xs (s.seqL ha)) hv sh s Q k
theorem aAK {a : Addr} {xs vs : List V} (SH : St -> Prop) (hn : xs.length <= 1000) (hl : vs.length = xs.length) (ha : SqT K H a xs) (hσ : SH (blk own fr σ))
    (hs : ∀ (i : Nat) x v σ H1, xs[i]? = some x -> vs[i]? = some v -> SH σ -> aE H H1 -> ∀ Q : V -> St -> Hp -> Prop, (∀ σ2 H4, SH σ2 -> aE H1 H4 -> Q v σ2 H4) -> g x σ H1 fun σ2 H2 => te σ2 H2 fun y H4 => Q y σ2 H4)
    (hd : ∀ H', aE H H' -> Qf H' vs) :
    ∃ W : Nat -> Nat -> List V -> St -> Hp -> Prop, (∃ m, W 0 m [] (blk own fr σ) H) /\ ∀ i m ys σ' H, W i m ys σ' H ->
      ((Itt K a).stop i H /\ Qf H ys) ∨
      ((Itt K a).go i H /\ ∃ N : List V -> St -> Hp -> Prop, (∀ ys' σ2 H2, N ys' σ2 H2 -> ∃ m', m' < m /\ W (i + 1) m' ys' σ2 H2) /\
        ∀ x H', (Itt K a).yld i H x H' -> g x σ' H' fun σ2 H2 => vH σ2 H2 fun b H3 => if b = true then te σ2 H3 fun y H4 => ys.length < sizeLine /\ N (ys ++ [y]) σ2 H4 else N ys σ2 H3) := by
  refine rG SH hn hl hσ (fun H' s => ⟨xs, s.seqT ha, Nat.le_refl _⟩) (fun i H' hi s => ⟨xs, xs[i], s.seqT ha, List.getElem?_eq_getElem hi⟩) (fun i v x σ H1 H2 hi hv sh s y Q k => ?_) hd
  obtain ⟨e, y⟩ := y
  subst e
  exact hs i x v σ _ (y xs (s.seqT ha)) hv sh s Q k
theorem aAL {k1 k2 : Sk} {a b : Addr} {xs zs vs : List V} (SH : St -> Prop) (hn : xs.length <= 1000) (hle : xs.length <= zs.length) (hl : vs.length = xs.length) (ha : ∀ H', aE H H' -> SqK k1 K H' a xs /\ SqK k2 K H' b zs) (hσ : SH (blk own fr σ))
    (hs : ∀ (i : Nat) x z v p σ H1, xs[i]? = some x -> zs[i]? = some z -> vs[i]? = some v -> H1 p = none -> SH σ -> aE H H1 -> ∀ Q : V -> St -> Hp -> Prop, (∀ σ2 H4, SH σ2 -> aE H1 H4 -> Q v σ2 H4) -> g (.ref p) σ (upd H1 p (.tup [x, z])) fun σ2 H2 => te σ2 H2 fun y H4 => Q y σ2 H4)
    (hd : ∀ H', aE H H' -> Qf H' vs) :
    ∃ W : Nat -> Nat -> List V -> St -> Hp -> Prop, (∃ m, W 0 m [] (blk own fr σ) H) /\ ∀ i m ys σ' H, W i m ys σ' H ->
      ((Itz K k1 k2 a b).stop i H /\ Qf H ys) ∨
      ((Itz K k1 k2 a b).go i H /\ ∃ N : List V -> St -> Hp -> Prop, (∀ ys' σ2 H2, N ys' σ2 H2 -> ∃ m', m' < m /\ W (i + 1) m' ys' σ2 H2) /\
        ∀ x H', (Itz K k1 k2 a b).yld i H x H' -> g x σ' H' fun σ2 H2 => vH σ2 H2 fun b H3 => if b = true then te σ2 H3 fun y H4 => ys.length < sizeLine /\ N (ys ++ [y]) σ2 H4 else N ys σ2 H3) := by
  refine rG SH hn hl hσ (fun H' s => ⟨xs, zs, (ha H' s).1, (ha H' s).2, by omega⟩) (fun i H' hi s => ⟨xs, zs, xs[i], zs[i]'(by omega), (ha H' s).1, (ha H' s).2, List.getElem?_eq_getElem hi, List.getElem?_eq_getElem (by omega)⟩) (fun i v x σ H1 H2 hi hv sh s y Q k => ?_) hd
  obtain ⟨q, hq, rfl, hy⟩ := y
  obtain ⟨x, z, h1, h2, rfl⟩ := hy xs zs (ha H1 s).1 (ha H1 s).2
  exact hs i x z v q σ H1 h1 h2 hv hq sh s Q k
end
end L2
set_option Elab.async false
set_option linter.all false
set_option maxRecDepth 100000
namespace L2
open PySem PySem.Spec PyProof.Rows
section
variable {X : Cx} {st : Stmt} {gH : List Stmt} {t u : TS} {e : Expr} {te : TE} {tt : TT}
end
section
variable {X : Cx} {K : PySem.W.Frag}
theorem tI (hK : X.K = K) : IxR X (aDG K) := by subst hK; exact fP
theorem pV (hK : X.K = K) : OpR X (compareOp .NotIn) (rIn K true) := by subst hK; exact kS
end
end L2
set_option Elab.async false
set_option linter.all false
set_option maxRecDepth 100000
namespace L2
open PySem PySem.Spec PyProof.Rows
theorem pW (xs : Array Value) : slicePick xs none none (some (-1)) = xs.toList.reverse.toArray := by
  unfold slicePick
  have e1 : sliceBounds none none (some (-1)) xs.size = ((xs.size : Int) - 1, -1, -1) := by simp [sliceBounds]
  rw [e1, <- tD xs]
  congr 1
  show List.filterMap (fun x => xs[x]?) (sliceRange ((xs.size : Int) - 1) (-1) (-1)) = _
  have e2 : sliceRange ((xs.size : Int) - 1) (-1) (-1) = (List.range xs.size).map fun (k : Nat) => ((xs.size : Int) - 1 + (k : Int) * (-1)).toNat := by
    unfold sliceRange
    rw [if_neg (by decide)]
    have e3 : (if (xs.size : Int) - 1 > -1 then ((xs.size : Int) - 1 - -1 - -1 - 1) / (- -1) else 0).toNat = xs.size := by
      by_cases h0 : xs.size = 0
      · rw [h0]; decide
      · rw [if_pos (by omega), show (- -1 : Int) = 1 from rfl, Int.ediv_one]; omega
    show (List.range (if (xs.size : Int) - 1 > -1 then ((xs.size : Int) - 1 - -1 - -1 - 1) / (- -1) else 0).toNat).map _ = _
    rw [e3]
    refine List.map_congr_left fun k _ => ?_
    congr 1
    omega
  rw [e2, List.filterMap_map]
  rfl
section
variable {X : Cx}
def aDO (K : PySem.W.Frag) (te ts : TE) : TE := fun σ H Q => te σ H fun x H1 => ts σ H1 fun y H2 => y = .int (-1) /\ ∃ a xs, x = .ref a /\ SqL K H2 a xs /\ ∀ p, H2 p = none -> Q (.ref p) (upd H2 p (.lst xs.reverse))
theorem xD {e st : Expr} {te ts : TE} {pos p2 : Pos} (he : PE X e te) (hst : PE X st ts) : PE X (.Subscript e (.Slice none none (some st) p2) pos) (aDO X.K te ts) := by
  intro pins s σ H Q I h
  refine Subscript_ (thn (he pins s σ H _ I h) fun v s1 hx9 => ?_)
  obtain ⟨x, H1, I1, r1, q1⟩ := hx9
  refine wpAny_Slice ?_
  rw [evalPart_none]
  refine wpAny_pure ?_
  show wpAny _ _ (evalPart none X.env) _ _ s1
  rw [evalPart_none]
  refine wpAny_pure ?_
  show wpAny _ _ (evalPart (some st) X.env) _ _ s1
  rw [evalPart_some]
  refine thn (hst pins s1 σ H1 _ I1 q1) fun vst s3 hx9 => ?_
  obtain ⟨y, H3, I3, r3, q3⟩ := hx9
  obtain ⟨rfl, a, xs, rfl, hx, q⟩ := q3
  obtain ⟨tk, rfl⟩ := r3
  cases r1
  have I4 : Inv X pins σ H3 { s3 with heap := s3.heap.push { cls := .type "slice", data := .fields #[.none, .none, .int (-1) tk] } } := I3.kept (t' := s3.toks) fun b ob q => Heap.get?_push_of_some _ q
  obtain ⟨its, r, ht, hz⟩ := I4.list hx
  have hlen := r.length
  have hg : wpAny (model X.prog X.w) X.A (getItem (.ref a) (.ref s3.heap.objs.size)) (EP X pins σ Q) X.xe { s3 with heap := s3.heap.push { cls := .type "slice", data := .fields #[.none, .none, .int (-1) tk] } } := by
    refine wpAny_getItem_list_slice ht.isList (Heap.IsSliceOf.new ..) .none .none (.int (-1) tk) (by decide) ?_ (by rw [List.size_toArray]; omega)
    rw [pW]
    refine ⟨.ref _, _, I4.laid (t' := s3.toks) (o := .lst xs.reverse) (fun b ob q => Heap.get?_push_of_some _ q) (Nat.le_refl _) ?_, rfl, q _ (I4.hok.fresh (Nat.le_refl _))⟩
    exact ⟨by rw [List.length_reverse]; exact hz, its.reverse, 0, r.reverse, Heap.get?_push_size _ rfl⟩
  show wpAny (model X.prog X.w) X.A (subscriptTail e (.Slice none none (some st) p2) (.ref a) (.ref s3.heap.objs.size)) (EP X pins σ Q) X.xe { s3 with heap := s3.heap.push { cls := .type "slice", data := .fields #[.none, .none, .int (-1) tk] } }
  exact tail_any (ops := [.ref a, .ref s3.heap.objs.size]) ht.isList.typeIs slot_list_getitem.lookup hg (by with_unfolding_all rfl)
end
section
variable {K : PySem.W.Frag} {S : List Addr} {H H' H0 : Hp} {E E' : Hp -> V -> Prop} {σ : St} {te ta tb ts : TE} {t tr : TA} {tl th : TO}
instance {a : Addr} {xs : List V} : Mo (fun H v => v = .ref a /\ SqT K (Vw S H) a xs) := ⟨fun e h => ⟨h.1, (Vw.same e).seqT h.2⟩⟩
end
end L2
set_option Elab.async false
set_option linter.all false
set_option maxRecDepth 100000
namespace L2
open PySem PySem.Spec PyProof.Rows
section
variable {prog : Program} {w : World} {A : Around} {R : Result -> Shared -> Prop} {s : Shared} {elt tg iter tg2 iter2 : Expr} {scope : Scope} {pos : Pos} {it acc : Value} {env : Env}
end
end L2
set_option Elab.async false
set_option linter.all false
set_option maxRecDepth 100000
namespace L2
open PySem PySem.Spec PyProof.Rows
end L2
set_option Elab.async false
set_option linter.all false
set_option maxRecDepth 100000
namespace L2
open PySem PySem.Spec PyProof.Rows
section
variable {X : Cx} {scope : Scope} {own frn : List Str} {fr : List Nat} {elt tg iter tg2 iter2 : Expr} {pos : Pos} {wi wi2 : TI} {g g2 : TG} {te : TE}
end
end L2
set_option Elab.async false
set_option linter.all false
set_option maxRecDepth 100000
namespace L2
open PySem PySem.Spec PyProof.Rows
section
variable {own : Nat} {fr : List Nat} {g g2 : TG} {wi2 : TI} {te : TE} {σ : St} {H : Hp} {Qf : Hp -> List V -> Prop} {K : PySem.W.Frag}
end
section
variable {X : Cx}
end
end L2
set_option Elab.async false
set_option linter.all false
set_option maxRecDepth 100000
namespace L2
open PySem PySem.Spec PyProof.Rows
section
variable {κ : Type} [DecidableEq κ]
def cS (kvs : List (κ × V)) (k : κ) : Option V := (kvs.find? fun kv => decide (kv.1 = k)).map (·.2)
def iQ (kvs : List (κ × V)) (k : κ) (v : V) : List (κ × V) :=
  if (kvs.any fun kv => decide (kv.1 = k)) = true then kvs.map (fun kv => if kv.1 = k then (kv.1, v) else kv) else kvs ++ [(k, v)]
def aCv (kvs : List (κ × V)) (k : κ) : List (κ × V) := kvs.filter fun kv => decide (kv.1 ≠ k)
theorem aAM {k : κ} : cS ([] : List (κ × V)) k = none := rfl
theorem cV {p : κ × V} {r : List (κ × V)} {k : κ} (e : p.1 = k) : cS (p :: r) k = some p.2 := by simp [cS, List.find?_cons, e]
theorem dM {p : κ × V} {r : List (κ × V)} {k : κ} (e : ¬ p.1 = k) : cS (p :: r) k = cS r k := by simp [cS, List.find?_cons, e]
theorem fY (k : κ) : ∀ kvs : List (κ × V), (kvs.any fun kv => decide (kv.1 = k)) = (cS kvs k).isSome
  | [] => rfl
  | p :: r => by
    rw [List.any_cons]
    by_cases e : p.1 = k
    · simp only [cV e, decide_eq_true e, Bool.true_or, Option.isSome_some]
    · rw [dM e, decide_eq_false e, Bool.false_or]; exact fY k r
theorem tJ (k j : κ) (y : V) : ∀ kvs : List (κ × V), cS (kvs.map fun kv => if kv.1 = k then (kv.1, y) else kv) j = (cS kvs j).map fun x => if j = k then y else x
  | [] => rfl
  | p :: r => by
    have ih := tJ k j y r
    rw [List.map_cons]
    by_cases h : p.1 = k
    · rw [if_pos h]
      by_cases e : p.1 = j
      · rw [cV (p := (p.1, y)) e, cV e, Option.map_some, if_pos (e.symm.trans h)]
      · rw [dM (p := (p.1, y)) e, dM e, ih]
    · rw [if_neg h]
      by_cases e : p.1 = j
      · rw [cV (p := p) e, cV e, Option.map_some, if_neg (fun z => h (e.trans z))]
      · rw [dM (p := p) e, dM e, ih]
theorem lY (k j : κ) (y : V) : ∀ kvs : List (κ × V), cS kvs k = none -> cS (kvs ++ [(k, y)]) j = if j = k then some y else cS kvs j
  | [], _ => by
    by_cases e : k = j
    · rw [if_pos e.symm]; exact cV (p := (k, y)) e
    · rw [if_neg (fun z => e z.symm)]; exact dM (p := (k, y)) e
  | p :: r, hn => by
    rw [List.cons_append]
    have hk : ¬ p.1 = k := fun z => by rw [cV z] at hn; cases hn
    rw [dM hk] at hn
    have ih := lY k j y r hn
    by_cases e : p.1 = j
    · rw [cV e, cV e, if_neg (fun z => hk (e.trans z))]
    · rw [dM e, dM e, ih]
theorem tK (kvs : List (κ × V)) (k j : κ) (y : V) : cS (iQ kvs k y) j = if j = k then some y else cS kvs j := by
  unfold iQ
  by_cases a : (kvs.any fun kv => decide (kv.1 = k)) = true
  · rw [if_pos a, tJ]
    rw [fY] at a
    by_cases e : j = k
    · obtain ⟨x, hx⟩ := Option.isSome_iff_exists.mp a
      rw [if_pos e, e, hx, Option.map_some, if_pos rfl]
    · rw [if_neg e]
      cases cS kvs j with
      | none => rfl
      | some x => rw [Option.map_some, if_neg e]
  · rw [if_neg a]
    refine lY k j y kvs ?_
    rw [fY] at a
    cases q : cS kvs k with
    | none => rfl
    | some x => rw [q] at a; exact (a rfl).elim
theorem jJ (kvs : List (κ × V)) (k : κ) (v : V) : (iQ kvs k v).length <= kvs.length + 1 := by
  unfold iQ
  split
  · rw [List.length_map]; omega
  · rw [List.length_append, List.length_cons, List.length_nil]; omega
theorem aAN {kvs : List (κ × V)} {k : κ} (v : V) (h : cS kvs k = none) : iQ kvs k v = kvs ++ [(k, v)] := by
  unfold iQ
  rw [fY, h]
  exact if_neg (by decide)
theorem mS.isSome_eq {o : Option V} {u : Option Value} (r : mS o u) : o.isSome = u.isSome := by
  cases o with
  | none => cases u with
    | none => rfl
    | some _ => exact (show False from r).elim
  | some _ => cases u with
    | none => exact (show False from r).elim
    | some _ => rfl
theorem mS.getD {o : Option V} {u : Option Value} {d : V} {d' : Value} (r : mS o u) (rd : bG d d') : bG (o.getD d) (u.getD d') := by
  cases o with
  | none => cases u with
    | none => exact rd
    | some _ => exact (show False from r).elim
  | some _ => cases u with
    | none => exact (show False from r).elim
    | some _ => exact r
theorem KV.val {kvs : List (κ × V)} {vs : List (κ × Value)} (r : KV kvs vs) (k : κ) : mS (cS kvs k) (valueAt vs k) := by
  unfold KV at r
  induction r with
  | nil => exact True.intro
  | @cons p q ps qs h t ih =>
    obtain ⟨h1, h2⟩ := h
    by_cases e : p.1 = k
    · have e' : q.1 = k := h1.symm.trans e
      have b : valueAt (q :: qs) k = some q.2 := by simp [valueAt, List.find?_cons, e']
      rw [cV e, b]; exact h2
    · have e' : ¬ q.1 = k := fun z => e (h1.trans z)
      have b : valueAt (q :: qs) k = valueAt qs k := by simp [valueAt, List.find?_cons, e']
      rw [dM e, b]; exact ih
theorem KV.any {kvs : List (κ × V)} {vs : List (κ × Value)} (r : KV kvs vs) (k : κ) : (kvs.any fun kv => decide (kv.1 = k)) = vs.any fun kv => decide (kv.1 = k) := by
  unfold KV at r
  induction r with
  | nil => rfl
  | cons h t ih => rw [List.any_cons, List.any_cons, ih, h.1]
theorem KV.repl {kvs : List (κ × V)} {vs : List (κ × Value)} (r : KV kvs vs) (k : κ) {y : V} {u : Value} (ry : bG y u) :
    KV (kvs.map fun kv => if kv.1 = k then (kv.1, y) else kv) (vs.map fun kv => if kv.1 = k then (kv.1, u) else kv) := by
  unfold KV at r ⊢
  induction r with
  | nil => exact .nil
  | @cons p q ps qs h t ih =>
    rw [List.map_cons, List.map_cons]
    refine .cons ?_ ih
    obtain ⟨h1, h2⟩ := h
    by_cases e : p.1 = k
    · rw [if_pos e, if_pos (h1.symm.trans e)]; exact ⟨h1, ry⟩
    · rw [if_neg e, if_neg (fun z => e (h1.trans z))]; exact ⟨h1, h2⟩
theorem KV.put {kvs : List (κ × V)} {vs : List (κ × Value)} (r : KV kvs vs) (k : κ) {y : V} {u : Value} (ry : bG y u) : KV (iQ kvs k y) (stored vs k u) := by
  unfold iQ stored
  rw [r.any k]
  by_cases e : (vs.any fun kv => decide (kv.1 = k)) = true
  · rw [if_pos e, if_pos e]; exact r.repl k ry
  · rw [if_neg e, if_neg e]; exact Paired.snoc r ⟨rfl, ry⟩
theorem KV.drop {kvs : List (κ × V)} {vs : List (κ × Value)} (r : KV kvs vs) (k : κ) : KV (aCv kvs k) (without vs k) := by
  unfold KV at r ⊢
  unfold aCv without
  induction r with
  | nil => exact .nil
  | @cons p q ps qs h t ih =>
    obtain ⟨h1, h2⟩ := h
    rw [List.filter_cons, List.filter_cons]
    by_cases e : p.1 = k
    · have a : ¬ decide (p.1 ≠ k) = true := by simp [e]
      have b : ¬ decide (q.1 ≠ k) = true := by simp [h1.symm.trans e]
      rw [if_neg a, if_neg b]; exact ih
    · have e' : ¬ q.1 = k := fun z => e (h1.trans z)
      have a : decide (p.1 ≠ k) = true := by simp [e]
      have b : decide (q.1 ≠ k) = true := by simp [e']
      rw [if_pos a, if_pos b]; exact .cons ⟨h1, h2⟩ ih
theorem KV.keys {kvs : List (κ × V)} {vs : List (κ × Value)} (r : KV kvs vs) : kvs.map (·.1) = vs.map (·.1) := by
  unfold KV at r
  induction r with
  | nil => rfl
  | cons h t ih => rw [List.map_cons, List.map_cons, ih, h.1]
theorem KV.length {kvs : List (κ × V)} {vs : List (κ × Value)} (r : KV kvs vs) : kvs.length = vs.length := Paired.length r
end
theorem qM {P : Program} {w : World} {k : Key} {u : Value} (r : bG (kV k) u) : (bZ P w).is k u = true := by
  cases k with
  | inl i => obtain ⟨t, e⟩ := (show ∃ t, u = Value.int i t from r); subst e; exact sI P w i t
  | inr x => obtain ⟨t, e⟩ := (show ∃ t, u = Value.str x t from r); subst e; exact sJ P w x t
theorem qN {P : Program} {w : World} : ∀ {ks : List Key} {us : List Value}, aX (ks.map kV) us -> ItemsAre (bZ P w) ks us
  | [], _, r => by rw [List.map_nil] at r; cases r; exact .nil
  | k :: ks, _, r => by
    rw [List.map_cons] at r
    cases r with
    | cons h t => exact .cons (qM h) (qN t)
abbrev KT (H : Hp) : List (List Key × V) -> List (List Key × Addr × Value) -> Prop := Paired fun p q => p.1 = q.1 /\ H q.2.1 = some (.tup (p.1.map kV)) /\ bG p.2 q.2.2
theorem KT.val {H : Hp} {kvs : List (List Key × V)} {xs : List (List Key × Addr × Value)} (r : KT H kvs xs) (k : List Key) : mS (cS kvs k) ((atKey xs k).map (·.2)) := by
  induction r with
  | nil => exact True.intro
  | @cons p q ps qs h t ih =>
    obtain ⟨h1, _, h2⟩ := h
    by_cases e : p.1 = k
    · have e' : q.1 = k := h1.symm.trans e
      have b : atKey (q :: qs) k = some q.2 := by simp [atKey, List.find?_cons, e']
      rw [cV e, b]; exact h2
    · have e' : ¬ q.1 = k := fun z => e (h1.trans z)
      have b : atKey (q :: qs) k = atKey qs k := by simp [atKey, List.find?_cons, e']
      rw [dM e, b]; exact ih
theorem KT.repl {H : Hp} {kvs : List (List Key × V)} {xs : List (List Key × Addr × Value)} (r : KT H kvs xs) (k : List Key) {y : V} {u : Value} (ry : bG y u) :
    KT H (kvs.map fun kv => if kv.1 = k then (kv.1, y) else kv) (xs.map (putAt k u)) := by
  induction r with
  | nil => exact .nil
  | @cons p q ps qs h t ih =>
    rw [List.map_cons, List.map_cons]
    refine .cons ?_ ih
    obtain ⟨h1, h2, h3⟩ := h
    unfold putAt
    by_cases e : p.1 = k
    · rw [if_pos e, if_pos (h1.symm.trans e)]; exact ⟨h1, h2, ry⟩
    · rw [if_neg e, if_neg (fun z => e (h1.trans z))]; exact ⟨h1, h2, h3⟩
theorem KT.put {H : Hp} {kvs : List (List Key × V)} {xs : List (List Key × Addr × Value)} (r : KT H kvs xs) (k : List Key) {b : Addr} {y : V} {u : Value} (hb : H b = some (.tup (k.map kV))) (ry : bG y u) :
    KT H (iQ kvs k y) (storedH xs k b u) := by
  have e : (kvs.any fun kv => decide (kv.1 = k)) = (atKey xs k).isSome := by
    rw [fY, (r.val k).isSome_eq, Option.isSome_map]
  unfold iQ storedH
  rw [e]
  by_cases q : (atKey xs k).isSome = true
  · rw [if_pos q, if_pos q]; exact r.repl k ry
  · rw [if_neg q, if_neg q]; exact Paired.snoc r ⟨rfl, hb, ry⟩
theorem KT.keeps {H H' : Hp} {kvs : List (List Key × V)} {xs : List (List Key × Addr × Value)} (r : KT H kvs xs) (ht : ∀ b ys, H b = some (.tup ys) -> H' b = some (.tup ys)) : KT H' kvs xs :=
  Paired.mapP r fun _ _ z => ⟨z.1, ht _ _ z.2.1, z.2.2⟩
section
variable {P : Program} {w : World} {H : Hp} {h : Heap} {a : Addr}
theorem aCw {u : HO} (ok : HOk P w H h) (e : Rd H a u) : bM P w H h a u := e.ok ok
theorem tL {kvs : List (Key × V)} (ok : HOk P w H h) (e : Rd H a (.dK kvs)) : kvs.length <= sizeLine /\ (a == sysModules) = false /\ ∃ vs, KV kvs vs /\ h.DictOf (bZ P w) a vs :=
  show bM P w H h a (.dK kvs) from aCw ok e
theorem aDP {kvs : List (Key × V)} (ok : HOk P w H h) (e : H a = some (.dK kvs)) : kvs.length <= sizeLine /\ (a == sysModules) = false /\ ∃ vs, KV kvs vs /\ h.DictOf (bZ P w) a vs := tL ok (.inl e)
theorem oJ {ks : List Key} (ok : HOk P w H h) (e : H a = some (.tup (ks.map kV))) : (tupleKind (bZ P w)).is h ks a := by
  obtain ⟨_, its, n, r, e1⟩ := (show bM P w H h a (.tup (ks.map kV)) from ok a _ e)
  exact ⟨_, its.toArray, n, e1, rfl, rfl, by simpa using qN r⟩
theorem tM {kvs : List (List Key × V)} (ok : HOk P w H h) (e : Rd H a (.dT kvs)) : kvs.length <= sizeLine /\ (a == sysModules) = false /\
    ∃ xs, KT H kvs xs /\ h.DictOfH (tupleKind (bZ P w)) a xs := by
  obtain ⟨z, y, xs, r, o, es, ep, h1, h2, h3, h4, h5⟩ := (show bM P w H h a (.dT kvs) from aCw ok e)
  refine ⟨z, y, xs, r, o, es, ep, h1, h2, h3, h4, fun x hx => ?_, h5⟩
  have all : ∀ {l : List (List Key × V)} {m : List (List Key × Addr × Value)}, KT H l m -> ∀ x ∈ m, (tupleKind (bZ P w)).is h x.1 x.2.1 := by
    intro l m q
    induction q with
    | nil => intro x hx; exact nomatch hx
    | @cons p q ps qs hq t ih =>
      intro x hx
      rcases List.mem_cons.mp hx with e | hx
      · subst e
        exact oJ ok (by rw [<- hq.1]; exact hq.2.1)
      · exact ih x hx
  exact all r x hx
theorem aDQ {kvs : List (List Key × V)} (ok : HOk P w H h) (e : H a = some (.dT kvs)) : kvs.length <= sizeLine /\ (a == sysModules) = false /\
    ∃ xs, KT H kvs xs /\ h.DictOfH (tupleKind (bZ P w)) a xs := tM ok (.inl e)
end
def lZ (H : Hp) (a : Addr) (y : V) (r : Option V) : Prop :=
  (∃ kvs k, Rd H a (.dK kvs) /\ y = kV k /\ r = cS kvs k) ∨ ∃ kvs k b, Rd H a (.dT kvs) /\ y = .ref b /\ H b = some (.tup (k.map kV)) /\ r = cS kvs k
def tN (H : Hp) (a : Addr) (y v : V) (H' : Hp) : Prop :=
  (∃ kvs k, H a = some (.dK kvs) /\ y = kV k /\ kvs.length < sizeLine /\ H' = upd H a (.dK (iQ kvs k v))) ∨
  ∃ kvs k b, H a = some (.dT kvs) /\ y = .ref b /\ H b = some (.tup (k.map kV)) /\ kvs.length < sizeLine /\ H' = upd H a (.dT (iQ kvs k v))
theorem lZ.k {H : Hp} {a : Addr} {kvs : List (Key × V)} {k : Key} (e : H a = some (.dK kvs)) : lZ H a (kV k) (cS kvs k) := .inl ⟨kvs, k, .inl e, rfl, rfl⟩
theorem lZ.t {H : Hp} {a b : Addr} {kvs : List (List Key × V)} {k : List Key} (e : H a = some (.dT kvs)) (eb : H b = some (.tup (k.map kV))) : lZ H a (.ref b) (cS kvs k) := .inr ⟨kvs, k, b, .inl e, rfl, eb, rfl⟩
theorem tN.k {H : Hp} {a : Addr} {kvs : List (Key × V)} {k : Key} {v : V} (e : H a = some (.dK kvs)) (hl : kvs.length < sizeLine) : tN H a (kV k) v (upd H a (.dK (iQ kvs k v))) := .inl ⟨kvs, k, e, rfl, hl, rfl⟩
theorem tN.t {H : Hp} {a b : Addr} {kvs : List (List Key × V)} {k : List Key} {v : V} (e : H a = some (.dT kvs)) (eb : H b = some (.tup (k.map kV))) (hl : kvs.length < sizeLine) :
    tN H a (.ref b) v (upd H a (.dT (iQ kvs k v))) := .inr ⟨kvs, k, b, e, rfl, eb, hl, rfl⟩
section
variable {X : Cx} {pins : List (Addr × Obj)} {σ : St} {H : Hp} {s : Shared} {a : Addr} {y v : V} {u r : Value} {o : Option V} {A : Around} {E : Value -> Shared -> Prop}
theorem Inv.big (I : Inv X pins σ H s) : sysModules < s.heap.objs.size := by
  have h : mainGlobals < s.heap.objs.size := (I.mod.glob.keeps I.bk).lt
  exact Nat.lt_trans (by decide) h
theorem zE {Q : Value -> Shared -> Prop} (hu : A.units + 1 < cLine) (I : Inv X pins σ H s) (g : lZ H a y (some v)) (ry : bG y u) (h : ∀ w' s', Inv X pins σ H s' -> bG v w' -> Q w' s') :
    wpAny (model X.prog X.w) A (getItem (.ref a) u) Q E s := by
  rcases g with ⟨kvs, k, e, ey, l⟩ | ⟨kvs, k, b, e, ey, eb, l⟩
  · subst ey
    obtain ⟨z, hd, vs, rel, dd⟩ := tL I.hok e
    obtain ⟨w', hw, rw'⟩ := mS.some_of (v := v) (o := valueAt vs k) (by rw [l]; exact rel.val k)
    exact wpAny_getItem_of (qM ry) dd.mapOf hw (h w' _ (I.tok _) rw')
  · subst ey
    cases (show u = Value.ref b from ry)
    obtain ⟨z, hd, xs, rel, dd⟩ := tM I.hok e
    obtain ⟨w', hw, rw'⟩ := mS.some_of (v := v) (o := (atKey xs k).map (·.2)) (by rw [l]; exact rel.val k)
    obtain ⟨p, hp, hp2⟩ := Option.map_eq_some_iff.mp hw
    refine wpAny_getItem_heap (tupleKind_room_in1 hu) (oJ I.hok eb) dd hp ?_
    rw [hp2]
    exact h w' _ (I.tok _) rw'
theorem aEm {Q : Value -> Shared -> Prop} (hu : A.units + 1 < cLine) (I : Inv X pins σ H s) (g : lZ H a y o) (ry : bG y u) (h : ∀ s', Inv X pins σ H s' -> Q (.bool o.isSome) s') :
    wpAny (model X.prog X.w) A (compareOp .In u (.ref a)) Q E s := by
  rcases g with ⟨kvs, k, e, ey, l⟩ | ⟨kvs, k, b, e, ey, eb, l⟩
  · subst ey
    obtain ⟨z, hd, vs, rel, dd⟩ := tL I.hok e
    refine wpAny_in_of (qM ry) hd dd.mapOf ?_
    rw [<- (rel.val k).isSome_eq, <- l]
    exact h _ (I.tok _)
  · subst ey
    cases (show u = Value.ref b from ry)
    obtain ⟨z, hd, xs, rel, dd⟩ := tM I.hok e
    refine wpAny_in_heap (tupleKind_room_in1 hu) (oJ I.hok eb) hd dd ?_
    have q := (rel.val k).isSome_eq
    rw [Option.isSome_map] at q
    rw [<- q, <- l]
    exact h _ (I.tok _)
theorem aBV {Q : Value -> Shared -> Prop} (hu : A.units + 1 < cLine) (I : Inv X pins σ H s) (g : lZ H a y o) (ry : bG y u) (h : ∀ s', Inv X pins σ H s' -> Q (.bool (!o.isSome)) s') :
    wpAny (model X.prog X.w) A (compareOp .NotIn u (.ref a)) Q E s := by
  rcases g with ⟨kvs, k, e, ey, l⟩ | ⟨kvs, k, b, e, ey, eb, l⟩
  · subst ey
    obtain ⟨z, hd, vs, rel, dd⟩ := tL I.hok e
    refine wpAny_notIn_of (qM ry) hd dd.mapOf ?_
    rw [<- (rel.val k).isSome_eq, <- l]
    exact h _ (I.tok _)
  · subst ey
    cases (show u = Value.ref b from ry)
    obtain ⟨z, hd, xs, rel, dd⟩ := tM I.hok e
    refine wpAny_notIn_heap (tupleKind_room_in1 hu) (oJ I.hok eb) hd dd ?_
    have q := (rel.val k).isSome_eq
    rw [Option.isSome_map] at q
    rw [<- q, <- l]
    exact h _ (I.tok _)
theorem rH {h' : Heap} {t' : Nat} {ob : HO} (I : Inv X pins σ H s) (mu : Mut (H a)) (hs : Heap.SameBut a s.heap h') (he : ∃ q, h'.get? a = some q) (new : bM X.prog X.w (upd H a ob) h' a ob) :
    Inv X pins σ (upd H a ob) { s with heap := h', toks := t' } :=
  I.write (x := a) (e := a) mu (.inl rfl) (fun b q hb z => (hs.2 b hb).trans z) he new
theorem aAO {P : Program} {w : World} {H' : Hp} {h' : Heap} {kvs : List (Key × V)} {vs : List (Key × Value)} (z : kvs.length <= sizeLine) (hd : (a == sysModules) = false) (rel : KV kvs vs) (dd : h'.DictOf (bZ P w) a vs) :
    bM P w H' h' a (.dK kvs) := ⟨z, hd, vs, rel, dd⟩
theorem zF {H' : Hp} {Q : Unit -> Shared -> Prop} (hu : A.units + 1 < cLine) (I : Inv X pins σ H s) (g : tN H a y v H') (ry : bG y u) (rv : bG v r) (h : ∀ s', Inv X pins σ H' s' -> Q () s') :
    wpAny (model X.prog X.w) A (setItem (.ref a) u r) Q E s := by
  rcases g with ⟨kvs, k, e, ey, l, eH⟩ | ⟨kvs, k, b, e, ey, eb, l, eH⟩
  · subst ey eH
    obtain ⟨z, hd, vs, rel, dd⟩ := aDP I.hok e
    have hz : vs.length <= sizeLine := by rw [<- rel.length]; exact z
    have hl : (iQ kvs k v).length <= sizeLine := by have := jJ kvs k v; omega
    refine wpAny_setItem_pairs (hsz := hz) (qM ry) dd fun h' dd' hs => h _ ?_
    have he : ∃ q, h'.get? a = some q := let ⟨q, _, _, hq, _⟩ := dd'; ⟨q, hq⟩
    exact rH I (by rw [e]; exact True.intro) hs he (aAO hl hd (rel.put k rv) dd')
  · subst ey eH
    cases (show u = Value.ref b from ry)
    obtain ⟨z, hd, xs, rel, dd⟩ := aDQ I.hok e
    have hz : xs.length <= sizeLine := by rw [<- Paired.length rel]; exact z
    have hl : (iQ kvs k v).length <= sizeLine := by have := jJ kvs k v; omega
    refine wpAny_setItem_heap (hsz := hz) (tupleKind_room_in1 hu) (oJ I.hok eb) dd fun h' dd' hs => h _ ?_
    obtain ⟨q, es, ep, hq, h2, h3, h4, _, h5⟩ := dd'
    refine rH I (by rw [e]; exact True.intro) hs ⟨q, hq⟩ ⟨hl, hd, _, (rel.put k eb rv).keeps fun c ys ec => ?_, q, es, ep, hq, h2, h3, h4, h5⟩
    rw [aH (aDm ec e (fun z => nomatch z))]
    exact ec
end
section
variable {X : Cx} {pins : List (Addr × Obj)} {σ : St} {H : Hp} {s : Shared} {a : Addr} {kvs : List (Key × V)} {k : Key} {u : Value} {A : Around} {E : Value -> Shared -> Prop}
end
def aDR (i : Expr) : Prop := ∀ ov iv, subscripted i false ov iv = operate [ov, iv] (getItem ov iv)
theorem aBW {prog : Program} {w : World} {A : Around} {E : Value -> Shared -> Prop} {s : Shared} {env : Env} {value slice : Expr} {pos : Pos} {T id : String} {Q : Value -> Shared -> Prop}
    (hl : typeLookup (.type T) "__getitem__" = pure (some (.builtin id))) (hs : aDR slice)
    (h : wpAny (model prog w) A (eval value env) (fun o s₁ => wpAny (model prog w) A (eval slice env) (fun i s₂ => s₂.TypeIs o T /\ wpAny (model prog w) A (getItem o i) Q E s₂) E s₁) E s) :
    wpAny (model prog w) A (eval (.Subscript value slice pos) env) Q E s := by
  refine Subscript_ (wpAny_mono h (fun o s₁ h₁ => wpAny_mono h₁ (fun i s₂ h₂ => ?_) fun _ _ x => x) fun _ _ x => x)
  obtain ⟨hT, h₂⟩ := h₂
  unfold subscriptTail
  refine wpAny_bind ?_
  rw [getitemInPython_of_ne hT.not_modules]
  refine wpAny_bind (wpAny_specialOf hT hl ?_)
  have fin : wpAny (model prog w) A (subscripted slice false o i) (fun r s₃ => wpAny (model prog w) A (letTemporaryGo value o r >>= fun _ => pure r) Q E s₃) E s₂ := by
    rw [hs o i]
    exact wpAny_operating (wpAny_mono h₂ (fun r s₃ h₃ => wpAny_bind (wpAny_letTemporaryGo (wpAny_pure h₃))) fun _ _ x => x)
  first
    | exact wpAny_pure (wpAny_bind fin)
    | exact wpAny_bind (wpAny_pure (wpAny_bind fin))
    | exact wpAny_bind fin
theorem tO {X : Cx} {pins : List (Addr × Obj)} {σ : St} {H : Hp} {s : Shared} {a : Addr} {y : V} {o : Option V} (I : Inv X pins σ H s) (g : lZ H a y o) : s.TypeIs (.ref a) "dict" := by
  rcases g with ⟨kvs, k, e, _, _⟩ | ⟨kvs, k, b, e, _, _, _⟩
  · obtain ⟨_, _, vs, _, dd⟩ := tL I.hok e
    exact dd.typeIs
  · obtain ⟨_, _, xs, _, dd⟩ := tM I.hok e
    exact dd.typeIs
def aDS (td ty : TE) : TE := fun σ H Q => td σ H fun x H1 => ty σ H1 fun y H2 => ∃ a v, x = .ref a /\ lZ H2 a y (some v) /\ Q v H2
def aEn (ty td : TE) : TE := fun σ H Q => ty σ H fun y H1 => td σ H1 fun x H2 => ∃ a o, x = .ref a /\ lZ H2 a y o /\ Q (.bl o.isSome) H2
def aBX (ty td : TE) : TE := fun σ H Q => ty σ H fun y H1 => td σ H1 fun x H2 => ∃ a o, x = .ref a /\ lZ H2 a y o /\ Q (.bl (!o.isSome)) H2
def aDT (td ty tv : TE) : TS := fun D σ H => tv σ H fun v H1 => td σ H1 fun x H2 => ty σ H2 fun y H3 => ∃ a H4, x = .ref a /\ tN H3 a y v H4 /\ D.nx σ H4
section
variable {X : Cx} {o i e value : Expr} {pos pos' tpos : Pos} {td ty tv : TE}
theorem rJ (hu : X.A.units + 1 < cLine) (ho : PE X o td) (hi : PE X i ty) (hs : aDR i) : PE X (.Subscript o i pos) (aDS td ty) := by
  intro pins s σ H Q I h
  refine aBW PySem.F.slot_dict_getitem.lookup hs (thn (ho pins s σ H _ I h) fun u s1 ⟨x, H1, I1, rx, q1⟩ => thn (hi pins s1 σ H1 _ I1 q1) fun iv s2 hx9 => ?_)
  obtain ⟨y, H2, I2, ry, a, v, ex, g, q2⟩ := hx9
  subst ex
  obtain rfl : u = Value.ref a := rx
  exact ⟨tO I2 g, zE hu I2 g ry fun w' s3 I3 rw' => ⟨v, H2, I3, rw', q2⟩⟩
theorem aC1 (hu : X.A.units + 1 < cLine) (hi : PE X i ty) (ho : PE X o td) : PC X .In i o (aEn ty td) := by
  intro pins s σ H Q I h
  refine thn (hi pins s σ H _ I h) fun iv s1 ⟨y, H1, I1, ry, q1⟩ => thn (ho pins s1 σ H1 _ I1 q1) fun u s2 hx9 => ?_
  obtain ⟨x, H2, I2, rx, a, ov, ex, g, q2⟩ := hx9
  subst ex
  obtain rfl : u = Value.ref a := rx
  exact aEm hu I2 g ry fun s3 I3 => ⟨.bl ov.isSome, H2, I3, rfl, q2⟩
theorem zG (hu : X.A.units + 1 < cLine) (hi : PE X i ty) (ho : PE X o td) : PC X .NotIn i o (aBX ty td) := by
  intro pins s σ H Q I h
  refine thn (hi pins s σ H _ I h) fun iv s1 ⟨y, H1, I1, ry, q1⟩ => thn (ho pins s1 σ H1 _ I1 q1) fun u s2 hx9 => ?_
  obtain ⟨x, H2, I2, rx, a, ov, ex, g, q2⟩ := hx9
  subst ex
  obtain rfl : u = Value.ref a := rx
  exact aBV hu I2 g ry fun s3 I3 => ⟨.bl (!ov.isSome), H2, I3, rfl, q2⟩
theorem xE (hu : X.A.units + 1 < cLine) (ho : PE X o td) (hi : PE X i ty) (hv : PE X value tv) (hs : swapsWith value (some (.Subscript o i pos')) pos.line X.env = pure false) :
    PS X (.Assign [.Subscript o i pos'] value pos) (aDT td ty tv) := by
  intro pins s σ H D I h
  refine wpAny_Assign_Subscript (thn (hv pins s σ H _ I h) fun r s1 ⟨v, H1, I1, rv, q1⟩ => thn (ho pins s1 σ H1 _ I1 q1) fun u s2 ⟨x, H2, I2, rx, q2⟩ => thn (hi pins s2 σ H2 _ I2 q2) fun iv s3 hx9 => ?_) hs
  obtain ⟨y, H3, I3, ry, a, H4, ex, g, q3⟩ := hx9
  subst ex
  obtain rfl : u = Value.ref a := rx
  exact zF hu I3 g ry rv fun s4 I4 => ⟨σ, H4, I4, q3⟩
end
theorem tP {P : Program} {w : World} {H : Hp} (h : Heap) (hb : sysModules < h.objs.size) : bM P w H (h.push { cls := .type "dict", data := .dict #[] }) h.objs.size (.dK []) :=
  ⟨Nat.zero_le _, beq_eq_false_iff_ne.mpr (Ne.symm (Nat.ne_of_lt hb)), [], .nil, Heap.DictOf.new h⟩
def aC2 : TE := fun _ H Q => ∀ p, H p = none -> Q (.ref p) (upd H p (.dK []))
section
variable {X : Cx} {pos : Pos}
theorem aAP : PE X (.Dict [] [] pos) aC2 := fun pins s σ H Q I h =>
  wpAny_Dict_empty ⟨.ref s.heap.objs.size, _, I.laid (a := s.heap.objs.size) (o := .dK []) (t' := s.toks) (fun _ _ q => Heap.get?_push_of_some _ q) (Nat.le_refl _) (tP s.heap I.big), rfl, h _ (I.hok.fresh (Nat.le_refl _))⟩
end
end L2
set_option Elab.async false
set_option linter.all false
set_option maxRecDepth 100000
namespace L2
open PySem PySem.Spec PyProof.Rows
def NF (H0 : Hp) (a : Addr) : Prop := ∀ o u, H0 a ≠ some (.frz o u)
section
variable {X : Cx} {pins : List (Addr × Obj)} {σ : St} {H : Hp} {s : Shared} {a : Addr}
theorem Inv.freeze {kvs : List (Key × V)} {o : Obj} (I : Inv X pins σ H s) (e : H a = some (.dK kvs)) (ho : s.heap.get? a = some o) : Inv X pins σ (upd H a (.frz o (.dK kvs))) s := by
  have m : Mut (H a) := by rw [e]; trivial
  have q : bM X.prog X.w H s.heap a (.dK kvs) := I.hok a _ e
  exact I.write (x := a) (e := a) (t' := s.toks) m (.inl rfl) (fun b u _ z => z) ⟨o, ho⟩ ⟨ho, q⟩
theorem Inv.nf {kvs : List (Key × V)} (I : Inv X pins σ H s) (e : H a = some (.dK kvs)) : NF X.H₀ a := fun o u z => by
  have := I.base.frzs a o u z
  rw [e] at this; cases this
theorem Inv.thaw {kvs : List (Key × V)} {o : Obj} (I : Inv X pins σ H s) (e : H a = some (.frz o (.dK kvs))) (nf : NF X.H₀ a) : Inv X pins σ (upd H a (.dK kvs)) s := by
  have ne : ∀ b, H b = none -> b ≠ a := fun b n z => by rw [z, e] at n; cases n
  have nt : ∀ b xs, H b = some (.tup xs) -> b ≠ a := fun b xs n z => by rw [z, e] at n; cases n
  have no : ∀ b x, H b = some (.own x) -> b ≠ a := fun b xs n z => by rw [z, e] at n; cases n
  obtain ⟨ho, q⟩ : s.heap.get? a = some o /\ bM X.prog X.w H s.heap a (.dK kvs) := I.hok a _ e
  have un : Un X.fs X.ex X.H₀ (upd H a (.dK kvs)) X.s₀.heap s.heap := by
    refine ⟨I.base.keep, I.base.slot, fun b ob q n hx => ?_, I.base.there, fun b xs q => ?_, fun b ob u q => ?_, fun b ps q => ?_⟩
    · have z := I.base.free b ob q n hx
      rw [aH (ne b z)]; exact z
    · have z := I.base.tups b xs q
      rw [aH (nt b xs z)]; exact z
    · have z := I.base.frzs b ob u q
      have n : b ≠ a := fun y => nf ob u (y ▸ q)
      rw [aH n]; exact z
    · obtain ⟨m, z⟩ := I.base.tbls b ps q
      have n : b ≠ a := fun y => by rw [y, e] at z; cases z
      exact ⟨m, by rw [aH n]; exact z⟩
  refine ⟨I.ok, I.os, I.bare, un, I.loc, I.cell, ?_, fun x c h => ?_, fun p hp => ?_, fun b u h => ?_, I.len⟩
  · rw [aH (ne _ I.free)]; exact I.free
  · have z := I.freeC x c h
    rw [aH (ne _ z)]; exact z
  · obtain ⟨p1, p2, p3⟩ := I.pin p hp
    exact ⟨p1, by rw [aH (ne _ p2)]; exact p2, p3⟩
  · by_cases hb : b = a
    · subst hb
      rw [aC] at h
      cases h
      exact bM.stay q (fun _ _ _ z => z) (fun c z => by rw [aH (no c _ z)]; exact z) (fun c xs z => by rw [aH (nt c xs z)]; exact z)
    · rw [aH hb] at h
      exact bM.stay (I.hok b u h) (fun _ _ _ z => z) (fun c z => by rw [aH (no c _ z)]; exact z) (fun c xs z => by rw [aH (nt c xs z)]; exact z)
end
def Itd (a : Addr) (o : Obj) (kvs : List (Key × V)) : It :=
  ⟨fun i H => H a = some (.frz o (.dK kvs)) /\ i < kvs.length, fun i H x H' => H' = H /\ ∃ p, kvs[i]? = some p /\ x = kV p.1, fun i H => H a = some (.frz o (.dK kvs)) /\ i = kvs.length⟩
theorem tQ {P : Program} {w : World} {k : Key} {u : Value} (h : (bZ P w).is k u = true) : bG (kV k) u := by
  rcases cA h with ⟨i, t, rfl, rfl⟩ | ⟨x, t, rfl, rfl⟩
  · exact ⟨t, rfl⟩
  · exact ⟨t, rfl⟩
theorem mB {P : Program} {w : World} {h : Heap} {a : Addr} {o : Obj} {es : Array DictEntry} {ep : Nat} {vs : List (Key × Value)} (ho : h.get? a = some o) (hd : o.data = .dict es ep) (d : h.DictOf (bZ P w) a vs) : h.DictAt (bZ P w) a vs ep := by
  obtain ⟨o', es', ep', q1, q2, q3, r⟩ := d
  rw [ho] at q1; cases q1
  rw [hd] at q3; cases q3
  exact ⟨o, es, ho, q2, hd, r⟩
theorem zH {P : Program} {w : World} {K : PySem.W.Frag} {tg : Expr} (a it : Addr) (o : Obj) (es : Array DictEntry) (ep : Nat) (hd : o.data = .dict es ep) (kvs : List (Key × V)) :
    Turn P w K tg (Itd a o kvs) [it] it (fun i h => h.IsKeyIter it a i kvs.length ep) where
  mem := by simp
  obj := fun i h st b hb => by
    have e : b = it := by simpa using hb
    subst e
    obtain ⟨o, e, c, d⟩ := st
    exact ⟨o, e, fun v z => by rw [d] at z; cases z⟩
  keep := fun i h h' st k => st.at fun o e => k it (by simp) o e
  item := by
    intro X hP hw hK hc i pins s σ H E I hf st hg
    subst hP hw hK
    obtain ⟨hA, hi⟩ := hg
    obtain ⟨ho, hz, hs, vs, kv, dd⟩ : s.heap.get? a = some o /\ bM X.prog X.w H s.heap a (.dK kvs) := I.hok a _ hA
    have da := mB ho hd dd
    have hl : kvs.length = vs.length := kv.length
    obtain ⟨f0, f1, f2, f3, f4, f5⟩ := hf it (by simp)
    obtain ⟨⟨k, x⟩, hx⟩ : ∃ p, vs[i]? = some p := ⟨vs[i]'(by omega), by simp⟩
    rw [hl] at st
    refine wpAny_pyNext_dict_item st da hx fun key h' hkey st' sb => ?_
    have I1 : Inv X pins σ H { s with heap := h' } := I.turned (t' := s.toks) (fun b o hb e => (sb.2 b hb).trans e) f0 f1 f3 f4 f5
    obtain ⟨o', e', c', d'⟩ := id st'
    have hk : kvs[i]? = some (kvs[i]) := List.getElem?_eq_getElem hi
    have hkk : (kvs[i]).1 = k := by
      have e := kv.keys
      have e1 : (kvs.map (·.1))[i]? = some (kvs[i]).1 := by rw [List.getElem?_map, hk]; rfl
      have e2 : (vs.map (·.1))[i]? = some k := by rw [List.getElem?_map, hx]; rfl
      rw [e, e2] at e1
      exact (Option.some.inj e1).symm
    rw [<- hl] at st'
    exact ⟨key, rfl, wP (s := { s with heap := h' }) e' c' d' (by decide) ⟨kV k, H, I1, tQ hkey, ⟨rfl, _, hk, by rw [hkk]⟩, st', fun b hb => (hf b hb).1⟩⟩
  done := by
    intro X hP hw hK hc i pins s σ H E I hf st hg
    subst hP hw hK
    obtain ⟨hA, hi⟩ := hg
    obtain ⟨ho, hz, hs, vs, kv, dd⟩ : s.heap.get? a = some o /\ bM X.prog X.w H s.heap a (.dK kvs) := I.hok a _ hA
    have da := mB ho hd dd
    have hl : kvs.length = vs.length := kv.length
    obtain ⟨f0, f1, f2, f3, f4, f5⟩ := hf it (by simp)
    rw [hl] at st
    exact wpAny_pyNext_dict_end (I.ok.hd hc) st da (by simp; omega) fun h' eb => ⟨rfl, I.turned (t' := s.toks) (fun b o hb e => eb b o hb e) f0 f1 f3 f4 f5⟩
  self := fun _ _ _ _ _ st h => wpAny_pyIter_keyiter st h
section
variable {X : Cx} {tg : Expr}
def aDU (H0 : Hp) (td : TE) : TI := fun σ H R => td σ H fun x H1 => ∃ a kvs, x = .ref a /\ H1 a = some (.dK kvs) /\ ∀ o, NF H0 a -> R (Itd a o kvs) (upd H1 a (.frz o (.dK kvs)))
theorem xF {d : Expr} {td : TE} (hl : PE X d td) : PI X tg d (aDU X.H₀ td) := by
  intro pins s σ H R I h
  refine thn (hl pins s σ H _ I h) fun v s1 hx9 => ?_
  obtain ⟨x, H1, I1, r1, q1⟩ := hx9
  obtain ⟨a, kvs, e, hq, q⟩ := q1
  subst e
  cases r1
  obtain ⟨hz, hs, vs, kv, dd⟩ : bM X.prog X.w H1 s1.heap a (.dK kvs) := I1.hok a _ hq
  obtain ⟨o, es, ep, ho, oe, hd, r⟩ := id dd
  have da := mB ho hd dd
  refine wpAny_pyIter_dict hs da ?_
  have I2 := (I1.freeze hq ho).kept (h' := s1.heap.push { cls := .type "dict_keyiterator", data := .fields #[.ref a, .int 0 0, .int vs.length 0, .int ep 0] }) (t' := s1.toks) fun b o e => Heap.get?_push_of_some _ e
  have nA : a ≠ s1.heap.objs.size := Nat.ne_of_lt (Heap.lt_size ho)
  refine ⟨s1.heap.objs.size, [s1.heap.objs.size], _, _, _, rfl, I2, zH a _ o es ep hd kvs, ?_, fun b hb => ?_, q o (I1.nf hq)⟩
  · refine ⟨_, Heap.get?_push_size _ rfl, rfl, ?_⟩
    rw [kv.length]; rfl
  · have e : b = s1.heap.objs.size := by simpa using hb
    subst e
    exact I1.fpOk (Nat.le_refl _) (by rw [aH (Ne.symm nA)]; exact I1.hok.fresh (Nat.le_refl _))
def aDV (H0 : Hp) (t : TS) : TS := fun D σ H => t { D with nx := fun σ' H' => ∃ a o kvs, H' a = some (.frz o (.dK kvs)) /\ NF H0 a /\ D.nx σ' (upd H' a (.dK kvs)) } σ H
theorem aBY {st : Stmt} {t : TS} (h : PS X st t) : PS X st (aDV X.H₀ t) := by
  intro pins s σ H D I q
  refine thn (h pins s σ H _ I q) fun f s1 z => ?_
  cases f with
  | next =>
    obtain ⟨σ', H', I', a, o, kvs, e, nf, k⟩ := z
    exact ⟨σ', _, I'.thaw e nf, k⟩
  | brk => exact z
  | cont => exact z
  | ret u => exact z
end
theorem aAQ {a : Addr} {o : Obj} {kvs : List (Key × V)} {g : TG} {tb : TS} {D : Ends} {σ : St} {H : Hp} (Pv : Nat -> St -> Hp -> Prop) (h0 : Pv 0 σ H) (hl : ∀ i σ H, i <= kvs.length -> Pv i σ H -> H a = some (.frz o (.dK kvs)))
    (hs : ∀ i p σ H, kvs[i]? = some p -> Pv i σ H -> g (kV p.1) σ H fun σ2 H2 => tb { D with nx := Pv (i + 1), ct := Pv (i + 1), bk := D.nx } σ2 H2) (hd : ∀ σ H, Pv kvs.length σ H -> D.nx σ H) :
    ∃ W : Nat -> Nat -> St -> Hp -> Prop, (∃ m, W 0 m σ H) /\ ∀ i m σ H, W i m σ H ->
      ((Itd a o kvs).stop i H /\ D.nx σ H) ∨ ((Itd a o kvs).go i H /\ ∃ N : St -> Hp -> Prop, (∀ σ' H', N σ' H' -> ∃ m', m' < m /\ W (i + 1) m' σ' H') /\ ∀ x H', (Itd a o kvs).yld i H x H' -> g x σ H' fun σ2 H2 => tb { D with nx := N, ct := N, bk := D.nx } σ2 H2) := by
  refine ⟨fun i m σ H => m = kvs.length - i /\ i <= kvs.length /\ Pv i σ H, ⟨kvs.length, by simp, Nat.zero_le _, h0⟩, ?_⟩
  rintro i m σ H ⟨rfl, hi, p⟩
  have q := hl i σ H hi p
  by_cases hlt : i < kvs.length
  · refine .inr ⟨⟨q, hlt⟩, Pv (i + 1), fun σ' H' p' => ⟨kvs.length - (i + 1), by omega, rfl, hlt, p'⟩, fun x H' y => ?_⟩
    obtain ⟨rfl, v, hv, rfl⟩ := y
    exact hs i v σ H' hv p
  · have e : i = kvs.length := by omega
    subst e
    exact .inl ⟨⟨q, rfl⟩, hd σ H p⟩
end L2
set_option Elab.async false
set_option linter.all false
set_option maxRecDepth 100000
namespace L2
open PySem PySem.Spec PyProof.Rows
def aC3 (tk tv : TE) : TE := fun σ H Q => ∀ p, H p = none -> tk σ (upd H p (.dK [])) fun x H1 => tv σ H1 fun y H2 => ∃ k, x = kV k /\ H2 p = some (.dK []) /\ Q (.ref p) (upd H2 p (.dK [(k, y)]))
section
variable {X : Cx} {pos : Pos} {ek ev : Expr} {tk tv : TE}
theorem aAR (hk : PE X ek tk) (hv : PE X ev tv) (he : evalEachOpt [some ek] X.env = [some (eval ek X.env)] := by rfl) (he2 : evalEach [ev] X.env = [eval ev X.env] := by rfl) : PE X (.Dict [some ek] [ev] pos) (aC3 tk tv) := by
  intro pins s σ H Q I h
  have I0 : Inv X pins σ (upd H s.heap.objs.size (.dK [])) { s with heap := s.heap.push { cls := .type "dict", data := .dict #[] } } := I.laid (a := s.heap.objs.size) (o := .dK []) (t' := s.toks) (fun _ _ q => Heap.get?_push_of_some _ q) (Nat.le_refl _) (tP s.heap I.big)
  have h0 := h s.heap.objs.size (I.hok.fresh (Nat.le_refl _))
  refine wpAny_Dict_pairs (knd := bZ X.prog X.w) (pairs := [(eval ek X.env, do let x <- eval ev X.env; standAt pos; pure x)]) (by rw [he, he2]; rfl) (by simp) (by simp) ?_
  refine evalPairs_cons (thn (hk pins _ σ _ _ I0 h0) fun kv s1 hx9 => ?_)
  obtain ⟨x, H1, I1, r1, q1⟩ := hx9
  refine wpAny_bind (thn (hv pins _ σ _ _ I1 q1) fun vv s2 hx9 => ?_)
  obtain ⟨y, H2, I2, r2, q2⟩ := hx9
  refine wpAny_bind (wpAny_standAt (wpAny_pure (evalPairs_nil ?_)))
  obtain ⟨k, rfl, hp, q⟩ := q2
  obtain ⟨hz, hs, vs, kv', dd⟩ : bM X.prog X.w H2 s2.heap s.heap.objs.size (.dK []) := I2.hok _ _ hp
  have ev0 : vs = [] := by
    have := kv'.length
    exact List.length_eq_zero_iff.mp this.symm
  subst ev0
  refine ⟨[(k, vv)], ⟨qM r1, rfl, trivial⟩, dd, fun h' dd' sb => ?_⟩
  have em : merged ([] : List (Key × Value)) [(k, vv)] = [(k, vv)] := by simp [merged, stored]
  rw [em] at dd'
  obtain ⟨o', es', ep', ho', _⟩ := id dd'
  have mu : Mut (H2 s.heap.objs.size) := by rw [hp]; trivial
  refine ⟨.ref s.heap.objs.size, _, rH (t' := s2.toks + 1) I2 mu sb ⟨_, ho'⟩ (aAO (kvs := [(k, y)]) (by simp [sizeLine_eq]) hs (.cons ⟨rfl, r2⟩ .nil) dd'), rfl, q⟩
end
end L2
set_option Elab.async false
set_option linter.all false
set_option maxRecDepth 100000
namespace L2
open PySem PySem.Spec PyProof.Rows
section
variable {prog : Program} {w : World} {A : Around} {E : Value -> Shared -> Prop} {s : Shared}
def gZ (h : Heap) (u : Value) (i : Int) (v : Value) : Prop := ∃ p, u = .ref p /\ ((∃ its : Array Value, h.IsTuple p its /\ 0 <= i /\ i < 1000 /\ its[i.toNat]? = some v) ∨ ∃ its : Array Value, h.IsList p its /\ 0 <= i /\ i < 1000 /\ its[i.toNat]? = some v)
theorem gZ.keeps {h h' : Heap} {u : Value} {i : Int} {v : Value} (x : gZ h u i v) (k : ∀ b o, h.get? b = some o -> h'.get? b = some o) : gZ h' u i v := by
  obtain ⟨p, rfl, ⟨its, ⟨o, ho, r⟩, q⟩ | ⟨its, ⟨o, ho, r⟩, q⟩⟩ := x
  · exact ⟨p, rfl, .inl ⟨its, ⟨o, k _ _ ho, r⟩, q⟩⟩
  · exact ⟨p, rfl, .inr ⟨its, ⟨o, k _ _ ho, r⟩, q⟩⟩
theorem kY {i : Int} {n : Nat} (h0 : 0 <= i) (h1 : i.toNat < n) : seqIndex? i n = some i.toNat := by
  unfold seqIndex?
  have e : ¬ (i < 0) := by omega
  simp only [e, if_false]
  have e2 : (decide (0 <= i) && decide (i < (n : Int))) = true := by simp; omega
  rw [if_pos e2]
theorem aBZ {env : Env} {vn xn : Str} {p1 p2 p3 : Pos} {m : Str -> Option Value} {c : Addr} {u v : Value} {i : Int} {t : Tok} {Q : Value -> Shared -> Prop} (hk : env.scope.kind = .function) (hv : env.kindOf vn = some .free) (hx : env.kindOf xn = some .local)
    (hc : env.cells.lookup vn = some c) (hC : s.heap.IsCell c (some u)) (hn : s.heap.Ns env.locals m) (hm : m xn = some (.int i t)) (hI : gZ s.heap u i v) (h : Q v s)
    (d1 : (vn == ("__debug__" : Str)) = false) (d2 : (vn == ("__classdict__" : Str)) = false) (d3 : (xn == ("__debug__" : Str)) = false) :
    wpAny (model prog w) A (eval (.Subscript (.Name vn p1) (.Name xn p2) p3) env) Q E s := by
  refine Subscript_ (wpAny_Name (wpAny_loadName_free hk hv hc hC ?_ d2) d1)
  refine wpAny_Name (wpAny_loadName_local hk hx hn hm ?_) d3
  obtain ⟨p, rfl, ⟨its, hp, i0, i1, e⟩ | ⟨its, hp, i0, i1, e⟩⟩ := hI
  · have hlt : i.toNat < its.size := (Array.getElem?_eq_some_iff.mp e).1
    exact subscriptTail_builtinR (x := v) hp.typeIs slot_tuple_getitem.lookup
      (getItem_tuple (j := i.toNat) (Q := fun r s' => r = v /\ Q r s') hp (by omega) (by omega) (kY i0 hlt) e ⟨rfl, h⟩)
  · have hlt : i.toNat < its.size := (Array.getElem?_eq_some_iff.mp e).1
    exact subscriptTail_builtinR (x := v) hp.typeIs slot_list_getitem.lookup
      (wpAny_getItem_list (Q := fun r s' => r = v /\ Q r s') hp (by omega) (by omega) e ⟨rfl, h⟩)
theorem aAS {f c c' : Addr} {q nm vn xn : Str} {params : Arguments} {scope : Scope} {cl : List (Str × Addr)} {pm ctv u v : Value} {p1 p2 p3 : Pos} {i : Int} {t : Tok} {Q : Value -> Shared -> Prop} (hroom : A.depth < recursionLimit) (hlim : s.heap.NoLimit)
    (hf : s.heap.get? f = some { cls := .type "function", data := .func (PySem.W.kla_fn nm q params (.Subscript (.Name vn p1) (.Name xn p2) p3) scope cl pm (.ref c') ctv) }) (hcd : s.heap.CodeRec (.ref c') q)
    (hbind : bindArgs (PySem.W.kla_fn nm q params (.Subscript (.Name vn p1) (.Name xn p2) p3) scope cl pm (.ref c') ctv) ⟨[.int i t], []⟩ = pure [(xn, .int i t)])
    (hx : scope.names.lookup xn = some .local) (hv : scope.names.lookup vn = some .free) (hco : scope.isCoroutine = false) (hgen : scope.isGenerator = false) (hk : scope.kind = .function) (hcell : ∀ x ∈ scope.names, x.2 ≠ .cell)
    (hc : cl.lookup vn = some c) (hC : s.heap.IsCell c (some u)) (hI : gZ s.heap u i v) (h : ∀ h' tk, (∀ b o, s.heap.get? b = some o -> h'.get? b = some o) -> Q v { s with heap := h', toks := tk })
    (d1 : (vn == ("__debug__" : Str)) = false) (d2 : (vn == ("__classdict__" : Str)) = false) (d3 : (xn == ("__debug__" : Str)) = false) :
    wpAny (model prog w) A (call (.ref f) [.int i t]) Q E s := by
  refine wpAny_call (PySem.W.kla_callFunE hroom hf rfl hco hgen rfl hcd ?_)
  rw [hbind]
  refine wpAny_pure (wpAny_newFunctionEnv hcell (fun y hy => by rw [List.mem_singleton.mp hy]; exact hx) (fun h₁ hns hsb => ⟨hlim.fresh _ hsb, ?_⟩) hk)
  have hk₁ : ∀ b o, s.heap.get? b = some o -> h₁.get? b = some o := fun b o e => hsb.extBut b o (Nat.ne_of_lt (Heap.lt_size e)) (Heap.get?_push_of_some _ e)
  obtain ⟨oc, hoc, hdc⟩ := hC
  refine PySem.W.kla_codeExpr (aBZ (env := newEnv scope s.heap.objs.size mainGlobals cl (q ++ ".<locals>.") (some f) (.ref c') none builtinsNs) (m := fun x => [(xn, Value.int i t)].reverse.lookup x) (t := t) hk hv hx hc ⟨oc, hk₁ _ _ hoc, hdc⟩ hns ?_ (hI.keeps hk₁) (h h₁ _ hk₁) d1 d2 d3)
  simp [List.lookup]
section
variable {R : Result -> Shared -> Prop} {I : Addr} {fp wr : List Addr} {n : Nat} {Pv : Nat -> Value -> Prop} {St : Nat -> Heap -> Prop} {f : Addr} {kf : Nat -> Int} {L : List (Addr × Obj)}
def aAT (prog : Program) (w : World) (A : Around) (f : Addr) (L : List (Addr × Obj)) (n : Nat) (Pv : Nat -> Value -> Prop) (kf : Nat -> Int) : Prop :=
  ∀ i v (s : Shared) (Q : Value -> Shared -> Prop) (E : Value -> Shared -> Prop), i < n -> Pv i v -> (∀ p ∈ L, s.heap.get? p.1 = some p.2) ->
    (∀ h' tk t, (∀ b o, s.heap.get? b = some o -> h'.get? b = some o) -> Q (.int (kf i) t) { s with heap := h', toks := tk }) -> wpAny (model prog w) A (call (.ref f) [v]) Q E s
abbrev btK (kf : Nat -> Int) : Nat -> Nat -> Bool := fun i j => decide (kf i < kf j)
theorem rK (W : Walks prog w A.in1 I fp wr n Pv St) (hkey : aAT prog w A.in1 f L n Pv kf) (S : Addr) (hSf : S ∉ fp) (hL : ∀ p ∈ L, p.1 ∉ wr /\ p.1 ≠ S) :
    ∀ (k j : Nat) (s : Shared) (vb : Value) (t : Tok) (c : Nat), n - (j + 1) = k -> j + 1 <= n -> St (j + 1) s.heap -> Pv (argBest (btK kf) j) vb ->
    s.heap.get? S = some { cls := .type "list", dict := none, data := .seq #[vb, .int (kf (argBest (btK kf) j)) t] c, slots := #[] } -> (∀ p ∈ L, s.heap.get? p.1 = some p.2) ->
    (∀ v h' tk, Pv (argBest (btK kf) (n - 1)) v -> (∀ b o, b ∉ wr -> b ≠ S -> s.heap.get? b = some o -> h'.get? b = some o) -> R (.ok (.ret v)) { s with heap := h', toks := tk }) ->
    codeAny (model prog w) A (.builtin "min.loop" ⟨[.ref I, .ref f, .ref S], []⟩) R s := by
  have hSw : S ∉ wr := fun h => hSf (W.sub _ h)
  have hname : (toString "min" ++ toString ".loop" : String) = "min.loop" := by decide
  intro k
  induction k with
  | zero =>
    intro j s vb t c hk hj hst hPb hS hLs hR
    have hin : j + 1 = n := by omega
    refine codeAny_builtin F.entry_min_loop ?_
    rw [Around.under_plainId F.plain_min_loop _]
    show wpAny _ A.in1 (seqItems? (.ref S) >>= _) _ _ s
    refine wpAny_bind (wpAny_seqItems hS rfl ?_)
    show wpAny _ A.in1 (tryCatch (pyNext (.ref I)) _ >>= _) _ _ s
    refine wpAny_bind (wpAny_tryCatch (W.done s _ _ (hin ▸ hst) fun h' tk kk => ?_))
    have hS' := kk S _ hSw hS
    show wpAny _ A.in1 (updateSeq S (fun _ => #[]) >>= _) _ _ _
    refine wpAny_bind ?_
    refine wpAny_updateSeq hS' rfl (wpAny_bind (wpAny_letGo (wpAny_pure ?_)))
    exact hR vb _ _ (by rw [<- hin]; exact hPb) fun b o hb hbS e => (Heap.get?_update_other _ _ (Ne.symm hbS)).trans (kk b o hb e)
  | succ k ih =>
    intro j s vb t c hk hj hst hPb hS hLs hR
    have hlt : j + 1 < n := by omega
    refine codeAny_builtin F.entry_min_loop ?_
    rw [Around.under_plainId F.plain_min_loop _]
    show wpAny _ A.in1 (seqItems? (.ref S) >>= _) _ _ s
    refine wpAny_bind (wpAny_seqItems hS rfl ?_)
    show wpAny _ A.in1 (tryCatch (pyNext (.ref I)) _ >>= _) _ _ s
    refine wpAny_bind (wpAny_tryCatch (W.item (j + 1) s _ _ hlt hst fun v h1 tk1 hP hst1 kk1 => ?_))
    have hS1 := kk1 S _ hSw hS
    show wpAny _ A.in1 (tryCatch (holding [v] (call (.ref f) [v])) _ >>= _) _ _ _
    refine wpAny_bind (wpAny_tryCatch (wpAny_holding (hkey (j + 1) v _ _ _ hlt hP (fun p hp => kk1 _ _ (hL p hp).1 (hLs p hp)) fun h2 tk2 t2 kk2 => ?_)))
    have hS2 := kk2 S _ hS1
    have hst2 : St (j + 1 + 1) h2 := W.frame _ _ _ hst1 fun b _ o e => kk2 b o e
    show wpAny _ A.in1 (tryCatch (holding [v, .int (kf (j + 1)) t2] (richCompare .Lt (.int (kf (j + 1)) t2) (.int (kf (argBest (btK kf) j)) t) >>= _)) _ >>= _) _ _ _
    have hcmp : CmpOf prog w A.in1 .Lt (fun i u => ∃ t, u = .int (kf i) t) (btK kf) := CmpOf.ints_lt kf fun i v h => h
    refine wpAny_bind (wpAny_tryCatch (wpAny_holding (wpAny_bind (hcmp (j + 1) (argBest (btK kf) j) _ _ _ _ _ ⟨_, rfl⟩ ⟨_, rfl⟩ ?_))))
    refine wpAny_bind (wpAny_holding (wpAny_truthy_bool ?_))
    refine wpAny_bind (wpAny_letGo (wpAny_pure ?_))
    have kk : ∀ b o, b ∉ wr -> s.heap.get? b = some o -> h2.get? b = some o := fun b o hb e => kk2 b o (kk1 b o hb e)
    cases hb : btK kf (j + 1) (argBest (btK kf) j) with
    | true =>
      simp only [if_true]
      refine wpAny_bind ?_
      refine wpAny_updateSeq hS2 rfl (wpAny_bind (wpAny_letGo ?_))
      rw [hname]
      have eb : argBest (btK kf) (j + 1) = j + 1 := by simp only [argBest, hb, if_true]
      refine wpAny_pure ⟨plainId_quiet F.plain_min_loop _, ih (j + 1) _ v t2 _ (by omega) hlt (W.frame _ _ _ hst2 fun b hbf o e => ?_) (by rw [eb]; exact hP) (by rw [eb]; exact Heap.get?_update_self _ hS2 rfl) (fun p hp => ?_) fun v' h' tk hP' kk' => ?_⟩
      · exact (Heap.get?_update_other _ _ (fun h : S = b => hSf (by rw [h]; exact hbf))).trans e
      · exact (Heap.get?_update_other _ _ (Ne.symm (hL p hp).2)).trans (kk _ _ (hL p hp).1 (hLs p hp))
      · exact hR v' h' tk hP' fun b o hb hbS e => kk' b o hb hbS ((Heap.get?_update_other _ _ (Ne.symm hbS)).trans (kk b o hb e))
    | false =>
      simp only [Bool.false_eq_true, if_false]
      refine wpAny_bind (wpAny_letGo ?_)
      rw [hname]
      have eb : argBest (btK kf) (j + 1) = argBest (btK kf) j := by simp only [argBest, hb, Bool.false_eq_true, if_false]
      refine wpAny_pure ⟨plainId_quiet F.plain_min_loop _, ih (j + 1) _ vb t c (by omega) hlt hst2 (by rw [eb]; exact hPb) (by rw [eb]; exact hS2) (fun p hp => kk _ _ (hL p hp).1 (hLs p hp)) fun v' h' tk hP' kk' => ?_⟩
      exact hR v' h' tk hP' fun b o hb hbS e => kk' b o hb hbS (kk b o hb e)
theorem pX (W : Walks prog w A.in1 I fp wr n Pv St) (hkey : aAT prog w A.in1 f L n Pv kf) (S : Addr) (hSf : S ∉ fp) (hL : ∀ p ∈ L, p.1 ∉ wr /\ p.1 ≠ S) (hn : 0 < n) {s : Shared} {c : Nat} (hst : St 0 s.heap)
    (hS : s.heap.get? S = some { cls := .type "list", dict := none, data := .seq #[] c, slots := #[] }) (hLs : ∀ p ∈ L, s.heap.get? p.1 = some p.2)
    (hR : ∀ v h' tk, Pv (argBest (btK kf) (n - 1)) v -> (∀ b o, b ∉ wr -> b ≠ S -> s.heap.get? b = some o -> h'.get? b = some o) -> R (.ok (.ret v)) { s with heap := h', toks := tk }) :
    codeAny (model prog w) A (.builtin "min.loop" ⟨[.ref I, .ref f, .ref S], []⟩) R s := by
  have hSw : S ∉ wr := fun h => hSf (W.sub _ h)
  have hname : (toString "min" ++ toString ".loop" : String) = "min.loop" := by decide
  refine codeAny_builtin F.entry_min_loop ?_
  rw [Around.under_plainId F.plain_min_loop _]
  show wpAny _ A.in1 (seqItems? (.ref S) >>= _) _ _ s
  refine wpAny_bind (wpAny_seqItems hS rfl ?_)
  show wpAny _ A.in1 (tryCatch (pyNext (.ref I)) _ >>= _) _ _ s
  refine wpAny_bind (wpAny_tryCatch (W.item 0 s _ _ hn hst fun v h1 tk1 hP hst1 kk1 => ?_))
  have hS1 := kk1 S _ hSw hS
  show wpAny _ A.in1 (tryCatch (holding [v] (call (.ref f) [v])) _ >>= _) _ _ _
  refine wpAny_bind (wpAny_tryCatch (wpAny_holding (hkey 0 v _ _ _ hn hP (fun p hp => kk1 _ _ (hL p hp).1 (hLs p hp)) fun h2 tk2 t2 kk2 => ?_)))
  have hS2 := kk2 S _ hS1
  have hst2 : St (0 + 1) h2 := W.frame _ _ _ hst1 fun b _ o e => kk2 b o e
  show wpAny _ A.in1 (updateSeq S (fun _ => #[v, .int (kf 0) t2]) >>= _) _ _ _
  refine wpAny_bind ?_
  refine wpAny_updateSeq hS2 rfl ?_
  rw [hname]
  have kk : ∀ b o, b ∉ wr -> s.heap.get? b = some o -> h2.get? b = some o := fun b o hb e => kk2 b o (kk1 b o hb e)
  refine wpAny_pure ⟨plainId_quiet F.plain_min_loop _, rK W hkey S hSf hL _ 0 _ v t2 _ rfl hn (W.frame _ _ _ hst2 fun b hbf o e => ?_) hP (Heap.get?_update_self _ hS2 rfl) (fun p hp => ?_) fun v' h' tk hP' kk' => ?_⟩
  · exact (Heap.get?_update_other _ _ (fun h : S = b => hSf (by rw [h]; exact hbf))).trans e
  · exact (Heap.get?_update_other _ _ (Ne.symm (hL p hp).2)).trans (kk _ _ (hL p hp).1 (hLs p hp))
  · exact hR v' h' tk hP' fun b o hb hbS e => kk' b o hb hbS ((Heap.get?_update_other _ _ (Ne.symm hbS)).trans (kk b o hb e))
theorem rM (a k : Value) : argsOk "min" ⟨[a], [(Str.ofString "key", k)]⟩ := by unfold argsOk; kernel_rfl
theorem rN {id : String} {b : Builtin} {args : List Value} {kw : List (Str × Value)} {Q : Value -> Shared -> Prop} (hk : builtinKind id = none) (hp : plainId id = true)
    (hb : entryFor table id = some b) (ha : argsOk id ⟨args, kw⟩)
    (hc : wpAny (model prog w) A.in1 (b ⟨args, kw⟩) (fun fin s' => match fin with
      | .done f => (match (Except.ok f : Result) with | .ok (.ret v) => Q v s' | .ok _ => False | .error e => E e s')
      | .again c' => c'.quiet = true /\ codeAny (model prog w) A c' (fun r s' => match r with | .ok (.ret v) => Q v s' | .ok _ => False | .error e => E e s') s') E s) :
    wpAny (model prog w) A (call (.builtin id) args kw) Q E s := by
  refine wpAny_call (codeAny_call_builtin hp hb ?_)
  simp only [checkBuiltinCall, hk]
  cases hsig : Manifest.signature? id with
  | none => exact wpAny_pure hc
  | some sig =>
    simp only [argsOk, hsig] at ha
    have h2 : Bind.checkArgs id sig ⟨args, kw⟩ = pure () := ha
    show wpAny _ A.in1 (Bind.checkArgs id sig ⟨args, kw⟩) _ _ s
    rw [h2]; exact wpAny_pure hc
theorem rO {x : Value} {Q : Value -> Shared -> Prop}
    (h : wpAny (model prog w) A.in1 (pyIter x) (fun it s₂ => ∃ I fp wr n Pv St kf L, it = .ref I /\ Walks prog w A.in1 I fp wr n Pv St /\ St 0 s₂.heap /\ (∀ b ∈ fp, b < s₂.heap.objs.size) /\ 0 < n /\ aAT prog w A.in1 f L n Pv kf /\
      (∀ p ∈ L, p.1 ∉ wr) /\ (∀ p ∈ L, s₂.heap.get? p.1 = some p.2) /\
      ∀ v h' tk, Pv (argBest (btK kf) (n - 1)) v -> (∀ b o, b ∉ wr -> s₂.heap.get? b = some o -> h'.get? b = some o) -> Q v { s₂ with heap := h', toks := tk }) E s) :
    wpAny (model prog w) A (call (.builtin "min") [x] [(Str.ofString "key", .ref f)]) Q E s := by
  have hname : (toString "min" ++ toString ".loop" : String) = "min.loop" := by decide
  refine rN F.kind_min F.plain_min F.entry_min (rM _ _) ?_
  show wpAny _ A.in1 (Builtin.Builtins.bindParams "min" ["key", "default"] 0 ⟨[], [(Str.ofString "key", .ref f)]⟩ >>= _) _ _ s
  refine wpAny_bind (wpAny_of_eq (show Builtin.Builtins.bindParams "min" ["key", "default"] 0 ⟨[], [(Str.ofString "key", .ref f)]⟩ = pure [some (.ref f), none] from rfl) ?_)
  refine wpAny_bind (wpAny_pure ?_)
  refine wpAny_bind (wpAny_mono h (fun it s₂ h₂ => ?_) fun _ _ e => e)
  obtain ⟨I, fp, wr, n, Pv, St, kf, L, rfl, W, hst, hfp, hn, hkey, hLw, hLs, hQ⟩ := h₂
  refine wpAny_bind (wpAny_newObj_type ?_)
  have hSf : s₂.heap.objs.size ∉ fp := fun hm => Nat.lt_irrefl _ (hfp _ hm)
  rw [hname]
  refine wpAny_pure ⟨plainId_quiet F.plain_min_loop _, pX W hkey s₂.heap.objs.size hSf (fun p hp => ⟨hLw p hp, Nat.ne_of_lt (Heap.lt_size (hLs p hp))⟩) hn (W.frame _ _ _ hst fun b _ o e => Heap.get?_push_of_some _ e) (Heap.get?_push_size _ rfl) (fun p hp => Heap.get?_push_of_some _ (hLs p hp)) fun v h' tk hP hk => ?_⟩
  exact hQ v h' tk hP fun b o hbw e => hk b o hbw (Nat.ne_of_lt (Heap.lt_size e)) (Heap.get?_push_of_some _ e)
end
end
end L2
set_option Elab.async false
set_option linter.all false
set_option maxRecDepth 100000
namespace L2
open PySem PySem.Spec PyProof.Rows
structure Lm (K : PySem.W.Frag) (mg : Str -> Option Value) (base : Heap) (c P : Addr) : Prop where
  hd : PySem.W.codeHdIn K c P = true
  gP : mainGlobals ≠ P
  bu : base.BuiltinsAt mg P
theorem kC {pos p0 : Pos} {c cv : Value} : ∀ {l : List Value}, TriplesOk l -> codeAmong pos (l ++ [rawInt p0.line, rawInt p0.col, c]) = some cv -> codeAmong pos l = some cv ∨ cv = c
  | [], _, e => by
    simp only [List.nil_append, rawInt, codeAmong] at e
    split at e
    · exact .inr (Option.some.inj e).symm
    · cases e
  | .int a t :: .int b u :: x :: r, h, e => by
    simp only [List.cons_append, codeAmong] at e ⊢
    split
    · rename_i hc
      rw [if_pos hc] at e
      exact .inl e
    · rename_i hc
      rw [if_neg hc] at e
      exact kC (show TriplesOk r from h) e
section
variable {X : Cx} {pins : List (Addr × Obj)} {σ : St} {H : Hp} {s : Shared} {c P c' : Addr} {q : Str} {ps : Array Value} {h' : Heap} {t' : Nat}
theorem Inv.grown {p0 : Pos} (I : Inv X pins σ H s) (hT : H P = some (.tab q)) (hx : Heap.ExtBut P s.heap h') (hge : s.heap.objs.size <= c') (hcr : h'.CodeRec (.ref c') q) (hP0 : s.heap.get? P = some (PySem.W.tabObj ps)) (hPt : h'.get? P = some (PySem.W.tabObj (ps ++ #[rawInt p0.line, rawInt p0.col, .ref c']))) :
    Inv X pins σ (upd H c' (.own P)) { s with heap := h', toks := t' } := by
  have hf : H c' = none := I.hok.fresh hge
  have hn : ∀ b, H b = none -> b ≠ P := fun b n z => by rw [z, hT] at n; cases n
  have hc : ∀ b u, H b = some u -> b ≠ c' := fun b u n z => by rw [z, hf] at n; cases n
  have hlt : ∀ b o, s.heap.get? b = some o -> b ≠ c' := fun b o e => Nat.ne_of_lt (Nat.lt_of_lt_of_le (Heap.lt_size e) hge)
  obtain ⟨c2, oc, vs, tq, ec, hoc, hdc, hv⟩ := hcr
  cases ec
  refine I.un ⟨fun b o e n _ _ => hx b o (hn b n) e, fun b o e n _ _ => ⟨o.slots, hx b o (hn b n) e⟩, fun b o e n _ => by rw [aH (hlt b o e)]; exact n, fun b o e _ => ?_, fun b xs e => by rw [aH (hc b _ e)]; exact e, fun b o u e => by rw [aH (hc b _ e)]; exact e, fun b ps e => ⟨#[], by rw [aH (hc b _ e), e]; simp⟩⟩ ?_
  · by_cases hb : b = P
    · subst hb; exact ⟨_, hPt⟩
    · exact ⟨o, hx b o hb e⟩
  · intro b u e
    by_cases hb : b = c'
    · subst hb
      rw [aC] at e; cases e
      exact ⟨oc, hoc⟩
    · rw [aH hb] at e
      by_cases hbP : b = P
      · subst hbP
        rw [hT] at e; cases e
        obtain ⟨ps0, e0, tr, r⟩ : ∃ ps : Array Value, s.heap.get? b = some { cls := .none, data := .fields ps } /\ TriplesOk ps.toList /\ ∀ (pos : Pos) (cv : Value), codeAmong pos ps.toList = some cv -> ∃ (c : Addr) (o : Obj) (vs : Array Value) (t : Tok), cv = .ref c /\ H c = some (.own b) /\ s.heap.get? c = some o /\ o.data = .fields vs /\ (vs[1]? : Option Value) = some (.str q t) := I.hok b _ hT
        rw [hP0] at e0
        cases e0
        have el : (ps ++ #[rawInt p0.line, rawInt p0.col, Value.ref c']).toList = ps.toList ++ [rawInt p0.line, rawInt p0.col, .ref c'] := by simp
        refine ⟨_, hPt, by rw [el]; exact TriplesOk_snoc _ _ _ _ tr, fun pos cv z => ?_⟩
        rw [el] at z
        rcases kC tr z with z | rfl
        · obtain ⟨c3, o3, vs3, t3, r1, r2, r3, r4⟩ := r pos cv z
          have n3 : c3 ≠ b := fun y => by rw [y, hT] at r2; cases r2
          exact ⟨c3, o3, vs3, t3, r1, by rw [aH (hc _ _ r2)]; exact r2, hx _ _ n3 r3, r4⟩
        · exact ⟨c', oc, vs, tq, rfl, aC, hoc, hdc, hv⟩
      · refine (I.hok b u e).stay (fun d v hd z => hx d v ?_ z) (fun d z => by rw [aH (hc _ _ z)]; exact z) fun d xs z => by rw [aH (hc _ _ z)]; exact z
        rcases hd with rfl | hd
        · exact hbP
        · intro z
          rw [z, hT] at hd; cases hd
theorem aAU {params : Arguments} {body : Expr} {scope : Scope} {pos : Pos} {cl : List (Str × Addr)} {Q : Value -> Shared -> Prop} {E : Value -> Shared -> Prop} (I : Inv X pins σ H s) (Z : Lm X.K X.mg X.base c P) (hcode : X.env.code = .ref c) (hT : H P = some (.tab q)) (hq : X.env.qual ++ "<lambda>" = q)
    (hdef : defaultsOf params X.env = ([], [])) (hcl : closureFor scope X.env = pure cl)
    (h : ∀ f c' ctv pm s' H', Inv X pins σ H' s' -> aE H H' -> (∀ b o, b ≠ P -> s.heap.get? b = some o -> s'.heap.get? b = some o) ->
      s'.heap.get? f = some { cls := .type "function", data := .func (PySem.W.kla_fn "<lambda>" q params body scope cl pm (.ref c') ctv) } -> s'.heap.CodeRec (.ref c') q -> Q (.ref f) s') :
    wpAny (model X.prog X.w) X.A (eval (.Lambda params body scope pos) X.env) Q E s := by
  obtain ⟨ps, hP, tr, r⟩ : ∃ ps : Array Value, s.heap.get? P = some { cls := .none, data := .fields ps } /\ TriplesOk ps.toList /\ ∀ (pos : Pos) (cv : Value), codeAmong pos ps.toList = some cv -> ∃ (c : Addr) (o : Obj) (vs : Array Value) (t : Tok), cv = .ref c /\ H c = some (.own P) /\ s.heap.get? c = some o /\ o.data = .fields vs /\ (vs[1]? : Option Value) = some (.str q t) := I.hok P _ hT
  have hg : s.heap.Ns mainGlobals X.mg := I.mod.glob.keeps I.bk
  have C : PySem.W.CodeHd s.heap c P := PySem.W.codeHd_of_K I.kIn Z.hd
  have hb : s.heap.BuiltinsAt X.mg P := by
    obtain ⟨bm, o, e1, e2, e3, e4, e5, e6⟩ := Z.bu
    exact ⟨bm, o, e1, e2, e3, e4, I.bk _ _ e5, e6⟩
  refine PySem.W.kla_eval hdef ?_
  rw [hq]
  cases hf : codeAmong pos ps.toList with
  | none =>
    refine PySem.W.kla_makeFunction hcl I.ok.glob hg hcode C hP tr hf Z.gP hb fun c' ctv h' tk hx hge hlt hcr hPt => ?_
    have I1 : Inv X pins σ (upd H c' (.own P)) { s with heap := h', toks := tk } := I.grown hT hx hge hcr hP hPt
    have I2 := I1.kept (h' := h'.push (PySem.W.kla_obj "<lambda>" q params body scope cl ((X.mg "__name__").getD .none) c' ctv)) (t' := tk) fun b o e => Heap.get?_push_of_some _ e
    refine h _ c' ctv _ _ _ I2 (aE.new (I.hok.fresh hge)) (fun b o hbP e => Heap.get?_push_of_some _ (hx b o hbP e)) (Heap.get?_push_size _ rfl) ?_
    obtain ⟨c2, oc, vs, tq, ec, hoc, r⟩ := hcr
    exact ⟨c2, oc, vs, tq, ec, Heap.get?_push_of_some _ hoc, r⟩
  | some cv =>
    obtain ⟨c', o, vs, t, rfl, r2, r3, r4, r5⟩ := r pos cv hf
    refine PySem.W.kla_makeFunctionHit hcl I.ok.glob hg hcode C hP tr hf hb fun ctv h' tk kk hsz => ?_
    have I2 := I.kept (h' := h'.push { cls := .type "function", data := .func (PySem.W.kla_fn "<lambda>" q params body scope cl ((X.mg "__name__").getD .none) (.ref c') ctv) }) (t' := tk) fun b o e => Heap.get?_push_of_some _ (kk b o e)
    exact h _ c' ctv _ _ _ I2 (aE.refl H) (fun b o _ e => Heap.get?_push_of_some _ (kk b o e)) (Heap.get?_push_size _ rfl) ⟨c', o, vs, t, rfl, Heap.get?_push_of_some _ (kk _ _ r3), r4, r5⟩
end
end L2
set_option Elab.async false
set_option linter.all false
set_option maxRecDepth 100000
namespace L2
open PySem PySem.Spec PyProof.Rows
theorem kD (num : Nat -> Int) : ∀ k, ∀ l, l < argBest (btK num) k -> num (argBest (btK num) k) < num l
  | 0 => fun l hl => by simp [argBest] at hl
  | k + 1 => fun l hl => by
    have h2 := (argBest_lt num k).2
    simp only [argBest] at hl ⊢
    by_cases hc : num (k + 1) < num (argBest (btK num) k)
    · rw [if_pos (show btK num (k + 1) (argBest (btK num) k) = true from decide_eq_true hc)] at hl ⊢
      have := h2 l (by omega)
      show num (k + 1) < num l
      have e : num (argBest (fun i j => decide (num i < num j)) k) = num (argBest (btK num) k) := rfl
      omega
    · rw [if_neg (show ¬ btK num (k + 1) (argBest (btK num) k) = true from fun z => hc (of_decide_eq_true z))] at hl ⊢
      exact kD num k l hl
def xG (K : PySem.W.Frag) (H : Hp) (x : V) (ns : List Int) : Prop := ∃ a, x = .ref a /\ (SqL K H a (ns.map V.int) ∨ SqT K H a (ns.map V.int) ∨ ∃ kvs : List (Key × V), H a = some (.dK kvs) /\ kvs.map (·.1) = ns.map Sum.inl)
def xH (K : PySem.W.Frag) (H : Hp) (u : V) (n k : Int) : Prop := 0 <= n /\ n < 1000 /\ ∃ a xs, u = .ref a /\ (SqT K H a xs ∨ SqL K H a xs) /\ xs[n.toNat]? = some (.int k)
def aB0 (K : PySem.W.Frag) (P : Addr) (q : Str) (iv : Nat) (te : TE) : TE := fun σ H Q => te σ H fun x H1 => ∃ (ns : List Int) (kf : Int -> Int) (u : V), xG K H1 x ns /\ 0 < ns.length /\ H1 P = some (.tab q) /\ σ[iv]? = some (some u) /\ (∀ n ∈ ns, xH K H1 u n (kf n)) /\
  ∀ (j : Nat) (m : Int) (H2 : Hp), aE H1 H2 -> ns[j]? = some m -> (∀ n ∈ ns, kf m <= kf n) -> (∀ (l : Nat) (n : Int), l < j -> ns[l]? = some n -> kf m < kf n) -> Q (.int m) H2
section
variable {X : Cx} {pins : List (Addr × Obj)} {σ : St} {H : Hp} {s : Shared}
theorem vN {A : Around} {x : V} {u : Value} {ns : List Int} {Q : Value -> Shared -> Prop} {E : Value -> Shared -> Prop} (hh : A.handled = none) (I : Inv X pins σ H s) (hx : xG X.K H x ns) (r : bG x u)
    (h : ∀ (It : Addr) fp (Pv : Nat -> Value -> Prop) St s2, Walks X.prog X.w A It fp [It] ns.length Pv St -> (∀ i v, Pv i v -> ∃ n t, ns[i]? = some n /\ v = .int n t) -> St 0 s2.heap -> (∀ b ∈ fp, b < s2.heap.objs.size) -> s.heap.objs.size <= It ->
      (∀ b o, s.heap.get? b = some o -> s2.heap.get? b = some o) -> (∃ h2, s2 = { s with heap := h2 }) -> Q (.ref It) s2) : wpAny (model X.prog X.w) A (pyIter u) Q E s := by
  obtain ⟨a, rfl, hx⟩ := hx
  cases r
  rcases hx with hx | hx | ⟨kvs, hx, hk⟩
  · obtain ⟨its, rv, p, hz⟩ := I.list hx
    have hl := rv.length
    rw [List.length_map] at hl
    have ht := p.isList
    have hlt : a < s.heap.objs.size := by obtain ⟨o, e, _⟩ := ht; exact Heap.lt_size e
    have hne : a ≠ s.heap.objs.size := Nat.ne_of_lt hlt
    have W0 := Walks.list (prog := X.prog) (w := X.w) (A := A) hh s.heap.objs.size a hne its.toArray
    rw [show its.toArray.size = ns.length by rw [List.size_toArray, hl]] at W0
    refine wpAny_pyIter_list ht (h s.heap.objs.size [s.heap.objs.size, a] _ _ { s with heap := s.heap.push { cls := .type "list_iterator", data := .fields #[.ref a, .int 0 0] } } W0 (fun i v e => ?_) ⟨⟨_, Heap.get?_push_size _ rfl, rfl, rfl⟩, ht.push _⟩ (fun b hb => ?_) (Nat.le_refl _) (fun b o e => Heap.get?_push_of_some _ e) ⟨_, rfl⟩)
    · have e' : its[i]? = some v := by simpa using e
      obtain ⟨hi, _⟩ := List.getElem?_eq_some_iff.mp e'
      obtain ⟨w', ew, rw'⟩ := rv.get (i := i) (x := .int (ns[i]'(by omega))) (by rw [List.getElem?_map, List.getElem?_eq_getElem (show i < ns.length by omega)]; rfl)
      rw [e'] at ew; cases ew
      obtain ⟨t, rfl⟩ := rw'
      exact ⟨_, t, List.getElem?_eq_getElem (show i < ns.length by omega), rfl⟩
    · show b < (s.heap.push _).objs.size
      rw [Heap.size_push]
      simp only [List.mem_cons, List.not_mem_nil, or_false] at hb
      rcases hb with hb | hb
      · rw [hb]; exact Nat.lt_succ_self _
      · rw [hb]; exact Nat.lt_succ_of_lt hlt
  · obtain ⟨its, rv, p, hz⟩ := I.tuple hx
    have hl := rv.length
    rw [List.length_map] at hl
    have ht : s.heap.IsTuple a its.toArray := p
    have hlt : a < s.heap.objs.size := by obtain ⟨o, e, _⟩ := ht; exact Heap.lt_size e
    have hne : a ≠ s.heap.objs.size := Nat.ne_of_lt hlt
    have W0 := Walks.tuple (prog := X.prog) (w := X.w) (A := A) hh s.heap.objs.size a hne its.toArray
    rw [show its.toArray.size = ns.length by rw [List.size_toArray, hl]] at W0
    refine wpAny_pyIter_tuple ht (h s.heap.objs.size [s.heap.objs.size, a] _ _ { s with heap := s.heap.push { cls := .type "tuple_iterator", data := .fields #[.ref a, .int 0 0] } } W0 (fun i v e => ?_) ⟨⟨_, Heap.get?_push_size _ rfl, rfl, rfl⟩, ht.push _⟩ (fun b hb => ?_) (Nat.le_refl _) (fun b o e => Heap.get?_push_of_some _ e) ⟨_, rfl⟩)
    · have e' : its[i]? = some v := by simpa using e
      obtain ⟨hi, _⟩ := List.getElem?_eq_some_iff.mp e'
      obtain ⟨w', ew, rw'⟩ := rv.get (i := i) (x := .int (ns[i]'(by omega))) (by rw [List.getElem?_map, List.getElem?_eq_getElem (show i < ns.length by omega)]; rfl)
      rw [e'] at ew; cases ew
      obtain ⟨t, rfl⟩ := rw'
      exact ⟨_, t, List.getElem?_eq_getElem (show i < ns.length by omega), rfl⟩
    · show b < (s.heap.push _).objs.size
      rw [Heap.size_push]
      simp only [List.mem_cons, List.not_mem_nil, or_false] at hb
      rcases hb with hb | hb
      · rw [hb]; exact Nat.lt_succ_self _
      · rw [hb]; exact Nat.lt_succ_of_lt hlt
  · obtain ⟨hz, hs, vs, kv, dd⟩ : bM X.prog X.w H s.heap a (.dK kvs) := I.hok a _ hx
    obtain ⟨ep, da⟩ := dd.dictAt
    have hl : kvs.length = vs.length := kv.length
    have hln : vs.length = ns.length := by
      have := congrArg List.length hk
      rw [List.length_map, List.length_map] at this
      omega
    have hlt := da.lt_size
    have hne : a ≠ s.heap.objs.size := Nat.ne_of_lt hlt
    have W0 := Walks.dictKeys (prog := X.prog) (w := X.w) (A := A) (knd := bZ X.prog X.w) hh s.heap.objs.size a hne vs ep
    rw [hln] at W0
    refine wpAny_pyIter_dict hs da (h s.heap.objs.size [s.heap.objs.size, a] _ _ { s with heap := s.heap.push { cls := .type "dict_keyiterator", data := .fields #[.ref a, .int 0 0, .int vs.length 0, .int ep 0] } } W0 (fun i v e => ?_) ⟨⟨_, Heap.get?_push_size _ rfl, rfl, by rw [hln]; rfl⟩, da.push _⟩ (fun b hb => ?_) (Nat.le_refl _) (fun b o e => Heap.get?_push_of_some _ e) ⟨_, rfl⟩)
    · obtain ⟨k, x, hi, hk2⟩ := e
      have e1 : (vs.map (·.1))[i]? = some k := by rw [List.getElem?_map, hi]; rfl
      rw [<- kv.keys, hk, List.getElem?_map] at e1
      cases q : ns[i]? with
      | none => rw [q] at e1; cases e1
      | some n =>
        rw [q] at e1
        have : k = Sum.inl n := (Option.some.inj e1).symm
        subst this
        obtain ⟨t, rfl⟩ : bG (.int n) v := tQ hk2
        exact ⟨n, t, rfl, rfl⟩
    · show b < (s.heap.push _).objs.size
      rw [Heap.size_push]
      simp only [List.mem_cons, List.not_mem_nil, or_false] at hb
      rcases hb with hb | hb
      · rw [hb]; exact Nat.lt_succ_self _
      · rw [hb]; exact Nat.lt_succ_of_lt hlt
theorem xI {u : V} {uv : Value} {n k : Int} (I : Inv X pins σ H s) (hk : xH X.K H u n k) (r : bG u uv) : ∃ t, gZ s.heap uv n (.int k t) := by
  obtain ⟨h0, h1, a, xs, rfl, hx | hx, he⟩ := hk
  · cases r
    obtain ⟨its, rv, p, hz⟩ := I.tuple hx
    obtain ⟨w', ew, t, rfl⟩ := rv.get he
    exact ⟨t, a, rfl, .inl ⟨its.toArray, p, h0, h1, by simpa using ew⟩⟩
  · cases r
    obtain ⟨its, rv, p, hz⟩ := I.list hx
    obtain ⟨w', ew, t, rfl⟩ := rv.get he
    exact ⟨t, a, rfl, .inr ⟨its.toArray, p.isList, h0, h1, by simpa using ew⟩⟩
theorem gZ.obj {h : Heap} {u : Value} {i : Int} {v : Value} (x : gZ h u i v) : ∃ p o, u = .ref p /\ h.get? p = some o /\ ∀ h' : Heap, h'.get? p = some o -> gZ h' u i v := by
  obtain ⟨p, rfl, ⟨its, ⟨o, ho, r⟩, q⟩ | ⟨its, ⟨o, ho, r⟩, q⟩⟩ := x
  · exact ⟨p, o, rfl, ho, fun h' e => ⟨p, rfl, .inl ⟨its, ⟨o, e, r⟩, q⟩⟩⟩
  · exact ⟨p, o, rfl, ho, fun h' e => ⟨p, rfl, .inr ⟨its, ⟨o, e, r⟩, q⟩⟩⟩
theorem zI {e : Expr} {te : TE} {p kpos lpos p1 p2 p3 pos : Pos} {params : Arguments} {scope : Scope} {vn xn : Str} {c P : Addr} {q : Str} (iv : Nat) (hc : X.calm = true) (hr : Room 1 X.A) (hg : Gl X "min") (hm : X.mg "min" = none) (Z : Lm X.K X.mg X.base c P) (hcode : X.env.code = .ref c) (hq : X.env.qual ++ "<lambda>" = q)
    (he : PE X e te) (hN : X.N[iv]? = some vn) (hkv : X.env.kindOf vn = some .cell)
    (hdef : defaultsOf params X.env = ([], []) := by rfl) (hcl : cI X.env scope.names [] = (match X.env.cells.lookup vn with | some c => [(vn, c)] | none => []) := by rfl)
    (hfr : ∀ y ∈ scope.names, y.2 = .free -> y.1 = vn := by decide +kernel)
    (hbind : ∀ (cl : List (Str × Addr)) (pm cdv ctv : Value) (i : Int) (t : Tok), bindArgs (PySem.W.kla_fn "<lambda>" q params (.Subscript (.Name vn p1) (.Name xn p2) p3) scope cl pm cdv ctv) ⟨[.int i t], []⟩ = pure [(xn, .int i t)] := by intro _ _ _ _ _ _; rfl)
    (hx : scope.names.lookup xn = some .local := by rfl) (hv : scope.names.lookup vn = some .free := by rfl) (hco : scope.isCoroutine = false := by rfl) (hgen : scope.isGenerator = false := by rfl) (hk : scope.kind = .function := by rfl) (hcell : ∀ x ∈ scope.names, x.2 ≠ .cell := by decide +kernel)
    (d1 : (vn == ("__debug__" : Str)) = false := by decide) (d2 : (vn == ("__classdict__" : Str)) = false := by decide) (d3 : (xn == ("__debug__" : Str)) = false := by decide)
    (hs1 : starEach [e] X.env = [(false, eval e X.env)] := by rfl) :
    PE X (.Call (.Name "min" p) [e] [⟨some "key", .Lambda params (.Subscript (.Name vn p1) (.Name xn p2) p3) scope lpos, kpos⟩] pos) (aB0 X.K P q iv te) := by
  intro pins s σ H Q I h
  refine wpAny_Call_Name_kw (gX (u := .builtin "min") I hg hm (by decide +kernel) ?_)
  have hpa : PA X [e] (sO te aAo) := aA he aB hs1
  refine callWith_kw (thn (hpa pos pins s σ H (fun vs H1 => match vs with
      | [x] => ∃ (ns : List Int) (kf : Int -> Int) (u : V), xG X.K H1 x ns /\ 0 < ns.length /\ H1 P = some (.tab q) /\ σ[iv]? = some (some u) /\ (∀ n ∈ ns, xH X.K H1 u n (kf n)) /\
          ∀ (j : Nat) (m : Int) (H2 : Hp), aE H1 H2 -> ns[j]? = some m -> (∀ n ∈ ns, kf m <= kf n) -> (∀ (l : Nat) (n : Int), l < j -> ns[l]? = some n -> kf m < kf n) -> Q (.int m) H2
      | _ => False) I h) fun us s1 ⟨vs, H1, I1, r1, q1⟩ => ?_) (by rw [hs1]; rfl) (by rw [hs1]; rfl)
  match vs, r1, q1 with
  | [x], r1, q1 =>
    obtain ⟨ns, kf, u, hit, hpos, hT, hu, hkeys, k⟩ := q1
    obtain ⟨xv, rfl, rx⟩ := gJ r1
    -- the cell of the name
    obtain ⟨m1, hns1, hl1⟩ := id I1.loc
    obtain ⟨uv, ru, lk⟩ := hl1 iv vn u hN hu (.inr (.inl hkv))
    obtain ⟨cc, hcc, hIc⟩ : ∃ cc, X.env.cells.lookup vn = some cc /\ s1.heap.IsCell cc (some uv) := by
      rcases lk with ⟨z, _⟩ | ⟨_, z⟩
      · rw [hkv] at z; cases z
      · exact z
    have hclo : closureFor scope X.env = pure [(vn, cc)] := by
      rw [vF fun y hy z => ⟨cc, by rw [hfr y hy z]; exact hcc⟩, hcl, hcc]
    refine kws_cons (aAU I1 Z hcode hT hq hdef hclo fun f c' ctv pm s2 H2 I2 sm kk hf hcr => kws_nil ?_)
    show wpAny (model X.prog X.w) X.A (call (.builtin "min") [xv] [(Str.ofString "key", .ref f)]) _ _ _
    have hit2 : xG X.K H2 x ns := by
      obtain ⟨a, rfl, z | z | ⟨kvs, z, y⟩⟩ := hit
      · exact ⟨a, rfl, .inl (sm.seqL z)⟩
      · exact ⟨a, rfl, .inr (.inl (sm.seqT z))⟩
      · exact ⟨a, rfl, .inr (.inr ⟨kvs, sm _ _ z, y⟩)⟩
    have hkeys2 : ∀ n ∈ ns, xH X.K H2 u n (kf n) := fun n hn => by
      obtain ⟨h0, h1, a, xs, rfl, z | z, y⟩ := hkeys n hn
      · exact ⟨h0, h1, a, xs, rfl, .inl (sm.seqT z), y⟩
      · exact ⟨h0, h1, a, xs, rfl, .inr (sm.seqL z), y⟩
    -- what stays through the loop
    obtain ⟨fo, efo, hf⟩ : ∃ fo : Obj, fo = { cls := .type "function", data := .func (PySem.W.kla_fn "<lambda>" q params (.Subscript (.Name vn p1) (.Name xn p2) p3) scope [(vn, cc)] pm (.ref c') ctv) } /\ s2.heap.get? f = some fo := ⟨_, rfl, hf⟩
    obtain ⟨c2, oc, cvs, tq, ec, hoc, hdc, hcv⟩ := hcr
    cases ec
    obtain ⟨ocl, hocl, hdcl⟩ : s2.heap.IsCell cc (some uv) := by
      obtain ⟨o, ho, hd⟩ := hIc
      have nP : cc ≠ P := fun z => by rw [z] at hcc; have := I1.freeC _ _ hcc; rw [hT] at this; cases this
      exact ⟨o, kk _ _ nP ho, hd⟩
    obtain ⟨mc, ⟨oL, esL, epL, hoL, hdL, rL⟩, hlim⟩ := I2.nolimit
    have n0 : ns[0]? = some (ns[0]) := List.getElem?_eq_getElem hpos
    obtain ⟨t0, it0⟩ := xI I2 (hkeys2 _ (List.mem_of_getElem? n0)) ru
    obtain ⟨pu, ou, eu, hou, _⟩ := it0.obj
    refine rO (f := f) (vN (A := X.A.in1) (I2.ok.hd hc) I2 hit2 rx fun It fp Pv St s3 W hPv hst hfp hIt hk3 hx9 => ?_)
    obtain ⟨h3, e3⟩ := hx9
    subst e3
    refine ⟨It, fp, [It], ns.length, Pv, St, fun i => kf (ns.getD i 0), [(f, fo), (c', oc), (cc, ocl), (cStatics, oL), (pu, ou)], rfl, W, hst, hfp, hpos, ?_, ?_, ?_, fun v h' tk hP kk' => ?_⟩
    · intro i v s4 Q4 E4 hi hPi hL hQ4
      obtain ⟨n, t, hn, rfl⟩ := hPv i v hPi
      have eg : ns.getD i 0 = n := by rw [List.getD_eq_getElem?_getD, hn]; rfl
      obtain ⟨tk, itk⟩ := xI I2 (hkeys2 _ (List.mem_of_getElem? hn)) ru
      have it4 : gZ s4.heap uv n (.int (kf n) tk) := by
        obtain ⟨p', o', e', ho', hh⟩ := itk.obj
        rw [eu] at e'; cases e'
        rw [hou] at ho'; cases ho'
        exact hh _ (hL (pu, ou) (by simp))
      have rm : X.A.in1.depth < recursionLimit := (Room.in1 hr).depth
      refine aAS (cl := [(vn, cc)]) (c := cc) rm ⟨mc, ⟨oL, esL, epL, hL (cStatics, oL) (by simp), hdL, rL⟩, hlim⟩ (by rw [<- efo]; exact hL (f, fo) (by simp)) ⟨c', oc, cvs, tq, rfl, hL (c', oc) (by simp), hdc, hcv⟩ (hbind _ _ _ _ _ _) hx hv hco hgen hk hcell (by simp [List.lookup]) ⟨ocl, hL (cc, ocl) (by simp), hdcl⟩ it4 (fun h5 tk5 k5 => ?_) d1 d2 d3
      have := hQ4 h5 tk5 tk k5
      dsimp only at this
      rw [eg] at this
      exact this
    · intro pr hpr hz
      have hlt : ∀ b o, s2.heap.get? b = some o -> b ≠ It := fun b o e => Nat.ne_of_lt (Nat.lt_of_lt_of_le (Heap.lt_size e) hIt)
      simp only [List.mem_singleton] at hz
      simp only [List.mem_cons, List.not_mem_nil, or_false] at hpr
      rcases hpr with rfl | rfl | rfl | rfl | rfl
      · exact hlt _ _ hf hz
      · exact hlt _ _ hoc hz
      · exact hlt _ _ hocl hz
      · exact hlt _ _ hoL hz
      · exact hlt _ _ hou hz
    · intro pr hpr
      simp only [List.mem_cons, List.not_mem_nil, or_false] at hpr
      rcases hpr with rfl | rfl | rfl | rfl | rfl
      · exact hk3 _ _ hf
      · exact hk3 _ _ hoc
      · exact hk3 _ _ hocl
      · exact hk3 _ _ hoL
      · exact hk3 _ _ hou
    · obtain ⟨n, t, hn, rfl⟩ := hPv _ v hP
      have I3 : Inv X pins σ H2 { s2 with heap := h', toks := tk } := I2.kept fun b o e => kk' b o (by simp; exact Nat.ne_of_lt (Nat.lt_of_lt_of_le (Heap.lt_size e) hIt)) (hk3 b o e)
      have b1 := argBest_lt (fun i => kf (ns.getD i 0)) (ns.length - 1)
      have b2 := kD (fun i => kf (ns.getD i 0)) (ns.length - 1)
      have hat : ∀ i y, ns[i]? = some y -> ns.getD i 0 = y := fun i y e => by rw [List.getD_eq_getElem?_getD, e]; rfl
      refine ⟨.int n, H2, I3, ⟨t, rfl⟩, k _ n H2 sm hn (fun y hy => ?_) (fun l y hl hy => ?_)⟩
      · obtain ⟨i, hi⟩ := List.mem_iff_getElem?.mp hy
        have := b1.2 i (by have := (List.getElem?_eq_some_iff.mp hi).1; omega)
        have e1 := hat _ _ hn
        have e2 := hat _ _ hi
        show kf n <= kf y
        rw [<- e1, <- e2]; exact this
      · have := b2 l hl
        have e1 := hat _ _ hn
        have e2 := hat _ _ hy
        rw [<- e1, <- e2]; exact this
end
end L2
set_option Elab.async false
set_option linter.all false
set_option maxRecDepth 100000
namespace L2
open PySem PySem.Spec PyProof.Rows
def aAV (ts : List (Addr × Str)) (H : Hp) : Prop := (∀ b, H b = none ∨ (∃ o xs, H b = some (.frz o (.lst xs))) ∨ ∃ q, H b = some (.tab q) /\ (b, q) ∈ ts) /\ ∀ p ∈ ts, H p.1 = some (.tab p.2)
theorem oK {h : Heap} {c P : Addr} (C : PySem.W.CodeHd h c P) (e : h.get? P = some (PySem.W.tabObj #[])) : isCodeTable h P := (C.tab e).isCodeTable
theorem zJ {P : Program} {w : World} {K : PySem.W.Frag} {mg mb : Str -> Option Value} {CX : CXT} {k : Nat} {fa a : Addr} {fd : FuncData} {x : Str} {sp : Sp} {s₁ : Shared} {vs : List Value} {ns : List Int} {ts : List (Addr × Str)}
    (KX : K.In s₁.heap) (hns : s₁.heap.Ns mainGlobals mg) (hb : s₁.heap.Ns builtinsNs mb) (hbb : ∀ x : Str, x ≠ "__name__" -> mb x = bootBuiltins x) (hlim : s₁.heap.NoLimit) (hmod : ∃ mm, s₁.heap.Ns sysModules mm) (hg : s₁.gens = #[])
    (hbm : ∃ bm ob, mg "__builtins__" = some (.ref bm) /\ bm ≠ builtinsNs /\ s₁.heap.get? bm = some ob /\ ob.cls = .type "module" /\ ob.dict = some builtinsNs /\ ob.data = .plain)
    (hts : ∀ p ∈ ts, s₁.heap.get? p.1 = some (PySem.W.tabObj #[]) /\ K.lookup p.1 = none /\ ∃ c, PySem.W.CodeHd s₁.heap c p.1) (hnd : (ts.map (·.1)).Nodup)
    (ha : s₁.heap.get? a = some { cls := .type "list", data := .seq vs.toArray }) (hi : IntsAre vs ns) (hl : ns.length <= sizeLine) (hr : Room k callerA)
    (F : ∀ base : Heap, K.In base -> base.Ns mainGlobals mg -> (∀ p ∈ ts, base.BuiltinsAt mg p.1) -> FnOk P w K mg base CX k fa fd [x] sp) (hbind : ∀ (s : Shared) (u : Value), BindsTo s fd ⟨[u], []⟩ [(x, u)])
    (hsp : ∀ H : Hp, aAV ts H -> SqL K H a (ns.map V.int) -> sp [.ref a] H (fun v H' => v = .bl true /\ ∀ p ∈ ts, H' p.1 = some (.tab p.2)) fun _ _ _ => False)
    (hCX : ∀ H e s', CX [] H s₁ (fun _ _ _ => False) e s' -> False) :
    codeAny (model P w) callerA (.call (.ref fa) ⟨[.ref a], []⟩) (fun r s' => r = .ok (.ret (.bool true)) /\ OldK s₁.heap s'.heap /\ s'.os = s₁.os /\ AllBare s'.gens) s₁ := by
  have rv := lU hi
  have lenV := hi.length
  have na : ∀ p ∈ ts, p.1 ≠ a := fun p hp z => by
    have := (hts p hp).1
    rw [z, ha] at this; cases this
  -- from an abstract heap in which nothing but the script and the tables may be tracked
  have core : ∀ H : Hp, aAV ts H -> SqL K H a (ns.map V.int) -> HOk P w H s₁.heap -> (∀ b, H b ≠ none -> b = a ∨ ∃ q, (b, q) ∈ ts) -> (H a ≠ none -> K.lookup a = none) ->
      codeAny (model P w) callerA (.call (.ref fa) ⟨[.ref a], []⟩) (fun r s' => r = .ok (.ret (.bool true)) /\ OldK s₁.heap s'.heap /\ s'.os = s₁.os /\ AllBare s'.gens) s₁ := by
    intro H hO hS hok hA hK
    have base_of : ∀ {b : Addr} {o : Obj}, s₁.heap.get? b = some o -> H b = none -> (pO s₁.heap H).get? b = some o := fun e n => aAc e n
    have noA : ∀ {b : Addr} {o : Obj} {es : Array DictEntry} {ep : Nat}, s₁.heap.get? b = some o -> o.data = .dict es ep -> H b = none := fun {b o es ep} e d => by
      cases q : H b with
      | none => rfl
      | some u =>
        rcases hA b (by rw [q]; simp) with e' | ⟨q', e'⟩
        · subst e'
          rw [ha] at e; cases e
          have d' : Data.seq vs.toArray _ = Data.dict es ep := d
          cases d'
        · have := (hts _ e').1
          have e2 : s₁.heap.get? b = some (PySem.W.tabObj #[]) := this
          rw [e] at e2; cases e2
          have d' : Data.fields _ = Data.dict es ep := d
          cases d'
    have nsK : ∀ {b : Addr} {m : Str -> Option Value}, s₁.heap.Ns b m -> (pO s₁.heap H).Ns b m := fun {b m} ⟨o, es, ep, e, d, r⟩ => ⟨o, es, ep, base_of e (noA e d), d, r⟩
    have hKb : K.In (pO s₁.heap H) := fun b o e => base_of (KX b o e) (by
      cases q : H b with
      | none => rfl
      | some u =>
        rcases hA b (by rw [q]; simp) with e' | ⟨q', e'⟩
        · subst e'
          rw [hK (by rw [q]; simp)] at e; cases e
        · have := (hts _ e').2.1
          have e2 : K.lookup b = none := this
          rw [e] at e2; cases e2)
    have hBu : ∀ p ∈ ts, (pO s₁.heap H).BuiltinsAt mg p.1 := fun p hp => by
      obtain ⟨bm, ob, b1, b2, b3, b4, b5, b6⟩ := hbm
      have hn : H bm = none := by
        cases q : H bm with
        | none => rfl
        | some u =>
          rcases hA bm (by rw [q]; simp) with e' | ⟨q', e'⟩
          · subst e'
            rw [ha] at b3; cases b3
            have d' : Data.seq vs.toArray _ = Data.plain := b6
            cases d'
          · have e2 : s₁.heap.get? bm = some (PySem.W.tabObj #[]) := (hts _ e').1
            rw [b3] at e2; cases e2
            have d' : Data.fields _ = Data.plain := b6
            cases d'
      refine ⟨bm, ob, b1, b2, fun z => ?_, fun z => ?_, base_of b3 hn, b4, b5, b6⟩
      · obtain ⟨o, es, ep, e, d, r⟩ := hns
        rw [<- z, b3] at e; cases e
        rw [b6] at d; cases d
      · have e2 : s₁.heap.get? p.1 = some (PySem.W.tabObj #[]) := (hts _ hp).1
        rw [<- z, b3] at e2; cases e2
        have d' : Data.fields _ = Data.plain := b6
        cases d'
    have hM : Mod K mg (pO s₁.heap H) := ⟨hKb, nsK hns, ⟨mb, nsK hb, hbb⟩, let ⟨mc, h1, h2⟩ := hlim; ⟨mc, nsK h1, h2⟩, let ⟨mm, h1⟩ := hmod; ⟨mm, nsK h1⟩⟩
    have e0 : Env0 P w K mg (pO s₁.heap H) callerA [] s₁ H := ⟨rfl, hM, fun b o e => aBC e, Nat.le_of_eq (yI _ _), trivial, fun b hb => absurd (show b ∈ ([] : List Addr) from hb) (by simp), hok, .of_eq hg⟩
    refine codeAny_mono ((F _ hKb (nsK hns) hBu).run callerA [] s₁ H ⟨[.ref a], []⟩ [.ref a] [.ref a] _ _ hr e0 (hbind s₁ (.ref a)) (.cons rfl .nil) (hsp H hO hS)) fun r s' h => ?_
    cases r with
    | error e => exact (hCX H e s' h).elim
    | ok fl =>
      cases fl with
      | next => exact False.elim h
      | brk => exact False.elim h
      | cont => exact False.elim h
      | ret u =>
        obtain ⟨v, H', os, bare, un, hok', r', q, qt⟩ := h
        have q' : v = .bl true := q
        subst q'
        obtain rfl : u = Value.bool true := r'
        have keep : ∀ b o, (∀ q, (b, q) ∉ ts) -> s₁.heap.get? b = some o -> s'.heap.get? b = some o := fun b o hb e => by
          cases q : H b with
          | none => exact un.keep b o e q (by intro z; exact absurd (show b ∈ ([] : List Addr) from z) (by simp)) (by simp)
          | some u =>
            rcases hO.1 b with z | ⟨ob, xs, z⟩ | ⟨q', z, zm⟩
            · rw [q] at z; cases z
            · have z2 := un.frzs b ob _ z
              obtain ⟨e1, _⟩ := hok b _ z
              obtain ⟨e2, _⟩ := hok' b _ z2
              rw [e] at e1; cases e1
              exact e2
            · exact absurd zm (hb q')
        have grown : ∀ b o q, (b, q) ∈ ts -> s₁.heap.get? b = some o -> isCodeTable s₁.heap b /\ o = PySem.W.tabObj #[] /\ ∃ ps, s'.heap.get? b = some (PySem.W.tabObj ps) := fun b o q hm e => by
          obtain ⟨h1, h2, c, h3⟩ := hts _ hm
          have h1' : s₁.heap.get? b = some (PySem.W.tabObj #[]) := h1
          rw [e] at h1'
          obtain ⟨ps, hps, _⟩ : bM P w H' s'.heap b (.tab q) := hok' b _ (qt _ hm)
          exact ⟨oK h3 h1, Option.some.inj h1', ps, hps⟩
        refine ⟨rfl, ⟨fun b o e => ?_, fun b o e => ?_⟩, os, bare⟩
        · by_cases hb : ∃ q, (b, q) ∈ ts
          · obtain ⟨q, hm⟩ := hb
            obtain ⟨ht, rfl, ps, hP⟩ := grown b o q hm e
            exact .inr (.inl ⟨ht, rfl, #[], ps, rfl, by rw [Array.empty_append]; exact hP⟩)
          · exact .inl (keep b o (fun q z => hb ⟨q, z⟩) e)
        · by_cases hb : ∃ q, (b, q) ∈ ts
          · obtain ⟨q, hm⟩ := hb
            obtain ⟨_, _, ps, hP⟩ := grown b o q hm e
            exact ⟨_, hP⟩
          · exact ⟨o, keep b o (fun q z => hb ⟨q, z⟩) e⟩
  -- the tables
  have look : ∀ {b : Addr} {q : Str}, ts.lookup b = some q -> (b, q) ∈ ts := fun {b q} e => by
    clear hts hnd hsp core na F
    induction ts with
    | nil => cases e
    | cons p r ih =>
      rw [List.lookup_cons] at e
      cases hb : b == p.1 with
      | true => rw [hb] at e; cases e; rw [eq_of_beq hb]; exact .head _
      | false => rw [hb] at e; exact .tail _ (ih e)
  have look2 : ∀ {b : Addr} {q : Str}, (b, q) ∈ ts -> ts.lookup b = some q := fun {b q} e => by
    clear hts hsp core na look F
    induction ts with
    | nil => cases e
    | cons p r ih =>
      rw [List.lookup_cons]
      rw [List.map_cons, List.nodup_cons] at hnd
      rcases List.mem_cons.mp e with rfl | e
      · simp
      · have : (b == p.1) = false := by
          rw [beq_eq_false_iff_ne]
          intro z
          exact hnd.1 (List.mem_map.mpr ⟨(b, q), e, z⟩)
        rw [this]
        exact ih hnd.2 e
  have tabOk : ∀ (H : Hp) (b : Addr) (q : Str), (b, q) ∈ ts -> bM P w H s₁.heap b (.tab q) := fun H b q hm => ⟨#[], (hts _ hm).1, trivial, fun pos cv z => by simp [codeAmong] at z⟩
  cases hk : K.lookup a with
  | some o =>
    have e := KX a o hk
    rw [ha] at e
    cases e
    refine core (fun b => (ts.lookup b).map HO.tab) ⟨fun b => ?_, fun p hp => by show (ts.lookup p.1).map HO.tab = _; rw [look2 (q := p.2) hp]; rfl⟩ (.inr ⟨_, vs.toArray, _, hk, rfl, rfl, rfl, by rw [List.size_toArray, lenV]; exact hl, by simpa using rv⟩) (fun b u z => ?_) (fun b z => ?_) fun z => ?_
    · cases q : ts.lookup b with
      | none => exact .inl (by show (ts.lookup b).map HO.tab = none; rw [q]; rfl)
      | some y => exact .inr (.inr ⟨y, by show (ts.lookup b).map HO.tab = _; rw [q]; rfl, look q⟩)
    · have z' : (ts.lookup b).map HO.tab = some u := z
      cases q : ts.lookup b with
      | none => rw [q] at z'; cases z'
      | some y => rw [q] at z'; cases z'; exact tabOk _ _ _ (look q)
    · have z' : (ts.lookup b).map HO.tab ≠ none := z
      cases q : ts.lookup b with
      | none => rw [q] at z'; exact absurd rfl z'
      | some y => exact .inr ⟨y, look q⟩
    · exfalso
      have z' : (ts.lookup a).map HO.tab ≠ none := z
      cases q : ts.lookup a with
      | none => rw [q] at z'; exact absurd rfl z'
      | some y => exact na _ (look q) rfl
  | none =>
    have noa : ts.lookup a = none := by
      cases q : ts.lookup a with
      | none => rfl
      | some y => exact absurd rfl (na _ (look q))
    refine core (fun b => if b = a then some (.frz { cls := .type "list", data := .seq vs.toArray } (.lst (ns.map V.int))) else (ts.lookup b).map HO.tab) ⟨fun b => ?_, fun p hp => ?_⟩ (.inl (.inr ⟨{ cls := .type "list", data := .seq vs.toArray }, if_pos rfl⟩)) (fun b u z => ?_) (fun b z => ?_) fun _ => hk
    · by_cases hb : b = a
      · exact .inr (.inl ⟨_, _, if_pos hb⟩)
      · cases q : ts.lookup b with
        | none => exact .inl ((if_neg hb).trans (by rw [q]; rfl))
        | some y => exact .inr (.inr ⟨y, (if_neg hb).trans (by rw [q]; rfl), look q⟩)
    · exact (if_neg (na p hp)).trans (by rw [look2 (q := p.2) hp]; rfl)
    · by_cases hb : b = a
      · have z' := (if_pos hb).symm.trans z
        cases z'
        subst hb
        exact ⟨ha, by rw [List.length_map]; exact hl, vs, _, rv, ha⟩
      · have z' := (if_neg hb).symm.trans z
        cases q : ts.lookup b with
        | none => rw [q] at z'; cases z'
        | some y => rw [q] at z'; cases z'; exact tabOk _ _ _ (look q)
    · by_cases hb : b = a
      · exact .inl hb
      · cases q : ts.lookup b with
        | none => exact absurd ((if_neg hb).trans (by rw [q]; rfl)) z
        | some y => exact .inr ⟨y, look q⟩
theorem aAW {l : PySem.W.OpenLaw} {n k : Nat} {q : Program} {loose : List Str} {XP : (Str -> Option Value) -> Heap -> Prop} {YP : World -> Heap -> Prop} {d : DefRec} {K : Params -> PySem.W.Frag} {CX : World -> CXT} {sp : World -> Sp} {x : Str} {ts : List (Addr × Str)}
    (hn : l.most = some n) (hn2 : n <= sizeLine) (hdf : d.params.defaults = []) (hr : Room k callerA) (hq : importsNone q = true)
    (hY : ∀ (w : World) (h : Heap), YP w h -> (K w.params).In h)
    (hts : ∀ (w : World) (h : Heap), YP w h -> ∀ p ∈ ts, h.get? p.1 = some (PySem.W.tabObj #[]) /\ (K w.params).lookup p.1 = none /\ ∃ c, PySem.W.CodeHd h c p.1) (hnd : (ts.map (·.1)).Nodup)
    (F : ∀ (w : World) (mg : Str -> Option Value) (fa : Addr) (h : Heap), (K w.params).In h -> h.Ns mainGlobals mg -> mg d.name = some (.ref fa) ->
      ∃ fd : FuncData, (∀ (s : Shared) (u : Value), BindsTo s fd ⟨[u], []⟩ [(x, u)]) /\
        ∀ base : Heap, (K w.params).In base -> base.Ns mainGlobals mg -> (∀ p ∈ ts, base.BuiltinsAt mg p.1) -> FnOk l.prog w (K w.params) mg base (CX w) k fa fd [x] (sp w))
    (hsp : ∀ (w : World) (H : Hp) (a : Addr) (ns : List Int), ns.length <= n -> aAV ts H -> SqL (K w.params) H a (ns.map V.int) -> sp w [.ref a] H (fun v H' => v = .bl true /\ ∀ p ∈ ts, H' p.1 = some (.tab p.2)) fun _ _ _ => False)
    (hCX : ∀ (w : World) (H : Hp) (s : Shared) (e : Value) (s' : Shared), CX w [] H s (fun _ _ _ => False) e s' -> False) :
    PySem.W.WalkO q loose XP YP l.row.toRowW d [] (fun f vs => PySem.call f vs) := by
  refine Att.attach_call hn hdf fun w s₀ s₁ mg mb fa o pm cd doc a vs ns G Y ho hd hcd hmg hobj hints hlen hg => ?_
  have KX := hY w _ Y
  obtain ⟨fd, hb, hF⟩ := F w mg fa _ KX G.T.g hmg
  exact zJ KX G.T.g G.T.b G.T.builtins G.T.nolimit (let ⟨mm, h1, _⟩ := (G.T.seer hq).mods; ⟨mm, h1⟩) hg G.T.bmain (hts w _ Y) hnd hobj hints (Nat.le_trans hlen hn2) hr hF hb (fun H hO hS => hsp w H a ns hlen hO hS) fun H e s' => hCX w H s₁ e s'
end L2
namespace L2
open PySem PySem.Spec PyProof.Rows
section
variable {P : Program} {w : World} {K : PySem.W.Frag} {mg : Str -> Option Value} {base : Heap}
theorem Fun.okC {x qual : Str} {st : Stmt} {f c : Addr} {fd : FuncData} {N ps : List Str} {k : Nat} {sp : Sp} (F : Fun K x qual st f fd) (hc : fd.code = .ref c) (S : FnScope N ps (aF st)) (len : ∀ vs H Q E, sp vs H Q E -> vs.length = ps.length)
    (hbody : ∀ (A : Around) (outer : List Env) (s : Shared) (H : Hp) (vs : List V) (Q : VK) (E : XK), Room k (A.deeper (envOfC qual (aF st) s.heap.objs.size f (.ref c))) -> sp vs H Q E ->
      ∃ t, PSs (vA CX0 P w K mg base N qual (aF st) f (.ref c) A outer s H E).nox (eG st) t /\ t { nx := fun _ H' => Q .non H', rt := Q } (start N vs) H) : FnOk P w K mg base CX0 (k + 1) f fd ps sp := by
  obtain ⟨oc, od, kV, doc, pm, an, cdv, ct, osl, rfl, lk, hcd⟩ := F.ex
  have e : cdv = .ref c := hc
  subst e
  refine aCt lk hcd S len fun A outer s H vs Q E hr hsp => ?_
  obtain ⟨t, h, q⟩ := hbody A outer s H vs Q E hr hsp
  exact ⟨t, h.nox, q⟩
end
end L2
set_option Elab.async false
set_option linter.all false
set_option maxRecDepth 100000
namespace L2
open PySem PySem.Spec PyProof.Rows
abbrev eU (h : Heap) (z TI TO : Addr) (f0 : Value) (f1 : Bool) : Prop :=
  h.get? z = some { cls := .type "zip", dict := none, data := .fields #[f0, .bool f1, .bool false, .ref TI, .ref TO], slots := #[] }
def F0 (f : Value) : Prop := f = .none ∨ ∃ a t, f = .int a t
theorem tR {M : Model} {A : Around} {E : Value -> Shared -> Prop} {s : Shared} {a : Addr} {Q : Option Obj -> Shared -> Prop} (h : Q (s.heap.get? a) s) : wpAny M A (loadIfAlive a) Q E s := fun Γ p _ => by
  show Sem.wp M Γ (.loadIfAlive a .pure) _ _ p s
  rw [Sem.wp_loadIfAlive]
  exact (Sem.wp_pure ..).mpr h
section
variable {prog : Program} {w : World} {A : Around} {E : Value -> Shared -> Prop} {s : Shared} {z TI TO i1 i2 l1 l2 : Addr} {n1 n2 : Nat} {P1 P2 : Nat -> Value -> Prop} {st1 st2 : Nat -> Heap -> Prop}
theorem aAX {f0 : Value} {f1 : Bool} {Q : Bool -> Shared -> Prop} (hz : eU s.heap z TI TO f0 f1) (hf : F0 f0) (h1 : Q true s) (h2 : ∀ h' b, eU h' z TI TO f0 b -> Heap.SameBut z s.heap h' -> Q false { s with heap := h' }) :
    wpAny (model prog w) A (Builtin.SmallTypes.ownedTupleIsFree (.ref z)) Q E s := by
  unfold Builtin.SmallTypes.ownedTupleIsFree
  rcases hf with rfl | ⟨a, t, rfl⟩
  · exact wpAny_bind (wpAny_field hz rfl (x := .none) rfl (wpAny_pure h1))
  · refine wpAny_bind (wpAny_field hz rfl (x := .int a t) rfl ?_)
    show wpAny (model prog w) A (loadIfAlive a.toNat >>= _) Q E s
    refine wpAny_bind (tR ?_)
    cases hq : s.heap.get? a.toNat with
    | none => exact wpAny_pure h1
    | some o =>
      show wpAny (model prog w) A (field (.ref z) 1 >>= _) Q E s
      refine wpAny_bind (wpAny_field hz rfl (x := .bool f1) rfl ?_)
      cases f1 with
      | true => exact wpAny_pure (h2 s.heap true hz (Heap.SameBut.refl _ _))
      | false =>
        show wpAny (model prog w) A (setField (.ref z) 1 (.bool true) >>= _) Q E s
        refine wpAny_bind (wpAny_setField_rec hz (by simp) fun g hg b => wpAny_pure (h2 g true hg b))
theorem aAY {k : Nat} {a b f0 : Value} {f1 : Bool} {Q : Value -> Shared -> Prop} (D : ZipApart z TI TO i1 i2 l1 l2) (S1 : Sub prog w i1 l1 n1 P1 st1) (S2 : Sub prog w i2 l2 n2 P2 st2)
    (hz : eU s.heap z TI TO f0 f1) (hf : F0 f0) (hTI : IsPair s.heap TI (.ref i1) (.ref i2)) (hTO : IsPair s.heap TO a b) (h1 : st1 k s.heap) (h2 : st2 k s.heap) (k1 : k < n1) (k2 : k < n2)
    (hQ : ∀ h' x y f0' f1', P1 k x -> P2 k y -> F0 f0' -> eU h' z TI TO f0' f1' -> (∃ a b, IsPair h' TO a b) -> st1 (k + 1) h' -> st2 (k + 1) h' -> IsPair h' s.heap.objs.size x y -> h'.objs.size = s.heap.objs.size + 1 ->
      (∀ c o, c ≠ z -> c ≠ TO -> c ≠ i1 -> c ≠ i2 -> s.heap.get? c = some o -> h'.get? c = some o) -> Q (.ref s.heap.objs.size) { s with heap := h' }) :
    wpAny (model prog w) A (Builtin.«zip.__next__» ⟨[.ref z], []⟩) (fun fin s' => ∃ v, fin = .done (.ret v) /\ Q v s') E s := by
  refine wpAny_bind (m := field (.ref z) 2) (wpAny_field hz rfl (x := .bool false) rfl ?_)
  refine wpAny_bind (m := field (.ref z) 3) (wpAny_field hz rfl (x := .ref TI) rfl ?_)
  refine wpAny_bind (wpAny_seqItems hTI rfl ?_)
  refine wpAny_bind (m := Builtin.SmallTypes.ownedTupleIsFree (.ref z)) (aAX hz hf ?_ fun h0 fb hz0 b0 => ?_)
  · simp only [if_true]
    refine wpAny_bind (wpAny_rule ?_)
    refine wpAny_bind (wpAny_field hz rfl (x := .ref TO) rfl ?_)
    refine wpAny_bind (wpAny_setField_rec hz (by simp) fun g1 hz1 b1 => ?_)
    have hz1' : eU g1 z TI TO .ellipsis f1 := hz1
    refine wpAny_bind ?_
    simp only [List.zipIdx_cons, List.zipIdx_nil, List.forIn_cons, List.forIn_nil]
    have s1 : st1 k g1 := S1.keep _ _ _ h1 fun c hc o e => b1.extBut c o (by rcases hc with r | r <;> rw [r]; exact D.i1z; exact D.l1z) e
    refine wpAny_bind (wpAny_bind (wpAny_onRaise ?_))
    refine wpAny_bind (m := Builtin.SmallTypes.nextOf (.ref i1)) (S1.item _ k _ _ _ k1 s1 fun x g2 px t1 b2 => wpAny_pure ?_)
    have o2 : IsPair g2 TO a b := b2.extBut _ _ D.TOi1 (b1.extBut _ _ D.TOz hTO)
    refine wpAny_bind (wpAny_seqItems o2 rfl ?_)
    refine wpAny_bind (wpAny_updateSeq_pair o2 fun g3 o3 b3 => ?_)
    have o3' : IsPair g3 TO x b := o3
    refine wpAny_bind (wpAny_letGo (wpAny_pure ?_))
    have s2 : st2 k g3 := S2.keep _ _ _ h2 fun c hc o e => by
      rcases hc with r | r
      · rw [r] at e ⊢; exact b3.extBut _ _ D.TOi2.symm (b2.extBut _ _ D.i12.symm (b1.extBut _ _ D.i2z e))
      · rw [r] at e ⊢; exact b3.extBut _ _ D.l2TO (b2.extBut _ _ D.l2i1 (b1.extBut _ _ D.l2z e))
    refine wpAny_bind (wpAny_bind (wpAny_onRaise ?_))
    refine wpAny_bind (m := Builtin.SmallTypes.nextOf (.ref i2)) (S2.item _ k _ _ _ k2 s2 fun y g4 py t2 b4 => wpAny_pure ?_)
    have o4 : IsPair g4 TO x b := b4.extBut _ _ D.TOi2 o3'
    refine wpAny_bind (wpAny_seqItems o4 rfl ?_)
    refine wpAny_bind (wpAny_updateSeq_pair o4 fun g5 o5 b5 => ?_)
    have o5' : IsPair g5 TO x y := o5
    refine wpAny_bind (wpAny_letGo (wpAny_pure (wpAny_pure ?_)))
    refine wpAny_bind (wpAny_seqItems o5' rfl ?_)
    refine wpAny_bind (wpAny_newTuple ?_)
    have sz : g5.objs.size = s.heap.objs.size := by rw [b5.1, b4.1, b3.1, b2.1, b1.1]
    have z5 : eU g5 z TI TO .ellipsis f1 := b5.extBut _ _ D.TOz.symm (b4.extBut _ _ D.i2z.symm (b3.extBut _ _ D.TOz.symm (b2.extBut _ _ D.i1z.symm hz1')))
    have kp5 : ∀ c o, c ≠ z -> c ≠ TO -> c ≠ i1 -> c ≠ i2 -> s.heap.get? c = some o -> g5.get? c = some o := fun c o c1 c2 c3 c4 e =>
      b5.extBut _ _ c2 (b4.extBut _ _ c4 (b3.extBut _ _ c2 (b2.extBut _ _ c3 (b1.extBut _ _ c1 e))))
    have t1' : st1 (k + 1) g5 := S1.keep _ _ _ t1 fun c hc o e => by
      rcases hc with r | r
      · rw [r] at e ⊢; exact b5.extBut _ _ D.TOi1.symm (b4.extBut _ _ D.i12 (b3.extBut _ _ D.TOi1.symm e))
      · rw [r] at e ⊢; exact b5.extBut _ _ D.l1TO (b4.extBut _ _ D.l1i2 (b3.extBut _ _ D.l1TO e))
    have t2' : st2 (k + 1) g5 := S2.keep _ _ _ t2 fun c hc o e => by
      rcases hc with r | r
      · rw [r] at e ⊢; exact b5.extBut _ _ D.TOi2.symm e
      · rw [r] at e ⊢; exact b5.extBut _ _ D.l2TO e
    have zlt : g5.objs.size ≠ z := Nat.ne_of_gt (Heap.lt_size z5)
    refine wpAny_bind (m := Builtin.SmallTypes.ownedTupleHandOut (.ref z) (.ref g5.objs.size)) ?_
    unfold Builtin.SmallTypes.ownedTupleHandOut
    have z6 : eU (g5.push { cls := .type "tuple", data := .seq #[x, y] }) z TI TO .ellipsis f1 := Heap.get?_push_of_some _ z5
    refine wpAny_bind (wpAny_setField_rec z6 (by simp) fun g7 z7 b7 => ?_)
    have z7' : eU g7 z TI TO (rawInt g5.objs.size) f1 := z7
    refine wpAny_setField_rec z7' (by simp) fun g8 z8 b8 => ?_
    have z8' : eU g8 z TI TO (rawInt g5.objs.size) false := z8
    have up : ∀ c o, c ≠ z -> g5.get? c = some o -> g8.get? c = some o := fun c o c1 e => b8.extBut _ _ c1 (b7.extBut _ _ c1 (Heap.get?_push_of_some _ e))
    have T8 : IsPair g8 g5.objs.size x y := b8.extBut _ _ zlt (b7.extBut _ _ zlt (Heap.get?_push_size _ rfl))
    have sz8 : g8.objs.size = s.heap.objs.size + 1 := by rw [b8.1, b7.1, Heap.size_push, sz]
    rw [sz] at z8' T8
    refine wpAny_pure ⟨_, rfl, ?_⟩
    show Q (.ref g5.objs.size) _
    rw [sz]
    refine hQ g8 x y _ _ px py (.inr ⟨_, _, rfl⟩) z8' ⟨_, _, up _ _ D.TOz o5'⟩ (S1.keep _ _ _ t1' fun c hc o e => up c o (by rcases hc with r | r <;> rw [r]; exact D.i1z; exact D.l1z) e) (S2.keep _ _ _ t2' fun c hc o e => up c o (by rcases hc with r | r <;> rw [r]; exact D.i2z; exact D.l2z) e) T8 sz8 fun c o c1 c2 c3 c4 e => up c o c1 (kp5 c o c1 c2 c3 c4 e)
  · simp only [Bool.false_eq_true, if_false]
    have s1 : st1 k h0 := S1.keep _ _ _ h1 fun c hc o e => b0.extBut c o (by rcases hc with r | r <;> rw [r]; exact D.i1z; exact D.l1z) e
    rw [<- Array.forIn_toList]
    simp only [List.forIn_cons, List.forIn_nil]
    refine wpAny_bind (wpAny_bind (wpAny_bind (wpAny_holding ?_)))
    refine wpAny_bind (m := Builtin.SmallTypes.nextOf (.ref i1)) (S1.item _ k _ _ _ k1 s1 fun x g2 px t1 b2 => wpAny_pure ?_)
    refine wpAny_pure ?_
    have s2 : st2 k g2 := S2.keep _ _ _ h2 fun c hc o e => by
      rcases hc with r | r
      · rw [r] at e ⊢; exact b2.extBut _ _ D.i12.symm (b0.extBut _ _ D.i2z e)
      · rw [r] at e ⊢; exact b2.extBut _ _ D.l2i1 (b0.extBut _ _ D.l2z e)
    refine wpAny_bind (wpAny_bind (wpAny_holding ?_))
    refine wpAny_bind (m := Builtin.SmallTypes.nextOf (.ref i2)) (S2.item _ k _ _ _ k2 s2 fun y g4 py t2 b4 => wpAny_pure ?_)
    refine wpAny_pure (wpAny_pure ?_)
    refine wpAny_bind (wpAny_newTuple ?_ (by show 2 <= sizeLine; rw [sizeLine_eq]; decide))
    have sz : g4.objs.size = s.heap.objs.size := by rw [b4.1, b2.1, b0.1]
    have z4 : eU g4 z TI TO f0 fb := b4.extBut _ _ D.i2z.symm (b2.extBut _ _ D.i1z.symm hz0)
    have kp4 : ∀ c o, c ≠ z -> c ≠ i1 -> c ≠ i2 -> s.heap.get? c = some o -> g4.get? c = some o := fun c o c1 c3 c4 e => b4.extBut _ _ c4 (b2.extBut _ _ c3 (b0.extBut _ _ c1 e))
    have t1' : st1 (k + 1) g4 := S1.keep _ _ _ t1 fun c hc o e => by
      rcases hc with r | r
      · rw [r] at e ⊢; exact b4.extBut _ _ D.i12 e
      · rw [r] at e ⊢; exact b4.extBut _ _ D.l1i2 e
    refine wpAny_pure ⟨_, rfl, ?_⟩
    show Q (.ref g4.objs.size) _
    have T8 : IsPair (g4.push { cls := .type "tuple", data := .seq #[x, y] }) g4.objs.size x y := Heap.get?_push_size _ rfl
    rw [sz] at T8 ⊢
    refine hQ _ x y _ _ px py hf (Heap.get?_push_of_some _ z4) ⟨_, _, Heap.get?_push_of_some _ (kp4 _ _ D.TOz D.TOi1 D.TOi2 hTO)⟩ (S1.keep _ _ _ t1' fun c hc o e => Heap.get?_push_of_some _ e) (S2.keep _ _ _ t2 fun c hc o e => Heap.get?_push_of_some _ e) T8 (by rw [Heap.size_push, sz]) fun c o c1 c2 c3 c4 e => Heap.get?_push_of_some _ (kp4 c o c1 c3 c4 e)
theorem aB1 {k : Nat} {a b f0 : Value} {f1 : Bool} {Q : Fin -> Shared -> Prop} (hh : A.handled = none) (D : ZipApart z TI TO i1 i2 l1 l2) (S1 : Sub prog w i1 l1 n1 P1 st1) (S2 : Sub prog w i2 l2 n2 P2 st2)
    (hz : eU s.heap z TI TO f0 f1) (hf : F0 f0) (hTI : IsPair s.heap TI (.ref i1) (.ref i2)) (hTO : IsPair s.heap TO a b) (h1 : st1 k s.heap) (h2 : st2 k s.heap) (hend : k = n1 /\ k <= n2 ∨ k = n2 /\ k < n1)
    (hE : ∀ h' e, (∀ c o, c ≠ z -> c ≠ TO -> c ≠ i1 -> c ≠ i2 -> s.heap.get? c = some o -> h'.get? c = some o) -> (∃ o, h'.get? e = some o /\ o.cls = .type "StopIteration") -> E (.ref e) { s with heap := h' }) :
    wpAny (model prog w) A (Builtin.«zip.__next__» ⟨[.ref z], []⟩) Q E s := by
  refine wpAny_bind (m := field (.ref z) 2) (wpAny_field hz rfl (x := .bool false) rfl ?_)
  refine wpAny_bind (m := field (.ref z) 3) (wpAny_field hz rfl (x := .ref TI) rfl ?_)
  refine wpAny_bind (wpAny_seqItems hTI rfl ?_)
  refine wpAny_bind (m := Builtin.SmallTypes.ownedTupleIsFree (.ref z)) (aAX hz hf ?_ fun h0 fb hz0 b0 => ?_)
  · simp only [if_true]
    refine wpAny_bind (wpAny_rule ?_)
    refine wpAny_bind (wpAny_field hz rfl (x := .ref TO) rfl ?_)
    refine wpAny_bind (wpAny_setField_rec hz (by simp) fun g1 hz1 b1 => ?_)
    have hz1' : eU g1 z TI TO .ellipsis f1 := hz1
    refine wpAny_bind ?_
    simp only [List.zipIdx_cons, List.zipIdx_nil, List.forIn_cons, List.forIn_nil]
    have s1 : st1 k g1 := S1.keep _ _ _ h1 fun c hc o e => b1.extBut c o (by rcases hc with r | r <;> rw [r]; exact D.i1z; exact D.l1z) e
    refine wpAny_bind (wpAny_bind (wpAny_onRaise ?_))
    have fin : ∀ (g : Heap) (e : Addr) (g0 : Heap), (∃ o, g.get? e = some o /\ o.cls = .type "StopIteration") -> eU g z TI TO .ellipsis f1 -> (∀ c o, c ≠ z -> c ≠ TO -> c ≠ i1 -> c ≠ i2 -> s.heap.get? c = some o -> g.get? c = some o) ->
        wpAny (model prog w) A (setField (.ref z) 0 .none) (fun _ s' => E (.ref e) s') E { s with heap := g } := fun g e g0 ⟨oe, hoe, hce⟩ hzz kp => by
      have hez : e ≠ z := fun q => by rw [q, hzz] at hoe; cases hoe; simp at hce
      exact wpAny_setField_rec hzz (by simp) fun g' _ b' => hE g' e (fun c o c1 c2 c3 c4 q => b'.extBut _ _ c1 (kp c o c1 c2 c3 c4 q)) ⟨oe, b'.extBut _ _ hez hoe, hce⟩
    rcases hend with ⟨e1, _⟩ | ⟨e2, k1⟩
    · rw [e1] at s1
      refine wpAny_bind (m := Builtin.SmallTypes.nextOf (.ref i1)) (S1.done _ _ _ _ hh s1 fun g2 e b2 he => ?_)
      exact fin g2 e g1 he (b2 _ _ D.i1z.symm hz1') fun c o c1 _ c3 _ q => b2 _ _ c3 (b1.extBut _ _ c1 q)
    · refine wpAny_bind (m := Builtin.SmallTypes.nextOf (.ref i1)) (S1.item _ k _ _ _ k1 s1 fun x g2 px t1 b2 => wpAny_pure ?_)
      have o2 : IsPair g2 TO a b := b2.extBut _ _ D.TOi1 (b1.extBut _ _ D.TOz hTO)
      refine wpAny_bind (wpAny_seqItems o2 rfl ?_)
      refine wpAny_bind (wpAny_updateSeq_pair o2 fun g3 o3 b3 => ?_)
      refine wpAny_bind (wpAny_letGo (wpAny_pure ?_))
      have s2 : st2 n2 g3 := by
        rw [<- e2]
        exact S2.keep _ _ _ h2 fun c hc o e => by
          rcases hc with r | r
          · rw [r] at e ⊢; exact b3.extBut _ _ D.TOi2.symm (b2.extBut _ _ D.i12.symm (b1.extBut _ _ D.i2z e))
          · rw [r] at e ⊢; exact b3.extBut _ _ D.l2TO (b2.extBut _ _ D.l2i1 (b1.extBut _ _ D.l2z e))
      refine wpAny_bind (wpAny_bind (wpAny_onRaise ?_))
      refine wpAny_bind (m := Builtin.SmallTypes.nextOf (.ref i2)) (S2.done _ _ _ _ hh s2 fun g4 e b4 he => ?_)
      exact fin g4 e g3 he (b4 _ _ D.i2z.symm (b3.extBut _ _ D.TOz.symm (b2.extBut _ _ D.i1z.symm hz1'))) fun c o c1 c2 c3 c4 q => b4 _ _ c4 (b3.extBut _ _ c2 (b2.extBut _ _ c3 (b1.extBut _ _ c1 q)))
  · simp only [Bool.false_eq_true, if_false]
    have s1 : st1 k h0 := S1.keep _ _ _ h1 fun c hc o e => b0.extBut c o (by rcases hc with r | r <;> rw [r]; exact D.i1z; exact D.l1z) e
    rw [<- Array.forIn_toList]
    simp only [List.forIn_cons, List.forIn_nil]
    refine wpAny_bind (wpAny_bind (wpAny_bind (wpAny_holding ?_)))
    rcases hend with ⟨e1, _⟩ | ⟨e2, k1⟩
    · rw [e1] at s1
      refine wpAny_bind (m := Builtin.SmallTypes.nextOf (.ref i1)) (S1.done _ _ _ _ hh s1 fun g2 e b2 he => ?_)
      exact hE g2 e (fun c o c1 _ c3 _ q => b2 _ _ c3 (b0.extBut _ _ c1 q)) he
    · refine wpAny_bind (m := Builtin.SmallTypes.nextOf (.ref i1)) (S1.item _ k _ _ _ k1 s1 fun x g2 px t1 b2 => wpAny_pure ?_)
      refine wpAny_pure ?_
      have s2 : st2 n2 g2 := by
        rw [<- e2]
        exact S2.keep _ _ _ h2 fun c hc o e => by
          rcases hc with r | r
          · rw [r] at e ⊢; exact b2.extBut _ _ D.i12.symm (b0.extBut _ _ D.i2z e)
          · rw [r] at e ⊢; exact b2.extBut _ _ D.l2i1 (b0.extBut _ _ D.l2z e)
      refine wpAny_bind (wpAny_bind (wpAny_holding ?_))
      refine wpAny_bind (m := Builtin.SmallTypes.nextOf (.ref i2)) (S2.done _ _ _ _ hh s2 fun g4 e b4 he => ?_)
      exact hE g4 e (fun c o c1 c2 c3 c4 q => b4 _ _ c4 (b2.extBut _ _ c3 (b0.extBut _ _ c1 q))) he
structure ZipSt (h : Heap) (z TI TO i1 i2 : Addr) : Prop where
  hz : ∃ f0 f1, F0 f0 /\ eU h z TI TO f0 f1
  ti : IsPair h TI (.ref i1) (.ref i2)
  to : ∃ a b, IsPair h TO a b
theorem tS {e : Addr} {i : Nat} {old : Value} {Q : Value -> Shared -> Prop} (D : ZipApart z TI TO i1 i2 l1 l2) (S1 : Sub prog w i1 l1 n1 P1 st1) (S2 : Sub prog w i2 l2 n2 P2 st2) (he : IsEnum s.heap e z i old) (Z : ZipSt s.heap z TI TO i1 i2)
    (h1 : st1 i s.heap) (h2 : st2 i s.heap) (k1 : i < n1) (k2 : i < n2) (ne : e ≠ z /\ e ≠ TI /\ e ≠ TO /\ e ≠ i1 /\ e ≠ i2 /\ e ≠ l1 /\ e ≠ l2)
    (hQ : ∀ h' x y tk, P1 i x -> P2 i y -> IsEnumOut h' e z ((i : Int) + 1) (.ref s.heap.objs.size) (s.heap.objs.size + 1) -> ZipSt h' z TI TO i1 i2 -> st1 (i + 1) h' -> st2 (i + 1) h' -> IsPair h' s.heap.objs.size x y ->
      h'.get? (s.heap.objs.size + 1) = some { cls := .type "tuple", data := .seq #[.int i tk, .ref s.heap.objs.size] } ->
      (∀ c o, c ≠ e -> c ≠ z -> c ≠ TO -> c ≠ i1 -> c ≠ i2 -> s.heap.get? c = some o -> h'.get? c = some o) -> Q (.ref (s.heap.objs.size + 1)) { s with heap := h', toks := s.toks + 1 }) :
    wpAny (model prog w) A (Builtin.«enumerate.__next__» ⟨[.ref e], []⟩) (fun fin s' => ∃ v, fin = .done (.ret v) /\ Q v s') E s := by
  obtain ⟨⟨f0, f1, hf, hz⟩, hTI, ⟨a, b, hTO⟩⟩ := Z
  obtain ⟨ne1, ne2, ne3, ne4, ne5, ne6, ne7⟩ := ne
  have hTz : s.TypeIs (.ref z) "zip" := ⟨_, hz, rfl⟩
  refine wpAny_bind (m := field (.ref e) 2) (wpAny_field he rfl (x := .ref z) rfl ?_)
  refine wpAny_bind (m := Builtin.SmallTypes.nextOf (.ref z)) ?_
  unfold Builtin.SmallTypes.nextOf
  refine wpAny_bind (wpAny_callSpecial?_slot (name := Str.ofString "__next__") hTz PySem.F.slot_zip_next (wpAny_call_entry PySem.F.slot_zip_next hTz PySem.F.entry_zip_next
    (aAY D S1 S2 hz hf hTI hTO h1 h2 k1 k2 fun g1 x y f0' f1' px py hf' hz' hTO' t1 t2 hp hsz kp => ?_) (PySem.F.args_zip_next_1 _)))
  refine wpAny_pure ?_
  have e1 : IsEnum g1 e z i old := kp _ _ ne1 ne3 ne4 ne5 he
  refine wpAny_bind (m := field (.ref e) 3) (wpAny_field e1 rfl (x := rawInt i) rfl ?_)
  refine wpAny_bind (m := field (.ref e) 4) (wpAny_field e1 rfl (x := .none) rfl ?_)
  refine wpAny_bind (m := mkInt i) (wpAny_mkInt ?_)
  refine wpAny_bind (m := setField (.ref e) 3 (rawInt ((i : Int) + 1))) (wpAny_setField_rec e1 (by simp) fun g2 e2 b2 => ?_)
  have e2' : IsEnum g2 e z ((i : Int) + 1) old := e2
  refine wpAny_bind (m := setField (.ref e) 4 .none) (wpAny_setField_rec e2' (by simp) fun g3 e3 b3 => ?_)
  have e3' : IsEnum g3 e z ((i : Int) + 1) old := e3
  refine wpAny_bind (m := newTuple [.int i s.toks, .ref s.heap.objs.size]) (wpAny_newTuple ?_)
  have sz : g3.objs.size = s.heap.objs.size + 1 := by rw [b3.1, b2.1, hsz]
  have e4 : IsEnum (g3.push { cls := .type "tuple", data := .seq #[.int i s.toks, .ref s.heap.objs.size] }) e z ((i : Int) + 1) old := Heap.get?_push_of_some _ e3'
  have T4 : (g3.push { cls := .type "tuple", data := .seq #[.int i s.toks, .ref s.heap.objs.size] }).get? (s.heap.objs.size + 1) = some { cls := .type "tuple", data := .seq #[.int i s.toks, .ref s.heap.objs.size] } := by rw [<- sz]; exact Heap.get?_push_size _ rfl
  have up4 : ∀ c o, c ≠ e -> g1.get? c = some o -> (g3.push { cls := .type "tuple", data := .seq #[.int i s.toks, .ref s.heap.objs.size] }).get? c = some o := fun c o c1 q => Heap.get?_push_of_some _ (b3.extBut _ _ c1 (b2.extBut _ _ c1 q))
  have elt : s.heap.objs.size + 1 ≠ e := Nat.ne_of_gt (Nat.lt_succ_of_lt (Heap.lt_size he))
  have elt0 : s.heap.objs.size ≠ e := Nat.ne_of_gt (Heap.lt_size he)
  rw [sz]
  generalize g3.push { cls := .type "tuple", data := .seq #[.int i s.toks, .ref s.heap.objs.size] } = g4 at e4 T4 up4 ⊢
  refine wpAny_bind (m := Builtin.SmallTypes.ownedTupleIsFree (.ref e)) ?_
  unfold Builtin.SmallTypes.ownedTupleIsFree
  refine wpAny_bind (wpAny_field e4 rfl (x := .none) rfl (wpAny_pure ?_))
  simp only [if_true]
  refine wpAny_bind (wpAny_rule ?_)
  refine wpAny_bind (wpAny_field e4 rfl (x := old) rfl ?_)
  refine wpAny_bind (wpAny_setField_rec e4 (by simp) fun g5 e5 b5 => ?_)
  have e5' : IsEnum g5 e z ((i : Int) + 1) (.ref s.heap.objs.size) := e5
  refine wpAny_bind (m := Builtin.SmallTypes.ownedTupleHandOut (.ref e) (.ref (s.heap.objs.size + 1))) ?_
  unfold Builtin.SmallTypes.ownedTupleHandOut
  refine wpAny_bind (wpAny_setField_rec e5' (by simp) fun g6 e6 b6 => ?_)
  have e6' : IsEnumOut g6 e z ((i : Int) + 1) (.ref s.heap.objs.size) (s.heap.objs.size + 1) := e6
  refine wpAny_setField_rec e6' (by simp) fun g7 e7 b7 => ?_
  have e7' : IsEnumOut g7 e z ((i : Int) + 1) (.ref s.heap.objs.size) (s.heap.objs.size + 1) := e7
  have up : ∀ c o, c ≠ e -> g4.get? c = some o -> g7.get? c = some o := fun c o c1 q => b7.extBut _ _ c1 (b6.extBut _ _ c1 (b5.extBut _ _ c1 q))
  have all : ∀ c o, c ≠ e -> g1.get? c = some o -> g7.get? c = some o := fun c o c1 q => up c o c1 (up4 c o c1 q)
  obtain ⟨a', b', hTO'⟩ := hTO'
  refine wpAny_bind (wpAny_letGo (wpAny_pure ⟨_, rfl, hQ g7 x y s.toks px py e7' ⟨⟨_, _, hf', all _ _ ne1.symm hz'⟩, all _ _ ne2.symm (kp _ _ D.TIz D.TITO D.TIi1 D.TIi2 hTI), ⟨_, _, all _ _ ne3.symm hTO'⟩⟩ (S1.keep _ _ _ t1 fun c hc o q => all c o ?_ q) (S2.keep _ _ _ t2 fun c hc o q => all c o ?_ q) (all _ _ elt0 hp) (up _ _ elt T4) fun c o c0 c1 c2 c3 c4 q => all c o c0 (kp c o c1 c2 c3 c4 q)⟩))
  · rcases hc with r | r <;> rw [r]
    · exact ne4.symm
    · exact ne6.symm
  · rcases hc with r | r <;> rw [r]
    · exact ne5.symm
    · exact ne7.symm
theorem vO {e : Addr} {i : Nat} {old : Value} {Q : Fin -> Shared -> Prop} (hh : A.handled = none) (D : ZipApart z TI TO i1 i2 l1 l2) (S1 : Sub prog w i1 l1 n1 P1 st1) (S2 : Sub prog w i2 l2 n2 P2 st2) (he : IsEnum s.heap e z i old) (Z : ZipSt s.heap z TI TO i1 i2)
    (h1 : st1 i s.heap) (h2 : st2 i s.heap) (hend : i = n1 /\ i <= n2 ∨ i = n2 /\ i < n1)
    (hE : ∀ h' x, (∀ c o, c ≠ z -> c ≠ TO -> c ≠ i1 -> c ≠ i2 -> s.heap.get? c = some o -> h'.get? c = some o) -> (∃ o, h'.get? x = some o /\ o.cls = .type "StopIteration") -> E (.ref x) { s with heap := h' }) :
    wpAny (model prog w) A (Builtin.«enumerate.__next__» ⟨[.ref e], []⟩) Q E s := by
  obtain ⟨⟨f0, f1, hf, hz⟩, hTI, ⟨a, b, hTO⟩⟩ := Z
  have hTz : s.TypeIs (.ref z) "zip" := ⟨_, hz, rfl⟩
  refine wpAny_bind (m := field (.ref e) 2) (wpAny_field he rfl (x := .ref z) rfl ?_)
  refine wpAny_bind (m := Builtin.SmallTypes.nextOf (.ref z)) ?_
  unfold Builtin.SmallTypes.nextOf
  exact wpAny_bind (wpAny_callSpecial?_slot (name := Str.ofString "__next__") hTz PySem.F.slot_zip_next (wpAny_call_entry PySem.F.slot_zip_next hTz PySem.F.entry_zip_next
    (aB1 hh D S1 S2 hz hf hTI hTO h1 h2 hend fun h' x kp hx => hE h' x kp hx) (PySem.F.args_zip_next_1 _)))
end
end L2
set_option Elab.async false
set_option linter.all false
set_option maxRecDepth 100000
namespace L2
open PySem PySem.Spec PyProof.Rows
def aAZ (K : PySem.W.Frag) (k1 k2 : Sk) (a b : Addr) : It :=
  ⟨fun i H => ∃ xs ys x y, SqK k1 K H a xs /\ SqK k2 K H b ys /\ xs[i]? = some x /\ ys[i]? = some y,
   fun i H v H' => ∃ p q, H p = none /\ H q = none /\ q ≠ p /\ v = .ref q /\ ∀ xs ys, SqK k1 K H a xs -> SqK k2 K H b ys -> ∃ x y, xs[i]? = some x /\ ys[i]? = some y /\ H' = upd (upd H p (.tup [x, y])) q (.tup [.int (i : Nat), .ref p]),
   fun i H => ∃ xs ys, SqK k1 K H a xs /\ SqK k2 K H b ys /\ min xs.length ys.length = i⟩
theorem rP {P : Program} {w : World} {K : PySem.W.Frag} {es : List Expr} {x1} {pos : Pos} (k1 k2 : Sk) (a b e z TI TO i1 i2 : Addr) (D : ∀ l1 l2 : Addr, (∀ c ∈ [e, z, TI, TO, i1, i2], l1 ≠ c) -> (∀ c ∈ [e, z, TI, TO, i1, i2], l2 ≠ c) -> ZipApart z TI TO i1 i2 l1 l2)
    (ne : e ≠ z /\ e ≠ TI /\ e ≠ TO /\ e ≠ i1 /\ e ≠ i2) :
    Turn P w K (.Tuple es x1 pos) (aAZ K k1 k2 a b) [e, z, TI, TO, i1, i2] e (fun i h => (∃ old, IsEnum h e z i old) /\ ZipSt h z TI TO i1 i2 /\ ItK k1 h i1 a i /\ ItK k2 h i2 b i) where
  mem := by simp
  obj := fun i h st c hc => by
    obtain ⟨⟨old, he⟩, ⟨⟨f0, f1, hf, hz⟩, hTI, ⟨x, y, hTO⟩⟩, h1, h2⟩ := st
    simp only [List.mem_cons, List.not_mem_nil, or_false] at hc
    rcases hc with rfl | rfl | rfl | rfl | rfl | rfl
    · exact ⟨_, he, fun v q => by cases q⟩
    · exact ⟨_, hz, fun v q => by cases q⟩
    · exact ⟨_, hTI, fun v q => by cases q⟩
    · exact ⟨_, hTO, fun v q => by cases q⟩
    · exact h1.obj
    · exact h2.obj
  keep := fun i h h' st k => by
    obtain ⟨⟨old, he⟩, ⟨⟨f0, f1, hf, hz⟩, hTI, ⟨x, y, hTO⟩⟩, h1, h2⟩ := st
    exact ⟨⟨old, k e (by simp) _ he⟩, ⟨⟨f0, f1, hf, k z (by simp) _ hz⟩, k TI (by simp) _ hTI, ⟨x, y, k TO (by simp) _ hTO⟩⟩, h1.at fun o e => k i1 (by simp) o e, h2.at fun o e => k i2 (by simp) o e⟩
  item := by
    intro X hP hw hK hc i pins s σ H E I hf st hg
    subst hP hw hK
    obtain ⟨⟨old, he⟩, Z, h1, h2⟩ := st
    obtain ⟨xs, ys, x, y, ha, hb, hx, hy⟩ := hg
    obtain ⟨its, rv, pa⟩ := I.seqK ha
    obtain ⟨jts, rw', pb⟩ := I.seqK hb
    obtain ⟨u, hu, ru⟩ := rv.get hx
    obtain ⟨v, hv, rv2⟩ := rw'.get hy
    have na : ∀ c ∈ [e, z, TI, TO, i1, i2], a ≠ c := fun c hc' => I.seq_ne ha (hf c hc')
    have nb : ∀ c ∈ [e, z, TI, TO, i1, i2], b ≠ c := fun c hc' => I.seq_ne hb (hf c hc')
    have DD := D a b na nb
    have hT : s.TypeIs (.ref e) "enumerate" := ⟨_, he, rfl⟩
    have hi1 : i < its.toArray.size := by rw [List.size_toArray]; exact (List.getElem?_eq_some_iff.mp hu).1
    have hi2 : i < jts.toArray.size := by rw [List.size_toArray]; exact (List.getElem?_eq_some_iff.mp hv).1
    unfold pyNext
    refine wpAny_bind (wpAny_attempt (wpAny_callSpecial?_slot (name := Str.ofString "__next__") hT PySem.F.slot_enumerate_next (wpAny_call_entry PySem.F.slot_enumerate_next hT PySem.F.entry_enumerate_next
      (tS DD (sW k1 X.prog X.w i1 a its.toArray (na i1 (by simp))) (sW k2 X.prog X.w i2 b jts.toArray (nb i2 (by simp))) he Z ⟨h1, pa⟩ ⟨h2, pb⟩ hi1 hi2
        ⟨ne.1, ne.2.1, ne.2.2.1, ne.2.2.2.1, ne.2.2.2.2, (na e (by simp)).symm, (nb e (by simp)).symm⟩ fun h' u' v' tk pu pv he' Z' s1 s2 hp1 hp2 kp => wpAny_pure ?_) (PySem.F.args_enumerate_next_1 _))))
    have eu : u' = u := by
      have q : its[i]? = some u' := by simpa using pu
      rw [hu] at q
      exact (Option.some.inj q).symm
    have ev : v' = v := by
      have q : jts[i]? = some v' := by simpa using pv
      rw [hv] at q
      exact (Option.some.inj q).symm
    subst eu ev
    refine ⟨_, rfl, wpAny_letOwnedTupleGo_enum he' fun h2' he2 sb2 => ?_⟩
    have T0 : s.heap.objs.size ≠ e := Nat.ne_of_gt (Heap.lt_size he)
    have T1 : s.heap.objs.size + 1 ≠ e := Nat.ne_of_gt (Nat.lt_succ_of_lt (Heap.lt_size he))
    have hp1' : IsPair h2' s.heap.objs.size u' v' := sb2.extBut _ _ T0 hp1
    have hp2' : h2'.get? (s.heap.objs.size + 1) = some { cls := .type "tuple", data := .seq #[.int i tk, .ref s.heap.objs.size] } := sb2.extBut _ _ T1 hp2
    have hf0 := I.hok.fresh (Nat.le_refl s.heap.objs.size)
    have hf1 := I.hok.fresh (Nat.le_succ s.heap.objs.size)
    have fz := I.fpOk (Nat.le_refl s.heap.objs.size) hf0
    have fz1 := I.fpOk (Nat.le_succ s.heap.objs.size) hf1
    have I2 : Inv X pins σ H { s with heap := h2', toks := s.toks + 1 } := by
      refine I.turnedL (t' := s.toks + 1) [e, z, TO, i1, i2] (fun c o hc' q => ?_) (fun c hc' => hf c ?_)
      · simp only [List.mem_cons, List.not_mem_nil, or_false, not_or] at hc'
        exact sb2.extBut _ _ hc'.1 (kp c o hc'.1 hc'.2.1 hc'.2.2.1 hc'.2.2.2.1 hc'.2.2.2.2 q)
      · simp only [List.mem_cons, List.not_mem_nil, or_false] at hc' ⊢
        rcases hc' with r | r | r | r | r
        · exact .inl r
        · exact .inr (.inl r)
        · exact .inr (.inr (.inr (.inl r)))
        · exact .inr (.inr (.inr (.inr (.inl r))))
        · exact .inr (.inr (.inr (.inr (.inr r))))
    have I3 : Inv X pins σ (upd H s.heap.objs.size (.tup [x, y])) { s with heap := h2', toks := s.toks + 1 } := by
      refine I2.trackO (show bM X.prog X.w _ _ _ (.tup [x, y]) from ⟨by show 2 <= sizeLine; rw [sizeLine_eq]; decide, [u', v'], 0, .cons ru (.cons rv2 .nil), hp1'⟩) hf0 fz.2.1 I.sz fz.2.2.2.2.1 fz.2.2.2.2.2
    have nn : s.heap.objs.size + 1 ≠ s.heap.objs.size := Nat.succ_ne_self _
    have I4 : Inv X pins σ (upd (upd H s.heap.objs.size (.tup [x, y])) (s.heap.objs.size + 1) (.tup [.int (i : Nat), .ref s.heap.objs.size])) { s with heap := h2', toks := s.toks + 1 } := by
      refine I3.trackO (show bM X.prog X.w _ _ _ (.tup [.int (i : Nat), .ref s.heap.objs.size]) from ⟨by show 2 <= sizeLine; rw [sizeLine_eq]; decide, [.int i tk, .ref s.heap.objs.size], 0, .cons ⟨tk, rfl⟩ (.cons rfl .nil), hp2'⟩) (by rw [aH nn]; exact hf1) fz1.2.1 (Nat.le_trans I.sz (Nat.le_succ _)) fz1.2.2.2.2.1 fz1.2.2.2.2.2
    obtain ⟨⟨g0, g1, hg, hz'⟩, hTI', ⟨a', b', hTO'⟩⟩ := Z'
    refine ⟨.ref (s.heap.objs.size + 1), _, I4, rfl, ⟨s.heap.objs.size, s.heap.objs.size + 1, hf0, hf1, nn, rfl, fun xs' ys' ha' hb' => ?_⟩, ⟨⟨_, by simpa using he2⟩, ⟨⟨g0, g1, hg, sb2.extBut _ _ ne.1.symm hz'⟩, sb2.extBut _ _ ne.2.1.symm hTI', ⟨_, _, sb2.extBut _ _ ne.2.2.1.symm hTO'⟩⟩, s1.1.at fun o q => sb2.extBut _ _ ne.2.2.2.1.symm q, s2.1.at fun o q => sb2.extBut _ _ ne.2.2.2.2.symm q⟩, fun c hc' => ?_⟩
    · rw [I.seqK_inj ha' ha, I.seqK_inj hb' hb]
      exact ⟨x, y, hx, hy, rfl⟩
    · have cl : c < s.heap.objs.size := by
        obtain ⟨o, q⟩ : ∃ o, s.heap.get? c = some o := by
          obtain ⟨⟨f0, f1, hf', hz⟩, hTI, ⟨x', y', hTO⟩⟩ := Z
          simp only [List.mem_cons, List.not_mem_nil, or_false] at hc'
          rcases hc' with rfl | rfl | rfl | rfl | rfl | rfl
          · exact ⟨_, he⟩
          · exact ⟨_, hz⟩
          · exact ⟨_, hTI⟩
          · exact ⟨_, hTO⟩
          · obtain ⟨o, q, _⟩ := h1.obj; exact ⟨o, q⟩
          · obtain ⟨o, q, _⟩ := h2.obj; exact ⟨o, q⟩
        exact Heap.lt_size q
      rw [aH (Nat.ne_of_lt (Nat.lt_succ_of_lt cl)), aH (Nat.ne_of_lt cl)]
      exact (hf c hc').1
  done := by
    intro X hP hw hK hc i pins s σ H E I hf st hg
    subst hP hw hK
    obtain ⟨⟨old, he⟩, Z, h1, h2⟩ := st
    obtain ⟨xs, ys, ha, hb, hmin⟩ := hg
    obtain ⟨its, rv, pa⟩ := I.seqK ha
    obtain ⟨jts, rw', pb⟩ := I.seqK hb
    have la := rv.length
    have lb := rw'.length
    have na : ∀ c ∈ [e, z, TI, TO, i1, i2], a ≠ c := fun c hc' => I.seq_ne ha (hf c hc')
    have nb : ∀ c ∈ [e, z, TI, TO, i1, i2], b ≠ c := fun c hc' => I.seq_ne hb (hf c hc')
    have DD := D a b na nb
    have hT : s.TypeIs (.ref e) "enumerate" := ⟨_, he, rfl⟩
    unfold pyNext
    refine wpAny_bind (wpAny_attempt (wpAny_callSpecial?_slot (name := Str.ofString "__next__") hT PySem.F.slot_enumerate_next (wpAny_call_entry PySem.F.slot_enumerate_next hT PySem.F.entry_enumerate_next
      (vO (I.ok.hd hc) DD (sW k1 X.prog X.w i1 a its.toArray (na i1 (by simp))) (sW k2 X.prog X.w i2 b jts.toArray (nb i2 (by simp))) he Z ⟨h1, pa⟩ ⟨h2, pb⟩ (by rw [List.size_toArray, List.size_toArray]; omega) fun h' x kp hx => ?_) (PySem.F.args_enumerate_next_1 _))))
    obtain ⟨oe, hoe, hce⟩ := hx
    refine wpAny_bind (wpAny_isInstance (T := "StopIteration") (b := true) ⟨oe, hoe, hce⟩ isSubtype_stop (wpAny_pure ⟨rfl, ?_⟩))
    refine I.turnedL (t' := s.toks) [z, TO, i1, i2] (fun c o hc' q => ?_) (fun c hc' => hf c ?_)
    · simp only [List.mem_cons, List.not_mem_nil, or_false, not_or] at hc'
      exact kp c o hc'.1 hc'.2.1 hc'.2.2.1 hc'.2.2.2 q
    · simp only [List.mem_cons, List.not_mem_nil, or_false] at hc' ⊢
      rcases hc' with r | r | r | r
      · exact .inr (.inl r)
      · exact .inr (.inr (.inr (.inl r)))
      · exact .inr (.inr (.inr (.inr (.inl r))))
      · exact .inr (.inr (.inr (.inr (.inr r))))
  self := fun _ _ _ _ _ st h => by
    obtain ⟨⟨old, he⟩, _⟩ := st
    exact wpAny_pyIter_enum he h
theorem pY (z TI TO : Addr) :
    Meets (Builtin.«enumerate.__new__» ⟨[.type "enumerate", .ref z], []⟩) (fun _ R s => IsZip s.heap z TI TO .none /\
      R (.ok (.ret (.ref s.heap.objs.size))) { s with heap := s.heap.push { cls := .type "enumerate", data := .fields #[.none, .bool false, .ref z, rawInt 0, .none, .none] } }) :=
  .of_wp fun prog w A R s h => by
    obtain ⟨hp, g, d, tk, os⟩ := s
    obtain ⟨hl, h⟩ := h
    have hsub := sub_enumerate
    have hZ : IsZip (Shared.heap ⟨hp, g, d, tk, os⟩) z TI TO .none := hl
    wp_walk using AutoSeq1.wpAny_loadPart' hZ
    refine wpAny_stack_any fun st => wpAny_pure ?_
    split
    · rename_i c _ _ _ _ _
      cases (c == Value.type "enumerate")
      · wp_walk using AutoSeq1.wpAny_loadPart' hZ, wpAny_pyIter_zip hZ
        exact ⟨_, rfl, h⟩
      · wp_walk using AutoSeq1.wpAny_loadPart' hZ, wpAny_pyIter_zip hZ
        exact ⟨_, rfl, h⟩
    · wp_walk using AutoSeq1.wpAny_loadPart' hZ, wpAny_pyIter_zip hZ
      exact ⟨_, rfl, h⟩
section
variable {X : Cx} {es : List Expr} {x1 : Nat} {tpos : Pos}
def aA0 (K : PySem.W.Frag) (k1 k2 : Sk) (ta : TA) : TI := fun σ H R => ta σ H fun vs H1 => ∃ a b xs ys, vs = [.ref a, .ref b] /\ SqK k1 K H1 a xs /\ SqK k2 K H1 b ys /\ R (aAZ K k1 k2 a b) H1
theorem vP (k1 k2 : Sk) {a b : Expr} {ta : TA} {p pos p' pos' : Pos} (hg : Gl X "enumerate") (hm : X.mg "enumerate" = none) (hg2 : Gl X "zip") (hm2 : X.mg "zip" = none) (ha : PA X [a, b] ta)
    (hs : starEach [a, b] X.env = [(false, eval a X.env), (false, eval b X.env)] := by rfl) (hs2 : starEach [b] X.env = [(false, eval b X.env)] := by rfl)
    (hs3 : starEach [Expr.Call (.Name "zip" p') [a, b] [] pos'] X.env = [(false, eval (.Call (.Name "zip" p') [a, b] [] pos') X.env)] := by rfl) :
    PI X (.Tuple es x1 tpos) (.Call (.Name "enumerate" p) [.Call (.Name "zip" p') [a, b] [] pos'] [] pos) (aA0 X.K k1 k2 ta) := by
  intro pins s σ H R I h
  refine Call_ (gX (u := .type "enumerate") I hg hm (by decide +kernel) (PyProof.Rows.callWith_type1 ?_ hs3 rfl))
  rw [hs3]
  show wpAny _ _ (spliced ((false, eval (.Call (.Name "zip" p') [a, b] [] pos') X.env) :: [])) _ _ s
  refine Calls.spliced_cons ?_
  refine Call_ (gX (u := .type "zip") I hg2 hm2 (by decide +kernel) (PyProof.Rows.callWith_type1 (thn (ha pos' pins s σ H _ I h) fun us s1 hx9 => ?_) (by rw [hs, hs2]) (by rw [hs2]; rfl)))
  obtain ⟨vs, H1, I1, r1, q1⟩ := hx9
  obtain ⟨l1, l2, xs, ys, rfl, hA, hB, q⟩ := q1
  obtain ⟨u1, u2, rfl, r1', r2'⟩ := kR r1
  cases r1'
  cases r2'
  obtain ⟨its, rv, pa⟩ := I1.seqK hA
  obtain ⟨jts, rw', pb⟩ := I1.seqK hB
  refine callType_new PySem.F.called_zip (by decide) (PySem.F.typeCall_zip_2 _ _) (PySem.F.newCall_zip_2 _ _) (fun obj => PySem.F.args_object_init_3 obj _ _) PySem.F.entry_zip_new (sX k1 k2 l1 l2 its.toArray jts.toArray) ⟨pa, pb, ?_⟩
  have n1 : (zh1 k1 s1.heap l1).objs.size = s1.heap.objs.size + 1 := Heap.size_push ..
  have n2 : (zh2 k1 k2 s1.heap l1 l2).objs.size = s1.heap.objs.size + 2 := by rw [Heap.size_push, n1]
  have n3 : (zh3 k1 k2 s1.heap l1 l2).objs.size = s1.heap.objs.size + 3 := by rw [Heap.size_push, n2]
  have n4 : (zh4 k1 k2 s1.heap l1 l2).objs.size = s1.heap.objs.size + 4 := by rw [Heap.size_push, n3]
  have n5 : (zh5 k1 k2 s1.heap l1 l2).objs.size = s1.heap.objs.size + 5 := by rw [Heap.size_push, n4]
  have g5 : IsZip (zh5 k1 k2 s1.heap l1 l2) (zh4 k1 k2 s1.heap l1 l2).objs.size (zh2 k1 k2 s1.heap l1 l2).objs.size (zh3 k1 k2 s1.heap l1 l2).objs.size .none := Heap.get?_push_size _ rfl
  have g4 : IsPair (zh5 k1 k2 s1.heap l1 l2) (zh3 k1 k2 s1.heap l1 l2).objs.size .none .none := Heap.get?_push_of_some _ (Heap.get?_push_size _ rfl)
  have g3 : IsPair (zh5 k1 k2 s1.heap l1 l2) (zh2 k1 k2 s1.heap l1 l2).objs.size (.ref s1.heap.objs.size) (.ref (zh1 k1 s1.heap l1).objs.size) := Heap.get?_push_of_some _ (Heap.get?_push_of_some _ (Heap.get?_push_size _ rfl))
  have g2 : ItK k2 (zh5 k1 k2 s1.heap l1 l2) (zh1 k1 s1.heap l1).objs.size l2 0 := (ItK.new k2 (zh1 k1 s1.heap l1) l2).at fun o e => Heap.get?_push_of_some _ (Heap.get?_push_of_some _ (Heap.get?_push_of_some _ e))
  have g1 : ItK k1 (zh5 k1 k2 s1.heap l1 l2) s1.heap.objs.size l1 0 := (ItK.new k1 s1.heap l1).at fun o e => Heap.get?_push_of_some _ (Heap.get?_push_of_some _ (Heap.get?_push_of_some _ (Heap.get?_push_of_some _ e)))
  have kp : ∀ c o, s1.heap.get? c = some o -> (zh5 k1 k2 s1.heap l1 l2).get? c = some o := fun c o e => Heap.get?_push_of_some _ (Heap.get?_push_of_some _ (Heap.get?_push_of_some _ (Heap.get?_push_of_some _ (Heap.get?_push_of_some _ e))))
  refine ⟨⟨_, g5, rfl⟩, Calls.spliced_nil ?_⟩
  rw [n1, n2, n3, n4] at *
  generalize zh5 k1 k2 s1.heap l1 l2 = hz5 at *
  refine callType_new PySem.F.called_enumerate (by decide) (PySem.F.typeCall_enumerate_1 _) (PySem.F.newCall_enumerate_1 _) (fun obj => PySem.F.args_object_init_2 obj _) PySem.F.entry_enumerate_new (pY (s1.heap.objs.size + 4) (s1.heap.objs.size + 2) (s1.heap.objs.size + 3)) ⟨g5, ?_⟩
  have ge : IsEnum (hz5.push { cls := .type "enumerate", data := .fields #[.none, .bool false, .ref (s1.heap.objs.size + 4), rawInt 0, .none, .none] }) hz5.objs.size (s1.heap.objs.size + 4) 0 .none := Heap.get?_push_size _ rfl
  have kp6 : ∀ c o, hz5.get? c = some o -> (hz5.push { cls := .type "enumerate", data := .fields #[.none, .bool false, .ref (s1.heap.objs.size + 4), rawInt 0, .none, .none] }).get? c = some o := fun c o e => Heap.get?_push_of_some _ e
  rw [n5] at ge
  show (∃ _, _) /\ _
  rw [n5]
  generalize hz5.push { cls := .type "enumerate", data := .fields #[.none, .bool false, .ref (s1.heap.objs.size + 4), rawInt 0, .none, .none] } = h6 at ge kp6 ⊢
  refine ⟨⟨_, ge, rfl⟩, wpAny_pyIter_enum ge ?_⟩
  have I2 : Inv X pins σ H1 { s1 with heap := h6 } := I1.kept (t' := s1.toks) fun c o e => kp6 c o (kp c o e)
  have d : ∀ i j : Nat, i ≠ j -> s1.heap.objs.size + i ≠ s1.heap.objs.size + j := fun i j h => by omega
  refine ⟨s1.heap.objs.size + 5, [s1.heap.objs.size + 5, s1.heap.objs.size + 4, s1.heap.objs.size + 2, s1.heap.objs.size + 3, s1.heap.objs.size, s1.heap.objs.size + 1], _, _, H1, rfl, I2, rP k1 k2 l1 l2 _ _ _ _ _ _ ?_ ⟨d 5 4 (by decide), d 5 2 (by decide), d 5 3 (by decide), d 5 0 (by decide), d 5 1 (by decide)⟩, ⟨⟨_, ge⟩, ⟨⟨_, _, .inl rfl, kp6 _ _ g5⟩, kp6 _ _ g3, ⟨_, _, kp6 _ _ g4⟩⟩, g1.at fun o e => kp6 _ _ e, g2.at fun o e => kp6 _ _ e⟩, fun c hc => ?_, q⟩
  · intro m1 m2 h1 h2
    exact ⟨d 2 4 (by decide), d 3 4 (by decide), d 0 4 (by decide), d 1 4 (by decide), d 2 3 (by decide), d 2 0 (by decide), d 2 1 (by decide), d 3 0 (by decide), d 3 1 (by decide), d 0 1 (by decide),
      h1 _ (by simp), h1 _ (by simp), h1 _ (by simp), h1 _ (by simp), h2 _ (by simp), h2 _ (by simp), h2 _ (by simp), h2 _ (by simp)⟩
  · have hc' : s1.heap.objs.size <= c := by
      simp only [List.mem_cons, List.not_mem_nil, or_false] at hc
      rcases hc with r | r | r | r | r | r <;> rw [r]
      all_goals first | exact Nat.le_refl _ | exact Nat.le_add_right _ _
    exact I1.fpOk hc' (I1.hok.fresh hc')
end
theorem tT {K : PySem.W.Frag} {k1 k2 : Sk} {a b : Addr} {xs ys : List V} {g : TG} {tb : TS} {D : Ends} {σ : St} {H : Hp} (Pv : Nat -> St -> Hp -> Prop) (heq : xs.length = ys.length) (h0 : Pv 0 σ H) (hl : ∀ i σ H, i <= xs.length -> Pv i σ H -> SqK k1 K H a xs /\ SqK k2 K H b ys)
    (hs : ∀ i x y p q σ H, xs[i]? = some x -> ys[i]? = some y -> Pv i σ H -> H p = none -> H q = none -> q ≠ p -> g (.ref q) σ (upd (upd H p (.tup [x, y])) q (.tup [.int (i : Nat), .ref p])) fun σ2 H2 => tb { D with nx := Pv (i + 1), ct := Pv (i + 1), bk := D.nx } σ2 H2) (hd : ∀ σ H, Pv xs.length σ H -> D.nx σ H) :
    ∃ W : Nat -> Nat -> St -> Hp -> Prop, (∃ m, W 0 m σ H) /\ ∀ i m σ H, W i m σ H ->
      ((aAZ K k1 k2 a b).stop i H /\ D.nx σ H) ∨ ((aAZ K k1 k2 a b).go i H /\ ∃ N : St -> Hp -> Prop, (∀ σ' H', N σ' H' -> ∃ m', m' < m /\ W (i + 1) m' σ' H') /\ ∀ x H', (aAZ K k1 k2 a b).yld i H x H' -> g x σ H' fun σ2 H2 => tb { D with nx := N, ct := N, bk := D.nx } σ2 H2) := by
  refine ⟨fun i m σ H => m = xs.length - i /\ i <= xs.length /\ Pv i σ H, ⟨xs.length, by simp, Nat.zero_le _, h0⟩, ?_⟩
  rintro i m σ H ⟨rfl, hi, p⟩
  obtain ⟨q1, q2⟩ := hl i σ H hi p
  by_cases hlt : i < xs.length
  · refine .inr ⟨⟨xs, ys, xs[i], ys[i]'(by omega), q1, q2, List.getElem?_eq_getElem hlt, List.getElem?_eq_getElem (by omega)⟩, Pv (i + 1), fun σ' H' p' => ⟨xs.length - (i + 1), by omega, rfl, hlt, p'⟩, fun x H' y => ?_⟩
    obtain ⟨p1, q1', hp1, hq1, hne, rfl, hy⟩ := y
    obtain ⟨x, y, h1, h2, rfl⟩ := hy xs ys q1 q2
    exact hs i x y p1 q1' σ H h1 h2 p hp1 hq1 hne
  · have e : i = xs.length := by omega
    subst e
    exact .inl ⟨⟨xs, ys, q1, q2, by rw [<- heq, Nat.min_self]⟩, hd σ H p⟩
end L2
set_option Elab.async false
set_option linter.all false
namespace L2
open PySem
end L2
set_option Elab.async false
set_option linter.all false
namespace L2
open PySem
section
variable {X : Cx} {K : PySem.W.Frag} {pos : Pos}
theorem kIn (hK : X.K = K) : OpR X (compareOp .In) (rIn K false) := by subst hK; exact hU
end
section
variable {α β γ δ ε ζ η θ ι κ : Type}
end
end L2
set_option Elab.async false
set_option linter.all false
set_option maxRecDepth 100000
namespace L2
open PySem PySem.Spec PyProof.Rows
section
variable {X : Cx}
end
section
variable {K : PySem.W.Frag} {own : Nat} {fr : List Nat} {g : TG} {te : TE} {σ : St} {H : Hp} {Qf : Hp -> List V -> Prop}
end
end L2
set_option Elab.async false
set_option linter.all false
set_option maxRecDepth 100000
namespace L2
open PySem PySem.Spec PyProof.Rows
structure Tb (L : Bool) (t : SetTable) (n m : Nat) : Prop where
  mask : (t.mask = 7 /\ n <= m) ∨ (t.mask = 31 /\ n <= 12)
  dums : t.dummies = #[]
  plain : t.plain = true
  led : t.led = L
  size : t.place.size = n
  rise : t.place.toList.Pairwise (· < ·)
end L2
set_option Elab.async false
set_option linter.all false
set_option maxRecDepth 100000
namespace L2
open PySem PySem.Spec PyProof.Rows
end L2
set_option Elab.async false
set_option linter.all false
set_option maxRecDepth 100000
namespace L2
open PySem PySem.Spec PyProof.Rows
def ent (p : Int × Tok) : Int × Value := (hashInt p.1, .int p.1 p.2)
def SG (L : Bool) (h : Heap) (a : Addr) (ks : List (Int × Tok)) : Prop := ∃ o ep es t, h.get? a = some o /\ o.ExactSet /\ o.data = .set es ep t /\ es.toList.Perm (ks.map ent) /\ Tb L t es.size 4
theorem SG.keep {L : Bool} {h h' : Heap} {a : Addr} {l : List (Int × Tok)} (x : SG L h a l) (k : ∀ o, h.get? a = some o -> h'.get? a = some o) : SG L h' a l := by
  obtain ⟨o, ep, es, t, e, r⟩ := x
  exact ⟨o, ep, es, t, k o e, r⟩
section
variable {prog : Program} {w : World} {A : Around} {E : Value -> Shared -> Prop} {s : Shared} {L : Bool} {a : Addr}
structure KsOf (ks : List (Int × Tok)) (ns : List Int) : Prop where
  nd : (ks.map (·.1)).Nodup
  mem : ∀ k, k ∈ ks.map (·.1) ↔ k ∈ ns
  len : ks.length <= ns.length
end
end L2
set_option Elab.async false
set_option linter.all false
set_option maxRecDepth 100000
namespace L2
open PySem PySem.Spec PyProof.Rows
section
variable {prog : Program} {w : World} {A : Around} {E : Value -> Shared -> Prop} {s : Shared} {S : Addr} {o : Obj} {ep : Nat} {es : Array (Int × Value)} {t : SetTable}
end
section
variable {X : Cx}
end
end L2
set_option Elab.async false
set_option linter.all false
set_option maxRecDepth 100000
namespace L2
open PySem PySem.Spec PyProof.Rows
open PySem.AutoSeq1 (wpAny_loadPart')
theorem pZ (l : Addr) (items : Array Value) (n : Nat) (dd : Option Addr) (sl : Array (Option Value)) (u : Tok) :
    Meets (Builtin.«tuple.__mul__» ⟨[.ref l, .int 1 u], []⟩) (fun _ R s => s.heap.get? l = some { cls := .type "tuple", dict := dd, data := .seq items n, slots := sl } /\ R (.ok (.ret (Value.ref l))) s) :=
  .of_wp fun prog w A R s h => by
    obtain ⟨hp, g, d, tk, os⟩ := s
    obtain ⟨hl, h⟩ := h
    have f1 := AutoSeq1.idx_int
    have f2 := AutoSeq1.sub_tuple_tuple
    wp_walk using wpAny_loadPart' hl
    exact ⟨_, rfl, h⟩
theorem oM (l : Addr) (items : Array Value) (n : Nat) (dd : Option Addr) (sl : Array (Option Value)) (u : Tok) (hne : items.isEmpty = false) :
    Meets (Builtin.«tuple.__mul__» ⟨[.ref l, .int 0 u], []⟩) (fun _ R s => s.heap.get? l = some { cls := .type "tuple", dict := dd, data := .seq items n, slots := sl } /\ R (.ok (.ret (Value.ref s.heap.objs.size))) { s with heap := s.heap.push { cls := Value.type "tuple", data := Data.seq #[] } }) :=
  .of_wp fun prog w A R s h => by
    obtain ⟨hp, g, d, tk, os⟩ := s
    obtain ⟨hl, h⟩ := h
    have f1 := AutoSeq1.idx_int
    have f2 := AutoSeq1.sub_tuple_tuple
    wp_walk using wpAny_loadPart' hl
    exact ⟨_, rfl, h⟩
theorem mU (l : Addr) (items : Array Value) (n : Nat) (dd : Option Addr) (sl : Array (Option Value)) (u : Tok) (hne : items.isEmpty = true) :
    Meets (Builtin.«tuple.__mul__» ⟨[.ref l, .int 0 u], []⟩) (fun _ R s => s.heap.get? l = some { cls := .type "tuple", dict := dd, data := .seq items n, slots := sl } /\ R (.ok (.ret (Value.ref l))) s) :=
  .of_wp fun prog w A R s h => by
    obtain ⟨hp, g, d, tk, os⟩ := s
    obtain ⟨hl, h⟩ := h
    have f1 := AutoSeq1.idx_int
    have f2 := AutoSeq1.sub_tuple_tuple
    wp_walk using wpAny_loadPart' hl
    exact ⟨_, rfl, h⟩
def aDW (K : PySem.W.Frag) : R2 := fun x y H Q => ∃ a, ∃ k : Nat, ∃ xs, x = .ref a /\ y = .int k /\ SqT K H a xs /\ k <= 1000 /\ xs.length <= 1000 /\ ∀ p H', aE H H' -> SqT K H' p (List.replicate k xs).flatten -> Q (.ref p) H'
theorem aB2 {X : Cx} {K : PySem.W.Frag} (hK : X.K = K) : OpR X (binaryOp .Mult) (aDW K) := by
  intro pins s σ H x y v u Q I rx ry h
  obtain ⟨a, k, xs, rfl, rfl, ha, h2, hz, q⟩ := h
  by_cases h1 : 1 < k
  · exact aBR hK pins s σ H _ _ v u Q I rx ry ⟨a, k, xs, rfl, rfl, ha, by omega, by omega, hz, q⟩
  subst hK
  cases rx
  obtain ⟨t, rfl⟩ := ry
  obtain ⟨its, r, ⟨⟨cls, dd, data, sl⟩, ho, hc, n, hd⟩, hzz⟩ := I.tuple ha
  simp only at hc hd
  subst hc hd
  refine wpAny_binaryOp_repeat_ref (T := "tuple") (U := "int") (by decide) ⟨_, ho, rfl⟩ (fun s' => typeIs_int s' k t) iA PySem.F.fills_int_mul PySem.F.slot_int_rmul kX PySem.F.slot_int_index.lookup
    (call_meets PySem.F.slot_int_rmul (typeIs_int s k t) PySem.F.entry_int_rmul (PySem.F.args_int_rmul_2 _ _) (jI k t a its.toArray n dd sl) ⟨ho, rfl, ⟨_, ho, rfl⟩, ?_⟩)
  rcases (show k = 0 ∨ k = 1 by omega) with rfl | rfl
  · by_cases hx : its = []
    · subst hx
      cases r
      refine call_meets PySem.F.slot_tuple_mul ⟨_, ho, rfl⟩ PySem.F.entry_tuple_mul (PySem.F.args_tuple_mul_2 _ _) (mU a _ n dd sl t rfl) ⟨ho, ?_⟩
      exact ⟨.ref a, H, I, rfl, q a H (aE.refl H) ha⟩
    · have hne : its.toArray.isEmpty = false := by
        cases its with
        | nil => exact absurd rfl hx
        | cons _ _ => rfl
      refine call_meets PySem.F.slot_tuple_mul ⟨_, ho, rfl⟩ PySem.F.entry_tuple_mul (PySem.F.args_tuple_mul_2 _ _) (oM a its.toArray n dd sl t hne) ⟨ho, ?_⟩
      refine ⟨.ref _, _, I.laid (t' := s.toks) (o := .tup []) (fun b ob q => Heap.get?_push_of_some _ q) (Nat.le_refl _) ?_, rfl, q _ _ (aE.new (I.hok.fresh (Nat.le_refl _))) (SqT.of aC)⟩
      exact ⟨Nat.zero_le _, [], 0, .nil, Heap.get?_push_size _ rfl⟩
  · refine call_meets PySem.F.slot_tuple_mul ⟨_, ho, rfl⟩ PySem.F.entry_tuple_mul (PySem.F.args_tuple_mul_2 _ _) (pZ a its.toArray n dd sl t) ⟨ho, ?_⟩
    exact ⟨.ref a, H, I, rfl, q a H (aE.refl H) (by simpa using ha)⟩
end L2
set_option Elab.async false
set_option linter.all false
set_option maxRecDepth 100000
namespace L2
open PySem PySem.Spec PyProof.Rows
structure Zip3Apart (z TI TO i1 i2 i3 l1 l2 l3 : Addr) : Prop where
  TIz : TI ≠ z
  TOz : TO ≠ z
  i1z : i1 ≠ z
  i2z : i2 ≠ z
  i3z : i3 ≠ z
  TITO : TI ≠ TO
  TIi1 : TI ≠ i1
  TIi2 : TI ≠ i2
  TIi3 : TI ≠ i3
  TOi1 : TO ≠ i1
  TOi2 : TO ≠ i2
  TOi3 : TO ≠ i3
  i12 : i1 ≠ i2
  i13 : i1 ≠ i3
  i23 : i2 ≠ i3
  l1 : ∀ c ∈ [z, TO, i1, i2, i3], l1 ≠ c
  l2 : ∀ c ∈ [z, TO, i1, i2, i3], l2 ≠ c
  l3 : ∀ c ∈ [z, TO, i1, i2, i3], l3 ≠ c
section
variable {prog : Program} {w : World} {A : Around} {E : Value -> Shared -> Prop} {s : Shared} {z TI TO i1 i2 i3 l1 l2 l3 : Addr} {n n2 n3 : Nat} {P1 P2 P3 : Nat -> Value -> Prop} {st1 st2 st3 : Nat -> Heap -> Prop}
end
end L2
set_option Elab.async false
set_option linter.all false
set_option maxRecDepth 100000
namespace L2
open PySem PySem.Spec PyProof.Rows
section
variable (k1 k2 k3 : Sk) (h : Heap) (a b d : Addr)
end
section
variable {X : Cx} {es : List Expr} {x1 : Nat} {tpos : Pos}
end
end L2
set_option Elab.async false
set_option linter.all false
set_option maxRecDepth 100000
namespace L2
open PySem PySem.Spec PyProof.Rows
section
variable {K : PySem.W.Frag} {own : Nat} {fr : List Nat} {g : TG} {te : TE} {σ : St} {H : Hp} {Qf : Hp -> List V -> Prop}
end
end L2
set_option Elab.async false
set_option linter.all false
set_option maxRecDepth 100000
namespace L2
open PySem PySem.Spec PyProof.Rows
section
variable {X : Cx} {K : PySem.W.Frag}
end
end L2
set_option Elab.async false
set_option linter.all false
set_option maxRecDepth 100000
namespace L2
open PySem PySem.Spec PyProof.Rows
section
variable {X : Cx} {scope : Scope} {own frn : List Str} {fr : List Nat} {kx vx tg iter : Expr} {ifs : List Expr} {pos : Pos} {wi : TI} {g : TG} {tt : TT} {tk tv : TE}
end
end L2
set_option Elab.async false
set_option linter.all false
set_option maxRecDepth 100000
namespace L2
open PySem PySem.Spec PyProof.Rows
def tUp (t : TE) : TE := fun σ H Q => ∃ P : V -> Hp -> Prop, t σ H P /\ ∀ x H1, P x H1 -> Q x H1
def aC4 (H0 : Hp) (t : TE) : TE := fun σ H Q => t σ H fun x H' => ∃ a o kvs, H' a = some (.frz o (.dK kvs)) /\ NF H0 a /\ Q x (upd H' a (.dK kvs))
def aC5 (own : Nat) (fr : List Nat) (td : TE) (g : TG) (tt : TT) (te : TE) : TE := fun σ H Q => td σ H fun x H1 => ∃ a kvs, x = .ref a /\ H1 a = some (.dK kvs) /\ ∀ o : Obj, ∃ W : Nat -> Nat -> List V -> St -> Hp -> Prop, (∃ m, W 0 m [] (blk own fr σ) (upd H1 a (.frz o (.dK kvs)))) /\ ∀ i m ys σ' H, W i m ys σ' H ->
  ((Itd a o kvs).stop i H /\ ∀ p, H p = none -> Q (.ref p) (upd (upd H p (.lst ys)) a (.dK kvs))) ∨
  ((Itd a o kvs).go i H /\ ∃ N : List V -> St -> Hp -> Prop, (∀ ys' σ2 H2, N ys' σ2 H2 -> ∃ m', m' < m /\ W (i + 1) m' ys' σ2 H2) /\
    ∀ x H', (Itd a o kvs).yld i H x H' -> g x σ' H' fun σ2 H2 => tt σ2 H2 fun b H3 => if b = true then te σ2 H3 fun y H4 => ys.length < sizeLine /\ N (ys ++ [y]) σ2 H4 else N ys σ2 H3)
section
variable {X : Cx} {scope : Scope} {own frn : List Str} {fr : List Nat} {e elt tg d : Expr} {ifs : List Expr} {pos : Pos} {t td : TE} {g : TG} {tt : TT} {te : TE}
theorem aDX (h : PE X e t) : PE X e (tUp t) := by
  intro pins s σ H Q I q
  obtain ⟨P, h1, h2⟩ := q
  refine thn (h pins s σ H P I h1) fun v s1 hx => ?_
  obtain ⟨x, H1, I1, r1, q1⟩ := hx
  exact ⟨x, H1, I1, r1, h2 _ _ q1⟩
theorem aB3 (h : PE X e t) : PE X e (aC4 X.H₀ t) := by
  intro pins s σ H Q I q
  refine thn (h pins s σ H _ I q) fun v s1 hx => ?_
  obtain ⟨x, H1, I1, r1, a, o, kvs, ea, nf, k⟩ := hx
  exact ⟨x, _, I1.thaw ea nf, r1, k⟩
theorem aA1 (S : CompOk X scope own fr frn) (hc : X.calm = true) (hi : PE X d td) (hg : ∀ C s0 H0 fp, PG (bP X scope (own ++ frn) C s0 H0 fp) tg g) (ht : ∀ C s0 H0 fp, PF (bP X scope (own ++ frn) C s0 H0 fp) ifs tt)
    (he : ∀ C s0 H0 fp, PE (bP X scope (own ++ frn) C s0 H0 fp) elt te) (hs : ∀ x, foldedSetIterable d X.env x = pure x := by intro _; rfl) :
    PE X (.ListComp elt [⟨tg, d, ifs, 0⟩] scope pos) (aC5 own.length fr td g tt te) := by
  intro pins s σ H Q I h
  refine aB3 (cM S hc (xF (aDX hi)) hg ht he hs) pins s σ H Q I ⟨_, h, fun x H1 q => ?_⟩
  obtain ⟨a, kvs, ex, hx, k⟩ := q
  refine ⟨a, kvs, ex, hx, fun o nf => ?_⟩
  obtain ⟨W, w0, wk⟩ := k o
  refine ⟨W, w0, fun i m ys σ' H' w => ?_⟩
  rcases wk i m ys σ' H' w with ⟨st, q⟩ | z
  · refine .inl ⟨st, fun p hp => ⟨a, o, kvs, ?_, nf, q p hp⟩⟩
    rw [aH (fun z => by rw [<- z, st.1] at hp; cases hp)]
    exact st.1
  · exact .inr z
end
theorem zK {a : Addr} {o : Obj} {kvs : List (Key × V)} {own : Nat} {fr : List Nat} {g : TG} {tt : TT} {te : TE} {σ : St} {H : Hp} {Q : Hp -> List V -> Prop} (SH : St -> Prop) (Pv : Nat -> List V -> Hp -> Prop) (hn : kvs.length <= sizeLine) (hσ : SH (blk own fr σ)) (h0 : Pv 0 [] H) (hlen : ∀ i ys H, Pv i ys H -> ys.length <= i) (hl : ∀ i ys H, Pv i ys H -> H a = some (.frz o (.dK kvs)))
    (hs : ∀ i ys σ p H, kvs[i]? = some p -> SH σ -> Pv i ys H -> ys.length < sizeLine -> g (kV p.1) σ H fun σ2 H2 => tt σ2 H2 fun b H3 => if b = true then te σ2 H3 fun y H4 => ys.length < sizeLine /\ SH σ2 /\ Pv (i + 1) (ys ++ [y]) H4 else SH σ2 /\ Pv (i + 1) ys H3)
    (hd : ∀ ys H, Pv kvs.length ys H -> Q H ys) :
    ∃ W : Nat -> Nat -> List V -> St -> Hp -> Prop, (∃ m, W 0 m [] (blk own fr σ) H) /\ ∀ i m ys σ' H, W i m ys σ' H ->
      ((Itd a o kvs).stop i H /\ Q H ys) ∨
      ((Itd a o kvs).go i H /\ ∃ N : List V -> St -> Hp -> Prop, (∀ ys' σ2 H2, N ys' σ2 H2 -> ∃ m', m' < m /\ W (i + 1) m' ys' σ2 H2) /\
        ∀ x H', (Itd a o kvs).yld i H x H' -> g x σ' H' fun σ2 H2 => tt σ2 H2 fun b H3 => if b = true then te σ2 H3 fun y H4 => ys.length < sizeLine /\ N (ys ++ [y]) σ2 H4 else N ys σ2 H3) := by
  refine jO kvs.length hn SH Pv hσ h0 hlen (fun ys H p => ⟨hl _ _ _ p, rfl⟩) (fun i ys H hi p => ⟨hl _ _ _ p, hi⟩) (fun i ys σ x H H' hi sh p y hz => ?_) hd
  obtain ⟨rfl, v, hv, rfl⟩ := y
  exact hs i ys σ v _ hv sh p hz
end L2
set_option Elab.async false
set_option linter.all false
set_option maxRecDepth 100000
namespace L2
open PySem PySem.Spec PyProof.Rows
section
variable {X : Cx}
end
end L2
set_option Elab.async false
set_option linter.all false
set_option maxRecDepth 100000
namespace L2
open PySem PySem.Spec PyProof.Rows
section
variable {X : Cx}
end
end L2
namespace L2
open PySem PySem.Spec PyProof.Rows
section
variable {X : Cx}
end
end L2
set_option Elab.async false
set_option linter.all false
set_option maxRecDepth 100000
namespace L2
open PySem PySem.Spec PyProof.Rows
def aB4 : V -> List V -> Hp -> VK -> Prop := fun x vs H Q => ∃ (l : Addr) (ns : List Int) (n : Int) (j : Nat), x = .ref l /\ vs = [.int n] /\ H l = some (.lst (ns.map V.int)) /\ ns[j]? = some n /\ (∀ m, m < j -> ns[m]? ≠ some n) /\ Q .non (upd H l (.lst ((ns.take j ++ ns.drop (j + 1)).map V.int)))
section
variable {X : Cx}
theorem zL : MtM X "list.remove" aB4 := by
  intro pins s σ H x vs v us Q I rx rv h
  obtain ⟨l, ns, n, j, rfl, rfl, hH, hj, hno, q⟩ := h
  cases rx
  obtain ⟨u, rfl, t, rfl⟩ := gJ rv
  obtain ⟨z, its, k, r, hl, e⟩ := I.lstM hH
  have hi : IntsAre its ns := cZ r
  have hlen := hi.length
  have hjl : j < ns.length := (List.getElem?_eq_some_iff.mp hj).1
  have val : ∀ m (hm : m < its.toArray.size), isInt n its.toArray[m] = decide (ns[m]? = some n) := fun m hm => by
    have hm' : m < its.length := by simpa using hm
    have hmn : m < ns.length := by omega
    obtain ⟨w, hw, rw'⟩ := r.get (i := m) (x := .int ns[m]) (by rw [List.getElem?_map, List.getElem?_eq_getElem hmn]; rfl)
    obtain ⟨t', rfl⟩ := rw'
    have e : its.toArray[m] = .int ns[m] t' := by
      have := List.getElem?_eq_getElem hm'
      rw [hw] at this
      simpa using (Option.some.inj this).symm
    rw [e, List.getElem?_eq_getElem hmn]
    unfold isInt
    by_cases z : ns[m] = n
    · simp [z]
    · simp [z]
  refine call_meets F.slot_list_remove ⟨_, e, rfl⟩ F.entry_list_remove (F.args_list_remove_2 _ _)
    (MeetsSeq.list_remove l its.toArray k (.int n t) (isInt n) (fun y hy => eq_isInt n t hi y (by simpa using hy)) j (by simp; omega) ?_ ?_ ?_) ⟨e, ?_⟩
  · rw [val, hj]; simp
  · intro m hm hlt
    rw [val]
    exact decide_eq_false (hno m hlt)
  · rw [List.size_toArray]; omega
  · refine ⟨.non, _, I.lset (its' := its.take j ++ its.drop (j + 1)) hH e ?_ (by rw [List.map_append, List.map_take, List.map_drop]; exact (r.take _).append (r.drop _)) ?_, rfl, q⟩
    · apply Array.ext'
      simp [List.eraseIdx_eq_take_drop_succ]
    · rw [List.length_map] at z ⊢
      rw [List.length_append, List.length_take, List.length_drop]
      omega
theorem vQ {K : PySem.W.Frag} (hK : X.K = K) (hc : X.calm = true) : eY X (.builtin "max") (fun xs H Q => ∃ (p : Addr) (ns : List Int), xs = [.ref p] /\ SqL K H p (ns.map V.int) /\ 0 < ns.length /\ ∀ M, M ∈ ns -> (∀ a ∈ ns, a <= M) -> Q (.int M) H) := by
  subst hK
  intro pins s σ H xs us Q I r h
  obtain ⟨p, ns, rfl, hx, hne, q⟩ := h
  obtain ⟨u, rfl, rx⟩ := gJ r
  cases rx
  obtain ⟨its, rv, pl, hz⟩ := I.list hx
  have hi : IntsAre its ns := cZ rv
  obtain ⟨xs, e⟩ := hi.allInts.items
  have hns : ns = xs.toList.map (·.1) := by
    rw [<- hi.numsOf, <- nums_intItems, <- e]
  have hsz : 0 < xs.size := by
    have h3 := hne; rw [hns, List.length_map, Array.length_toList] at h3; exact h3
  have hl := pl.isList
  rw [e] at hl
  refine max_intList (I.ok.hd hc) hl hsz fun v h' tk hv hk => ?_
  obtain ⟨t, rfl⟩ := intItems_at hv
  obtain ⟨h1, h2⟩ := argBest_gt (numAt xs) (xs.size - 1)
  refine ⟨.int _, H, I.kept hk, ⟨_, rfl⟩, q _ ?_ fun a ha => ?_⟩
  · rw [hns, numAt_eq]; exact getD_mem (by rw [List.length_map, Array.length_toList]; omega)
  · rw [hns] at ha
    obtain ⟨j, hj, rfl⟩ := mem_getD ha
    rw [List.length_map, Array.length_toList] at hj
    rw [<- numAt_eq]; exact h2 j (by omega)
end
end L2
set_option Elab.async false
set_option linter.all false
set_option maxRecDepth 100000
namespace L2
open PySem PySem.Spec PyProof.Rows
structure Fn (K : PySem.W.Frag) (mg : Str -> Option Value) (x : Str) (st : Stmt) (ps : List Str) (f : Addr) (fd : FuncData) : Prop where
  fn : Fun K x x st f fd
  mgx : mg x = some (.ref f)
  kp : PySem.W.keepIn K (.ref f) = true
  bd : qE K fd ps []
theorem aV {X : Cx} {x : Str} {st : Stmt} {ps : List Str} {f : Addr} {fd : FuncData} {k : Nat} {sp : Sp} {p pos : Pos} {e : Expr} {es : List Expr} {t : TA} (G : Fn X.K X.mg x st ps f fd) (ok : FnOk X.prog X.w X.K X.mg X.base CX0 k f fd ps sp) (hr : Room k X.A) (hg : Gl X x) (ha : PA X (e :: es) t)
    (hdb : (x == ("__debug__" : Str)) = false := by decide) (he : starEach (e :: es) X.env = (false, eval e X.env) :: starEach es X.env := by rfl) (hpl : (backTo pos (starEach es X.env)).any (·.1) = false := by rfl) :
    PE X (.Call (.Name x p) (e :: es) [] pos) (aCs sp [] E0 t) := aBI ok hr hg G.mgx G.kp G.bd .nil aDJ ha hdb he hpl
structure Bl (mg : Str -> Option Value) : Prop where
  isinstance : mg "isinstance" = none
  int : mg "int" = none
  bool : mg "bool" = none
  tuple : mg "tuple" = none
  list : mg "list" = none
  len : mg "len" = none
  all : mg "all" = none
  zip : mg "zip" = none
  range : mg "range" = none
  sorted : mg "sorted" = none
  set : mg "set" = none
  sum : mg "sum" = none
  repr : mg "repr" = none
  enumerate : mg "enumerate" = none
  min : mg "min" = none
  any : mg "any" = none
  max : mg "max" = none
  hands : ∃ t, mg "MOST_HANDS" = some (.int 6 t)
  works : ∃ t, mg "MOST_WORKS" = some (.int 12 t)
theorem jB : bootBuiltins "isinstance" = some (.builtin "isinstance") := by decide +kernel
theorem aCx : bootBuiltins "int" = some (.type "int") := by decide +kernel
theorem aA2 : bootBuiltins "bool" = some (.type "bool") := by decide +kernel
theorem cR : bootBuiltins "tuple" = some (.type "tuple") := by decide +kernel
theorem rQ : bootBuiltins "list" = some (.type "list") := by decide +kernel
theorem eM : bootBuiltins "len" = some (.builtin "len") := by decide +kernel
theorem tU : bootBuiltins "all" = some (.builtin "all") := by decide +kernel
theorem aA3 : bootBuiltins "sorted" = some (.builtin "sorted") := by decide +kernel
theorem aDY : bootBuiltins "set" = some (.type "set") := by decide +kernel
end L2
namespace Ab
open PySem L2
def top (i : Nat) : Stmt := PySem.Challenge.pw_ablehands_k35_loads_that_grow_and_fall.main.body.getD i (.Pass ⟨0, 0, 0, 0⟩)
abbrev kK : Stmt := top 8
abbrev oN : Stmt := top 9
abbrev oO : Stmt := top 10
abbrev oP : Stmt := top 11
abbrev rR : Stmt := top 12
abbrev vR : Stmt := top 13
abbrev vS : Stmt := top 14
abbrev jK : Stmt := top 16
abbrev vT : Stmt := top 17
abbrev kZ : Stmt := top 18
abbrev gM : Stmt := top 20
abbrev iB : Stmt := top 21
abbrev rS : Stmt := top 22
abbrev qO : Stmt := top 24
abbrev vU : Stmt := top 25
abbrev rT : Stmt := top 26
abbrev xJ : Stmt := top 27
abbrev aA4 : Stmt := top 29
abbrev iC : Stmt := top 30
abbrev fZ : Stmt := top 31
abbrev iR : Stmt := top 33
abbrev gN : Stmt := top 34
abbrev xK : Stmt := top 36
abbrev xL : Stmt := top 37
abbrev mZ : Stmt := top 38
abbrev nB : Stmt := top 39
abbrev oQ : Stmt := top 40
abbrev xM : Stmt := top 41
abbrev aB5 : Stmt := top 42
abbrev nC : Stmt := top 43
abbrev jP : Stmt := top 44
abbrev lA : Stmt := top 45
abbrev aC6 : Stmt := top 46
def fQ : PyData -> Bool
  | .int _ => true
  | _ => false
def gO : PyData -> Bool
  | .int i => decide (1 <= i) && decide (i <= 6)
  | _ => false
def cX (hands : Int) : Int -> List PyData -> Bool
  | _, [] => true
  | last, .int i :: r => decide (last < i) && decide (i < hands) && cX hands i r
  | _, _ :: _ => false
def cJ (hands : Int) : PyData -> Bool
  | .tuple ds => !ds.isEmpty && cX hands (-1) ds
  | _ => false
def aC7 : PyData -> PyData -> Bool
  | .int h, .tuple ws => decide (1 <= h) && decide (h <= 6) && decide (ws.length <= 12) && ws.all (cJ h)
  | _, _ => false
def bQ : PyData -> Bool
  | .tuple [dh, dw] => aC7 dh dw
  | _ => false
section
variable {P : Program} {w : World} {K : PySem.W.Frag} {mg : Str -> Option Value} {base : Heap}
def lB (K : PySem.W.Frag) : Sp := fun vs H Q _ => ∃ x d, vs = [x] /\ Den K H d x /\ Q (.bl (fQ d)) H
theorem aB6 : FnScope ["thing"] ["thing"] (aF kK) := ⟨rfl, rfl, rfl, by decide +kernel, rfl, by decide +kernel, by decide +kernel⟩
theorem lC {f : Addr} {fd : FuncData} (G : Fn K mg "is_whole" kK ["thing"] f fd) (B : Bl mg) : FnOk P w K mg base CX0 1 f fd ["thing"] (lB K) := by
  refine G.fn.ok aB6 (fun vs H Q E h => ?_) (fun cdv A outer s H vs Q E hr h => ?_)
  · obtain ⟨x, d, rfl, _⟩ := h
    rfl
  · obtain ⟨x, d, rfl, hd, k⟩ := h
    refine ⟨_, aG (aP (jF (aM kT rfl B.isinstance jB (aA (pv 0) (aA (eE (v := .ty "int") rfl B.int aCx rfl) aB)))
      (kH (aAf (aM kA rfl B.isinstance jB (aA (pv 0) (aA (eE (v := .ty "bool") rfl B.bool aA2 rfl) aB))))))), ?_⟩
    refine ⟨_, rfl, x, jD d, rfl, hd.kd, _, rfl, ?_⟩
    refine eP (fun c => ?_) (fun c => ?_)
    · refine ⟨_, rfl, x, jD d, rfl, hd.kd, _, rfl, ?_⟩
      have e : (!decide (jD d = Kd.bl)) = fQ d := by
        cases d <;> first | rfl | (exfalso; simp [jD] at c)
      rw [e]
      exact k
    · have e : false = fQ d := by
        cases d <;> first | rfl | (exfalso; simp [jD] at c)
      rw [e]
      exact k
def xN (K : PySem.W.Frag) : Sp := fun vs H Q _ => ∃ x d, vs = [x] /\ Den K H d x /\ Q (.bl (gO d)) H
theorem aB7 : FnScope ["thing"] ["thing"] (aF oN) := ⟨rfl, rfl, rfl, by decide +kernel, rfl, by decide +kernel, by decide +kernel⟩
theorem aA5 {f fW : Addr} {fd fdW : FuncData} (G : Fn K mg "are_hands" oN ["thing"] f fd) (B : Bl mg) (W : Fn K mg "is_whole" kK ["thing"] fW fdW) : FnOk P w K mg base CX0 2 f fd ["thing"] (xN K) := by
  have GW : FnOk P w K mg base CX0 1 fW fdW ["thing"] (lB K) := lC W B
  obtain ⟨t6, h6⟩ := B.hands
  refine G.fn.ok aB7 (fun vs H Q E h => ?_) (fun cdv A outer s H vs Q E hr h => ?_)
  · obtain ⟨x, d, rfl, _⟩ := h
    rfl
  · obtain ⟨x, d, rfl, hd, k⟩ := h
    refine ⟨_, aG (aP (jF (aV W GW hr rfl (aA (pv 0) aB))
      (kH (aAk wV wV aK (pv 0) (wN (v := .int 6) rfl h6 ⟨t6, rfl⟩))))), ?_⟩
    refine ⟨_, rfl, x, d, rfl, hd, _, rfl, ?_⟩
    refine eP (fun c => ?_) (fun c => ?_)
    · obtain ⟨i, rfl⟩ : ∃ i, d = .int i := by cases d <;> first | exact ⟨_, rfl⟩ | (exfalso; simp [fQ] at c)
      obtain rfl := eI.mp hd
      refine ⟨_, rfl, _, _, rfl, rfl, _, rfl, ?_⟩
      refine eP (fun c1 => ?_) (fun c1 => ?_)
      · refine ⟨_, _, rfl, rfl, ?_⟩
        have e : decide (i <= 6) = gO (.int i) := by
          show _ = (decide (1 <= i) && decide (i <= 6))
          rw [c1, Bool.true_and]
        show Q (.bl (decide (i <= 6))) H
        rw [e]; exact k
      · have e : false = gO (.int i) := by
          show _ = (decide (1 <= i) && decide (i <= 6))
          have c2 : decide (1 <= i) = false := by simpa using c1
          rw [c2, Bool.false_and]
        rw [e]; exact k
    · have e : false = gO d := by cases d <;> first | rfl | (exfalso; simp [fQ] at c)
      rw [e]; exact k
theorem gD (h l i : Int) (r : List PyData) : cX h l (.int i :: r) = (decide (l < i) && decide (i < h) && cX h i r) := by rw [cX]
theorem oR (h l : Int) (d : PyData) (r : List PyData) (n : fQ d = false) : cX h l (d :: r) = false := by
  cases d <;> first | rfl | (simp [fQ] at n)
def xO (K : PySem.W.Frag) : Sp := fun vs H Q _ => ∃ n x d, vs = [.int n, x] /\ Den K H d x /\ Q (.bl (cJ n d)) H
theorem nD : FnScope ["hands", "thing", "last", "hand"] ["hands", "thing"] (aF oO) := ⟨rfl, rfl, rfl, by decide +kernel, rfl, by decide +kernel, by decide +kernel⟩
theorem aA6 {f fW : Addr} {fd fdW : FuncData} (G : Fn K mg "is_work" oO ["hands", "thing"] f fd) (B : Bl mg) (W : Fn K mg "is_whole" kK ["thing"] fW fdW) : FnOk P w K mg base CX0 2 f fd ["hands", "thing"] (xO K) := by
  have GW : FnOk P w K mg base CX0 1 fW fdW ["thing"] (lB K) := lC W B
  refine G.fn.ok nD (fun vs H Q E h => ?_) (fun cdv A outer s H vs Q E hr h => ?_)
  · obtain ⟨n, x, d, rfl, _⟩ := h
    rfl
  · obtain ⟨n, x, d, rfl, hd, k⟩ := h
    refine ⟨_, aD (cL (PW.pt (jA (cY (dZ (aM cF rfl B.isinstance jB (aA (pv 1) (aA (eE (v := .ty "tuple") rfl B.tuple cR rfl) aB)))))
        (iJ (bH nU (aM aT rfl B.len eM (aA (pv 1) aB)) aK (bN _))))) (aG (aP dY)) bE)
      (aD (aQ (i := 2) nD.nd rfl (Or.inl rfl) (sN nT aK))
      (aD (eR PassesOwn.never rfl (iL (pv 1)) (aL (i := 3) nD.nd rfl (Or.inl rfl))
        (aD (cL (PW.pt (jA (cY (dZ (aV W GW hr rfl (aA (pv 3) aB)))) (jA (bH wV (pv 3) (pv 2) (bN _)) (iJ (bH aCq (pv 3) (pv 0) (bN _)))))) (aG (aP dY)) bE)
        (aG (aQ (i := 2) nD.nd rfl (Or.inl rfl) (pv 3)))))
      (aG (aP dY)))), ?_⟩
    refine ⟨_, rfl, x, jD d, rfl, hd.kd, _, rfl, ?_⟩
    refine eP (fun c => ?_) (fun c => ?_)
    · -- not a tuple
      refine iO ?_
      have e : false = cJ n d := by
        cases d <;> first | rfl | (exfalso; simp [jD] at c)
      rw [e]; exact k
    · obtain ⟨ds, rfl⟩ : ∃ ds, d = .tuple ds := by cases d <;> first | exact ⟨_, rfl⟩ | (exfalso; simp [jD] at c)
      obtain ⟨a, xs, rfl, ha, hds⟩ := cK.mp hd
      have hl := aW hds
      refine ⟨_, rfl, a, xs, rfl, .inr ha, rfl, _, rfl, ?_⟩
      refine eP (fun c2 => ?_) (fun c2 => ?_)
      · have e : false = cJ n (.tuple ds) := by
          have e1 : ds = [] := by
            have : (xs.length : Int) = 0 := by simpa using c2
            exact List.length_eq_zero_iff.mp (by omega)
          rw [e1]; rfl
        rw [e]; exact k
      · have hne : ds ≠ [] := by
          intro z
          apply c2
          rw [z] at hl
          simp [hl]
        have e0 : cJ n (.tuple ds) = cX n (-1) ds := by
          show (!ds.isEmpty && cX n (-1) ds) = _
          cases ds with
          | nil => exact absurd rfl hne
          | cons _ _ => rfl
        rw [e0] at k
        refine ⟨_, rfl, ?_⟩
        refine ⟨_, rfl, a, rfl, ⟨xs, ha⟩, wQ (K := K) (a := a) (xs := xs) (fun i σ H2 => ∃ (last : Int) (v : Option V), σ = [some (.int n), some (.ref a), some (.int last), v] /\ H2 = H /\ cX n (-1) ds = cX n last (ds.drop i))
          ⟨-1, none, rfl, rfl, rfl⟩ (fun i σ H2 _ ⟨_, _, _, e, _⟩ => by rw [e]; exact ha) ?_ ?_⟩
        · rintro i y σ H2 hi ⟨last, v, rfl, rfl, hr2⟩
          obtain ⟨dy, hdy, hden⟩ := fJ hds hi
          have hdrop : ds.drop i = dy :: ds.drop (i + 1) := by
            obtain ⟨hlt, e⟩ := List.getElem?_eq_some_iff.mp hdy
            rw [List.drop_eq_getElem_cons hlt, e]
          rw [hdrop] at hr2
          refine ⟨_, rfl, y, dy, rfl, hden, _, rfl, ?_⟩
          refine eP (fun c3 => ?_) (fun c3 => ?_)
          · refine iO ?_
            have e : false = cX n (-1) ds := by rw [hr2, oR]; simpa using c3
            rw [e]; exact k
          · obtain ⟨j, rfl⟩ : ∃ j, dy = .int j := by cases dy <;> first | exact ⟨_, rfl⟩ | (exfalso; simp [fQ] at c3)
            obtain rfl := eI.mp hden
            rw [gD] at hr2
            refine ⟨_, rfl, _, rfl, _, _, rfl, rfl, _, rfl, ?_⟩
            refine eP (fun c4 => ?_) (fun c4 => ?_)
            · refine iO ?_
              have c4' : j <= last := of_decide_eq_true c4
              have e : false = cX n (-1) ds := by rw [hr2, decide_eq_false (by omega : ¬ last < j)]; rfl
              rw [e]; exact k
            · have c4' : ¬ j <= last := fun z => c4 (decide_eq_true z)
              refine ⟨_, rfl, _, rfl, _, _, rfl, rfl, _, rfl, ?_⟩
              refine eP (fun c5 => ?_) (fun c5 => ?_)
              · have c5' : n <= j := of_decide_eq_true c5
                have e : false = cX n (-1) ds := by rw [hr2, decide_eq_false (by omega : ¬ j < n), Bool.and_false]; rfl
                rw [e]; exact k
              · have c5' : ¬ n <= j := fun z => c5 (decide_eq_true z)
                refine ⟨_, rfl, j, some (.int j), rfl, rfl, ?_⟩
                rw [hr2, decide_eq_true (by omega : last < j), decide_eq_true (by omega : j < n)]
                rfl
        · rintro σ H2 ⟨last, v, rfl, rfl, hr2⟩
          have e : true = cX n (-1) ds := by
            rw [hr2, hl, List.drop_length]
            rfl
          show Q (.bl true) _
          rw [e]; exact k
end
end Ab
set_option Elab.async false
set_option linter.all false
set_option maxRecDepth 100000
namespace Ab
open PySem L2
theorem aB8 {σ : St} {H : Hp} {A B : Hp -> Prop} (h : A H) : vH σ H fun b H3 => if b = true then A H3 else B H3 := by
  show if true = true then A H else B H
  exact iO h
theorem bU {i : Nat} {x : V} {σ : St} {H : Hp} {A B : St -> Hp -> Prop} (h : A (σ.set i (some x)) H) : wO i x σ H fun σ2 H2 => vH σ2 H2 fun b H3 => if b = true then A σ2 H3 else B σ2 H3 := by
  show if true = true then A (σ.set i (some x)) H else B (σ.set i (some x)) H
  exact iO h
section
variable {P : Program} {w : World} {K : PySem.W.Frag} {mg : Str -> Option Value} {base : Heap}
def xP (K : PySem.W.Frag) : Sp := fun vs H Q _ => ∃ x d, vs = [x] /\ Den K H d x /\ ∀ H', aE H H' -> Q (.bl (bQ d)) H'
theorem rV : FnScope ["thing", "hands", "works"] ["thing"] (aF oP) := ⟨rfl, rfl, rfl, by decide +kernel, rfl, by decide +kernel, by decide +kernel⟩
theorem aA7 {f fW fH fK : Addr} {fd fdW fdH fdK : FuncData} (G : Fn K mg "is_book" oP ["thing"] f fd) (B : Bl mg) (W : Fn K mg "is_whole" kK ["thing"] fW fdW) (GH : Fn K mg "are_hands" oN ["thing"] fH fdH) (GK : Fn K mg "is_work" oO ["hands", "thing"] fK fdK) : FnOk P w K mg base CX0 3 f fd ["thing"] (xP K) := by
  have OH : FnOk P w K mg base CX0 2 fH fdH ["thing"] (xN K) := aA5 GH B W
  have OK : FnOk P w K mg base CX0 2 fK fdK ["hands", "thing"] (xO K) := aA6 GK B W
  obtain ⟨t12, h12⟩ := B.works
  refine G.fn.ok rV (fun vs H Q E h => ?_) (fun cdv A outer s H vs Q E hr h => ?_)
  · obtain ⟨x, d, rfl, _⟩ := h
    rfl
  · obtain ⟨x, d, rfl, hd, k⟩ := h
    refine ⟨_, aD (cL (PW.pt (jA (cY (dZ (aM cF rfl B.isinstance jB (aA (pv 0) (aA (eE (v := .ty "tuple") rfl B.tuple cR rfl) aB)))))
        (iJ (bH mI (aM aT rfl B.len eM (aA (pv 0) aB)) aK (bN _))))) (aG (aP dY)) bE)
      (aD (iK (pv 0) (gY rfl (bC (aL (i := 1) rV.nd rfl (Or.inr rfl)) (bC (aL (i := 2) rV.nd rfl (Or.inl rfl)) eF))))
      (aD (cL (cY (dZ (aV GH OH hr rfl (aA (pv 1) aB)))) (aG (aP dY)) bE)
      (aD (cL (PW.pt (jA (cY (dZ (aM cF rfl B.isinstance jB (aA (pv 2) (aA (eE (v := .ty "tuple") rfl B.tuple cR rfl) aB)))))
        (iJ (bH aDC (aM aT rfl B.len eM (aA (pv 2) aB)) (wN (v := .int 12) rfl h12 ⟨t12, rfl⟩) (bN _))))) (aG (aP dY)) bE)
      (aG (aP (aM (jH rfl) rfl B.all tU (aA
        (cM (own := ["work"]) (fr := [1]) (frn := ["hands"]) (bI (aF oP) ["thing", "hands", "works"] rfl rfl (by decide +kernel)) rfl (iL (pv 2))
          (fun _ _ _ _ => aL (i := 0) (show (["work", "hands"] : List Str).Nodup by decide +kernel) rfl (Or.inl rfl)) (fun _ _ _ _ => dJ) (fun _ _ _ _ => aV GK OK hr rfl (aA (pv 1) (aA (pv 0) aB)))) aB))))))), ?_⟩
    refine ⟨_, rfl, x, jD d, rfl, hd.kd, _, rfl, ?_⟩
    refine eP (fun c => ?_) (fun c => ?_)
    · refine iO ?_
      have e : false = bQ d := by
        cases d <;> first | rfl | (exfalso; simp [jD] at c)
      rw [e]; exact k H (aE.refl H)
    · obtain ⟨ds, rfl⟩ : ∃ ds, d = .tuple ds := by cases d <;> first | exact ⟨_, rfl⟩ | (exfalso; simp [jD] at c)
      obtain ⟨a, xs, rfl, ha, hds⟩ := cK.mp hd
      have hl := aW hds
      refine ⟨_, rfl, a, xs, rfl, .inr ha, rfl, _, rfl, ?_⟩
      refine eP (fun c2 => ?_) (fun c2 => ?_)
      · have e : false = bQ (.tuple ds) := by
          match ds, hl, c2 with
          | [], _, _ => rfl
          | [_], _, _ => rfl
          | [_, _], hl, c2 => exfalso; rw [hl] at c2; simp at c2
          | _ :: _ :: _ :: _, _, _ => rfl
        rw [e]; exact k H (aE.refl H)
      · obtain ⟨dh, dw, rfl⟩ : ∃ dh dw, ds = [dh, dw] := by
          match ds, hl, c2 with
          | [], hl, c2 => exfalso; rw [hl] at c2; simp at c2
          | [_], hl, c2 => exfalso; rw [hl] at c2; simp at c2
          | [p, q], _, _ => exact ⟨p, q, rfl⟩
          | p :: q :: r :: t, hl, c2 => exfalso; apply c2; rw [hl]; simp; omega
        obtain ⟨xh, r1, rfl, hh, h2⟩ := aS.mp hds
        obtain ⟨xw, r2, rfl, hw, h3⟩ := aS.mp h2
        obtain rfl := bB.mp h3
        -- hands, works = thing
        refine ⟨_, rfl, a, _, rfl, ha, rfl, _, _, rfl, _, _, rfl, rfl, ?_⟩
        -- are_hands(hands)
        refine ⟨_, rfl, xh, dh, rfl, hh, _, rfl, ?_⟩
        refine eP (fun c3 => ?_) (fun c3 => ?_)
        · have e : false = bQ (.tuple [dh, dw]) := by
            have c3' : gO dh = false := by simpa using c3
            cases dh with
            | int n =>
              cases dw with
              | tuple ws =>
                have c4 : (decide (1 <= n) && decide (n <= 6)) = false := c3'
                show _ = (decide (1 <= n) && decide (n <= 6) && decide (ws.length <= 12) && ws.all (cJ n))
                rw [c4]; rfl
              | _ => rfl
            | _ => rfl
          rw [e]; exact k H (aE.refl H)
        · obtain ⟨n, rfl, hn⟩ : ∃ n, dh = .int n /\ (decide (1 <= n) && decide (n <= 6)) = true := by
            cases dh <;> first | exact ⟨_, rfl, by simpa [gO] using c3⟩ | (exfalso; simp [gO] at c3)
          obtain rfl := eI.mp hh
          refine ⟨_, rfl, xw, jD dw, rfl, hw.kd, _, rfl, ?_⟩
          refine eP (fun c5 => ?_) (fun c5 => ?_)
          · refine iO ?_
            have e : false = bQ (.tuple [.int n, dw]) := by
              cases dw <;> first | rfl | (exfalso; simp [jD] at c5)
            rw [e]; exact k H (aE.refl H)
          · obtain ⟨ws, rfl⟩ : ∃ ws, dw = .tuple ws := by cases dw <;> first | exact ⟨_, rfl⟩ | (exfalso; simp [jD] at c5)
            obtain ⟨b, ys, rfl, hb, hws⟩ := cK.mp hw
            have hlw := aW hws
            have eB : bQ (.tuple [.int n, .tuple ws]) = (decide (ws.length <= 12) && ws.all (cJ n)) := by
              show (decide (1 <= n) && decide (n <= 6) && decide (ws.length <= 12) && ws.all (cJ n)) = _
              rw [hn, Bool.true_and]
            rw [eB] at k
            refine ⟨_, rfl, b, ys, rfl, .inr hb, _, _, rfl, rfl, _, rfl, ?_⟩
            refine eP (fun c6 => ?_) (fun c6 => ?_)
            · have c6' : (12 : Int) < ys.length := of_decide_eq_true c6
              have e : false = (decide (ws.length <= 12) && ws.all (cJ n)) := by rw [decide_eq_false (by omega : ¬ ws.length <= 12)]; rfl
              rw [e]; exact k H (aE.refl H)
            · have c6' : ¬ (12 : Int) < ys.length := fun z => c6 (decide_eq_true z)
              have e1 : decide (ws.length <= 12) = true := decide_eq_true (by omega)
              rw [e1, Bool.true_and] at k
              refine ⟨_, rfl, b, rfl, ⟨ys, hb⟩, hX (K := K) (a := b) (xs := ys) (fun σ => ∃ v, σ = [v, some (.int n)]) (fun i zs H2 => H2 = H /\ zs = ((ws.take i).map (cJ n)).map V.bl) ?_ ⟨none, rfl⟩ ⟨rfl, rfl⟩ ?_ ?_ ?_ ?_⟩
              · rw [sizeLine_eq]; omega
              · rintro i zs H2 ⟨_, rfl⟩
                rw [List.length_map, List.length_map, List.length_take]; omega
              · rintro i zs H2 ⟨rfl, _⟩
                exact hb
              · rintro i zs σ x H2 hx ⟨v, rfl⟩ ⟨rfl, rfl⟩ hz
                obtain ⟨dx, hdx, hden⟩ := fJ hws hx
                refine bU ?_
                refine ⟨_, rfl, _, rfl, n, x, dx, rfl, hden, hz, ⟨some x, rfl⟩, rfl, ?_⟩
                rw [List.take_succ, hdx]
                simp
              · rintro zs H2 ⟨rfl, rfl⟩ p hp
                refine ⟨p, _, rfl, SqL.of aC, ?_⟩
                have e2 : ((ws.take ys.length).map (cJ n)).all id = ws.all (cJ n) := by
                  rw [hlw, List.take_length, List.all_map]
                  rfl
                rw [e2]
                exact k _ (aE.new hp)
end
end Ab
set_option Elab.async false
set_option linter.all false
set_option maxRecDepth 100000
namespace Ab
open PySem L2
def cH (l : List Int) : PyData := .tuple (l.map .int)
def bO (n : Int) (ws : List (List Int)) : PyData := .tuple [.int n, .tuple (ws.map cH)]
def aY (hs : List Int) : PyData := .tuple (hs.map .int)
def eV : PyData -> List Int -> Bool
  | .int i, l => l.any (· == i)
  | _, _ => false
def aZ (ws : List (List Int)) : PyData -> Bool
  | .tuple hs => decide (hs.length = ws.length) && (hs.zip ws).all fun p => eV p.1 p.2
  | _ => false
theorem iD (l : List Int) : (l.map V.int).all jZ = true := by
  rw [List.all_map]
  exact List.all_eq_true.mpr fun _ _ => rfl
theorem iS (i : Int) (l : List Int) : inV (.int i) (l.map V.int) = l.any (· == i) := by
  unfold inV
  rw [List.any_map]
  rfl
theorem cW {K : PySem.W.Frag} {H : Hp} {n : Int} {ws : List (List Int)} {x : V} (h : Den K H (bO n ws) x) : ∃ a b ys, x = .ref a /\ SqT K H a [.int n, .ref b] /\ SqT K H b ys /\ aR K H (ws.map cH) ys := by
  obtain ⟨a, xs, rfl, ha, hds⟩ := cK.mp h
  obtain ⟨xh, r1, rfl, hh, h2⟩ := aS.mp hds
  obtain ⟨xw, r2, rfl, hw, h3⟩ := aS.mp h2
  obtain rfl := bB.mp h3
  obtain rfl := eI.mp hh
  obtain ⟨b, ys, rfl, hb, hys⟩ := cK.mp hw
  exact ⟨a, b, ys, rfl, ha, hb, hys⟩
theorem bJ {n : Int} {ws : List (List Int)} (h : bQ (bO n ws) = true) : 1 <= n /\ n <= 6 /\ ws.length <= 12 /\ ∀ l ∈ ws, cJ n (cH l) = true := by
  have h' : (decide (1 <= n) && decide (n <= 6) && decide ((ws.map cH).length <= 12) && (ws.map cH).all (cJ n)) = true := h
  simp only [Bool.and_eq_true, decide_eq_true_eq, List.length_map, List.all_eq_true] at h'
  exact ⟨h'.1.1.1, h'.1.1.2, h'.1.2, fun l hl => h'.2 _ (List.mem_map.mpr ⟨l, hl, rfl⟩)⟩
theorem rW {X : Cx} {pos : Pos} {es : List Expr} {k : Nat} {t : TGs} {n : Nat} {K : PySem.W.Frag} (hK : X.K = K) (hc : X.calm = true) (h : PGs X es t)
    (hn : (assignEach es X.env).length = n := by rfl) (hst : (assignEach es X.env).findIdx? (·.1) = none := by rfl) : PG X (.Tuple es k pos) (aDw K n t) := by
  subst hK
  exact gY hc h hn hst
section
variable {X : Cx} {K : PySem.W.Frag}
theorem vV (hK : X.K = K) : OpR X (compareOp .In) (rIn K false) := by subst hK; exact hU
theorem nE (hK : X.K = K) : IxR X (aDH K) := by subst hK; exact bF
theorem vW (hK : X.K = K) : MtR X "tuple.count" (fun x vs H Q => ∃ (a : Addr) (ns : List Int) (n : Int), x = .ref a /\ vs = [.int n] /\ SqT K H a (ns.map V.int) /\ Q (.int (ns.count n : Nat)) H) := by subst hK; exact yT
end
section
variable {P : Program} {w : World} {K : PySem.W.Frag} {mg : Str -> Option Value} {base : Heap}
structure Pr (K : PySem.W.Frag) (mg : Str -> Option Value) (fW fH fK fB fNB fD fND fL : Addr) (dW dH dK dB dNB dD dND dL : FuncData) : Prop where
  W : Fn K mg "is_whole" kK ["thing"] fW dW
  H : Fn K mg "are_hands" oN ["thing"] fH dH
  Kw : Fn K mg "is_work" oO ["hands", "thing"] fK dK
  B : Fn K mg "is_book" oP ["thing"] fB dB
  NB : Fn K mg "need_book" vR ["book"] fNB dNB
  D : Fn K mg "is_deal" rR ["book", "thing"] fD dD
  ND : Fn K mg "need_deal" vS ["book", "deal"] fND dND
  C : ∃ f d, Fn K mg "counted" jK ["hands", "deal"] f d
  L : Fn K mg "loads" vT ["book", "deal"] fL dL
variable {fW fH fK fB fNB fD fND fL : Addr} {dW dH dK dB dNB dD dND dL : FuncData}
def rX (K : PySem.W.Frag) : Sp := fun vs H Q _ => ∃ x d, vs = [x] /\ Den K H d x /\ bQ d = true /\ ∀ H', aE H H' -> Q .non H'
theorem aB9 : FnScope ["book"] ["book"] (aF vR) := ⟨rfl, rfl, rfl, by decide +kernel, rfl, by decide +kernel, by decide +kernel⟩
theorem tV (B : Bl mg) (R : Pr K mg fW fH fK fB fNB fD fND fL dW dH dK dB dNB dD dND dL) : FnOk P w K mg base CX0 4 fNB dNB ["book"] (rX K) := by
  have OB : FnOk P w K mg base CX0 3 fB dB ["thing"] (xP K) := aA7 R.B B R.W R.H R.Kw
  refine R.NB.fn.ok aB9 (fun vs H Q E h => ?_) (fun cdv A outer s H vs Q E hr h => ?_)
  · obtain ⟨x, d, rfl, _⟩ := h
    rfl
  · obtain ⟨x, d, rfl, hd, hb, k⟩ := h
    refine ⟨_, aG (cL (cY (dZ (aV R.B OB hr rfl (aA (pv 0) aB)))) lR bE), ?_⟩
    refine ⟨_, rfl, x, d, rfl, hd, fun H' hs => ⟨_, rfl, ?_⟩⟩
    rw [hb]
    refine iN ?_
    exact k H' hs
def xQ (K : PySem.W.Frag) : Sp := fun vs H Q _ => ∃ x y n ws d, vs = [x, y] /\ Den K H (bO n ws) x /\ bQ (bO n ws) = true /\ Den K H d y /\ ∀ H', aE H H' -> Q (.bl (aZ ws d)) H'
theorem xR : FnScope ["book", "thing", "works"] ["book", "thing"] (aF rR) := ⟨rfl, rfl, rfl, by decide +kernel, rfl, by decide +kernel, by decide +kernel⟩
theorem aA8 (B : Bl mg) (R : Pr K mg fW fH fK fB fNB fD fND fL dW dH dK dB dNB dD dND dL) : FnOk P w K mg base CX0 5 fD dD ["book", "thing"] (xQ K) := by
  have ON : FnOk P w K mg base CX0 4 fNB dNB ["book"] (rX K) := tV B R
  have OW : FnOk P w K mg base CX0 1 fW dW ["thing"] (lB K) := lC R.W B
  refine R.D.fn.ok xR (fun vs H Q E h => ?_) (fun cdv A outer s H vs Q E hr h => ?_)
  · obtain ⟨x, y, n, ws, d, rfl, _⟩ := h
    rfl
  · obtain ⟨x, y, n, ws, d, rfl, hx, hb, hd, k⟩ := h
    have hr1 : Room 1 _ := hr.mono (by decide)
    refine ⟨_, aD (eQ (aV R.NB ON hr rfl (aA (pv 0) aB)))
      (aD (aQ (i := 2) xR.nd rfl (Or.inl rfl) (bD bF (pv 0) aK (fun _ _ => rfl)))
      (aD (cL (PW.pt (jA (cY (dZ (aM cF rfl B.isinstance jB (aA (pv 1) (aA (eE (v := .ty "tuple") rfl B.tuple cR rfl) aB)))))
        (iJ (bH mI (aM aT rfl B.len eM (aA (pv 1) aB)) (aM aT rfl B.len eM (aA (pv 2) aB)) (bN _))))) (aG (aP dY)) bE)
      (aG (aP (aM (jH rfl) rfl B.all tU (aA
        (cM (own := ["hand", "able"]) (fr := []) (frn := []) (bI (aF rR) ["book", "thing", "works"] rfl rfl (by decide +kernel)) rfl (vK .t .t rfl B.zip (aA (pv 1) (aA (pv 2) aB)))
          (fun _ _ _ _ => rW (K := K) (n := 2) rfl rfl (bC (aL (i := 0) (show (["hand", "able"] : List Str).Nodup by decide +kernel) rfl (Or.inl rfl)) (bC (aL (i := 1) (show (["hand", "able"] : List Str).Nodup by decide +kernel) rfl (Or.inl rfl)) eF)))
          (fun _ _ _ _ => dJ) (fun _ _ _ _ => jF (aV R.W OW hr1 rfl (aA (pv 0) aB)) (kH (gT (vV (K := K) rfl) (pv 0) (pv 1) (by with_unfolding_all rfl))))) aB)))))), ?_⟩
    refine ⟨_, rfl, x, bO n ws, rfl, hx, hb, fun H1 s1 => ?_⟩
    have hx1 := s1.den _ _ hx
    have hd1 := s1.den _ _ hd
    obtain ⟨a, b, ys, rfl, ha, hb2, hys⟩ := cW hx1
    have hlw := aW hys
    rw [List.length_map] at hlw
    refine ⟨_, rfl, a, _, 1, .ref b, rfl, rfl, ha, rfl, ?_⟩
    refine ⟨_, rfl, y, jD d, rfl, hd1.kd, _, rfl, ?_⟩
    refine eP (fun c => ?_) (fun c => ?_)
    · refine iO ?_
      have e : false = aZ ws d := by
        cases d <;> first | rfl | (exfalso; simp [jD] at c)
      rw [e]; exact k H1 s1
    · obtain ⟨hs, rfl⟩ : ∃ hs, d = .tuple hs := by cases d <;> first | exact ⟨_, rfl⟩ | (exfalso; simp [jD] at c)
      obtain ⟨a2, xs, rfl, ha2, hxs⟩ := cK.mp hd1
      have hlx := aW hxs
      refine ⟨_, rfl, a2, xs, rfl, .inr ha2, _, rfl, b, ys, rfl, .inr hb2, rfl, _, rfl, ?_⟩
      refine eP (fun c2 => ?_) (fun c2 => ?_)
      · have e : false = aZ ws (.tuple hs) := by
          show _ = (decide (hs.length = ws.length) && (hs.zip ws).all fun p => eV p.1 p.2)
          rw [decide_eq_false]
          · rfl
          · intro z
            have : (V.int (xs.length : Int) = V.int (ys.length : Int)) := by rw [hlx, hlw, z]
            simp [this] at c2
        rw [e]; exact k H1 s1
      · have heq : xs.length = ys.length := by
          have : V.int (xs.length : Int) = V.int (ys.length : Int) := by simpa using c2
          injection this with this
          omega
        have e0 : aZ ws (.tuple hs) = (hs.zip ws).all fun p => eV p.1 p.2 := by
          show (decide (hs.length = ws.length) && _) = _
          rw [decide_eq_true (by omega : hs.length = ws.length), Bool.true_and]
        rw [e0] at k
        obtain ⟨_, _, h12, _⟩ := bJ hb
        refine ⟨_, rfl, _, rfl, a2, b, xs, ys, rfl, ha2, hb2, sY (K := K) (k1 := .t) (k2 := .t) (a := a2) (b := b) (xs := xs) (ys := ys) (fun σ => ∃ u v, σ = [u, v]) (fun i zs H2 => aE H1 H2 /\ zs = (((hs.zip ws).take i).map fun p => eV p.1 p.2).map V.bl) ?_ heq ⟨none, none, rfl⟩ ⟨aE.refl H1, rfl⟩ ?_ ?_ ?_ ?_⟩
        · rw [sizeLine_eq]; omega
        · rintro i zs H2 ⟨_, rfl⟩
          rw [List.length_map, List.length_map, List.length_take]; omega
        · rintro i zs H2 ⟨s2, _⟩
          exact ⟨s2.seqT ha2, s2.seqT hb2⟩
        · rintro i zs σ u v p H2 hu hv ⟨u0, v0, rfl⟩ ⟨s2, rfl⟩ hp hz
          obtain ⟨du, hdu, denu⟩ := fJ hxs hu
          obtain ⟨dv, hdv, denv⟩ := fJ hys hv
          rw [List.getElem?_map] at hdv
          obtain ⟨l, hl, rfl⟩ : ∃ l, ws[i]? = some l /\ cH l = dv := by
            cases q : ws[i]? with
            | none => rw [q] at hdv; cases hdv
            | some l => rw [q] at hdv; exact ⟨l, rfl, Option.some.inj hdv⟩
          have s3 : aE H1 (upd H2 p (.tup [u, v])) := s2.trans (aE.new hp)
          have hzip : (hs.zip ws)[i]? = some (du, l) := by rw [List.getElem?_zip_eq_some]; exact ⟨hdu, hl⟩
          have enext : (((hs.zip ws).take (i + 1)).map fun p => eV p.1 p.2).map V.bl = (((hs.zip ws).take i).map fun p => eV p.1 p.2).map V.bl ++ [V.bl (eV du l)] := by
            rw [List.take_succ, hzip]; simp
          refine ⟨p, _, rfl, SqT.of aC, rfl, _, _, rfl, _, _, rfl, rfl, ?_⟩
          refine aB8 ?_
          refine ⟨_, rfl, u, du, rfl, s3.den _ _ denu, _, rfl, ?_⟩
          refine eP (fun c3 => ?_) (fun c3 => ?_)
          · obtain ⟨j, rfl⟩ : ∃ j, du = .int j := by cases du <;> first | exact ⟨_, rfl⟩ | (exfalso; simp [fQ] at c3)
            obtain rfl := eI.mp denu
            obtain ⟨av, rfl, hav⟩ := aO.mp denv
            refine ⟨_, rfl, _, rfl, av, _, rfl, .inr (s3.seqT hav), rfl, iD l, hz, ⟨_, _, rfl⟩, s3, ?_⟩
            rw [enext]
            show _ ++ [V.bl (inV (.int j) (l.map V.int))] = _
            rw [iS]
            rfl
          · have e : eV du l = false := by cases du <;> first | rfl | (exfalso; simp [fQ] at c3)
            refine ⟨hz, ⟨_, _, rfl⟩, s3, ?_⟩
            rw [enext, e]
        · rintro zs H2 ⟨s2, rfl⟩ p hp
          refine ⟨p, _, rfl, SqL.of aC, ?_⟩
          have e2 : (((hs.zip ws).take xs.length).map fun p => eV p.1 p.2).all id = (hs.zip ws).all fun p => eV p.1 p.2 := by
            rw [List.take_of_length_le (by rw [List.length_zip]; omega), List.all_map]
            rfl
          rw [e2]
          exact k _ (s1.trans (s2.trans (aE.new hp)))
end
end Ab
set_option Elab.async false
set_option linter.all false
set_option maxRecDepth 100000
namespace Ab
open PySem L2
def aI (n : Int) (hs : List Int) : List Int := (bY n.toNat).map fun h => ((hs.count h : Nat) : Int)
theorem tW {n i : Nat} (h : i < n) : (bY n)[i]? = some (i : Int) := by
  unfold bY
  rw [List.getElem?_map, List.getElem?_range h]
  rfl
theorem mM (n : Nat) : (bY n).length = n := by unfold bY; rw [List.length_map, List.length_range]
theorem aC8 {X : Cx} {K : PySem.W.Frag} {o e : Expr} {es : List Expr} {to : TE} {t : TA} {name : Str} {apos cpos : Pos} {T id : String} {r : V -> List V -> Hp -> VK -> Prop} (hK : X.K = K) (pa : PlainAttrs T) (slot : Slot T name id) (hty : typeOf (.builtin id) = pure (.type "method_descriptor")) (hm : MtR X id r) (ho : PE X o to) (ha : PA X (e :: es) t)
    (hbase : attributeBase o name X.env (eval o X.env) = eval o X.env := by rfl)
    (hfew : ((backTo cpos (starEach (e :: es) X.env)).all (fun x => !x.1) && (backToKw cpos (keywordEach [] X.env)).all (fun x => x.1.isSome)
      && decide ((e :: es).length + ([] : List Keyword).length + (if ([] : List Keyword).isEmpty then 0 else 1) < 30)) = true := by rfl)
    (hline : (apos.endLine == cpos.line) = true := by rfl) (hs : starEach (e :: es) X.env = (false, eval e X.env) :: starEach es X.env := by rfl) (hplain : (backTo cpos (starEach es X.env)).any (·.1) = false := by rfl) :
    PE X (.Call (.Attribute o name apos) (e :: es) [] cpos) (tBM K T r to t) := by
  subst hK
  exact mJ pa slot hty hm ho ha hbase hfew hline hs hplain
section
variable {P : Program} {w : World} {K : PySem.W.Frag} {mg : Str -> Option Value} {base : Heap}
variable {fW fH fK fB fNB fD fND fL : Addr} {dW dH dK dB dNB dD dND dL : FuncData}
def dQ (K : PySem.W.Frag) (H : Hp) (x y : V) (n : Int) (ws : List (List Int)) (hs : List Int) : Prop := Den K H (bO n ws) x /\ bQ (bO n ws) = true /\ Den K H (aY hs) y /\ aZ ws (aY hs) = true
theorem dQ.same {H H' : Hp} {x y : V} {n : Int} {ws : List (List Int)} {hs : List Int} (g : dQ K H x y n ws hs) (e : aE H H') : dQ K H' x y n ws hs := ⟨e.den _ _ g.1, g.2.1, e.den _ _ g.2.2.1, g.2.2.2⟩
theorem dQ.len {H : Hp} {x y : V} {n : Int} {ws : List (List Int)} {hs : List Int} (g : dQ K H x y n ws hs) : hs.length <= 12 /\ 1 <= n /\ n <= 6 := by
  obtain ⟨h1, h2, h3, _⟩ := bJ g.2.1
  have h : (decide ((hs.map PyData.int).length = ws.length) && ((hs.map PyData.int).zip ws).all fun p => eV p.1 p.2) = true := g.2.2.2
  simp only [Bool.and_eq_true, decide_eq_true_eq, List.length_map] at h
  omega
def rY (K : PySem.W.Frag) : Sp := fun vs H Q _ => ∃ x y n ws hs, vs = [x, y] /\ dQ K H x y n ws hs /\ ∀ H', aE H H' -> Q .non H'
theorem aCa : FnScope ["book", "deal"] ["book", "deal"] (aF vS) := ⟨rfl, rfl, rfl, by decide +kernel, rfl, by decide +kernel, by decide +kernel⟩
theorem tX (B : Bl mg) (R : Pr K mg fW fH fK fB fNB fD fND fL dW dH dK dB dNB dD dND dL) : FnOk P w K mg base CX0 6 fND dND ["book", "deal"] (rY K) := by
  have OD : FnOk P w K mg base CX0 5 fD dD ["book", "thing"] (xQ K) := aA8 B R
  refine R.ND.fn.ok aCa (fun vs H Q E h => ?_) (fun cdv A outer s H vs Q E hr h => ?_)
  · obtain ⟨x, y, n, ws, hs, rfl, _⟩ := h
    rfl
  · obtain ⟨x, y, n, ws, hs, rfl, ⟨g1, g2, g3, g4⟩, k⟩ := h
    refine ⟨_, aG (cL (cY (dZ (aV R.D OD hr rfl (aA (pv 0) (aA (pv 1) aB))))) lR bE), ?_⟩
    refine ⟨_, rfl, _, rfl, x, y, n, ws, aY hs, rfl, g1, g2, g3, fun H' hs => ⟨_, rfl, ?_⟩⟩
    rw [g4]
    refine iN ?_
    exact k H' hs
def qP (K : PySem.W.Frag) : Sp := fun vs H Q _ => ∃ (n : Int) (b : Addr) (hs : List Int), vs = [.int n, .ref b] /\ SqT K H b (hs.map V.int) /\ 0 <= n /\ n <= 6 /\ ∀ p H', aE H H' -> H' p = some (.tup ((aI n hs).map V.int)) -> Q (.ref p) H'
theorem zM : FnScope ["hands", "deal"] ["hands", "deal"] (aF jK) := ⟨rfl, rfl, rfl, by decide +kernel, rfl, by decide +kernel, by decide +kernel⟩
theorem vX {f : Addr} {fd : FuncData} (G : Fn K mg "counted" jK ["hands", "deal"] f fd) (B : Bl mg) : FnOk P w K mg base CX0 1 f fd ["hands", "deal"] (qP K) := by
  refine G.fn.ok zM (fun vs H Q E h => ?_) (fun cdv A outer s H vs Q E hr h => ?_)
  · obtain ⟨n, b, hs, rfl, _⟩ := h
    rfl
  · obtain ⟨n, c, hs, rfl, hc, hn1, hn6, k⟩ := h
    refine ⟨_, aG (aP (cE bS rfl B.tuple cR (aA
        (cM (own := ["hand"]) (fr := [1]) (frn := ["deal"]) (bI (aF jK) ["hands", "deal"] rfl rfl (by decide +kernel)) rfl (bT rfl B.range (aA (pv 0) aB))
          (fun _ _ _ _ => aL (i := 0) (show (["hand", "deal"] : List Str).Nodup by decide +kernel) rfl (Or.inl rfl)) (fun _ _ _ _ => dJ)
          (fun _ _ _ _ => aC8 (K := K) rfl PySem.F.plainAttrs_tuple PySem.F.slot_tuple_count PySem.F.type_tuple_count (vW (K := K) rfl) (pv 1) (aA (pv 0) aB))) aB))), ?_⟩
    refine ⟨_, rfl, n, rfl, by omega, by omega, fM (lo := 0) (n := n.toNat) (fun σ => ∃ v, σ = [v, some (.ref c)]) (fun i zs H2 => H2 = H /\ zs = (((bY n.toNat).take i).map fun h => ((hs.count h : Nat) : Int)).map V.int) ?_ ⟨none, rfl⟩ ⟨rfl, rfl⟩ ?_ ?_ ?_⟩
    · rw [sizeLine_eq]; omega
    · rintro i zs H2 ⟨_, rfl⟩
      rw [List.length_map, List.length_map, List.length_take]; omega
    · rintro i zs σ H2 hi ⟨v, rfl⟩ ⟨rfl, rfl⟩ hz
      refine bU ?_
      refine ⟨_, rfl, .inr (.inl ⟨rfl, _, hc⟩), _, rfl, c, hs, _, rfl, rfl, hc, hz, ⟨_, rfl⟩, rfl, ?_⟩
      rw [List.take_succ, tW hi]
      simp
    · rintro zs H2 ⟨rfl, rfl⟩ p hp
      refine ⟨p, _, rfl, .inl ⟨SqL.of aC, fun l hl => ?_⟩⟩
      refine k l _ ((aE.new hp).trans (aE.new hl)) ?_
      rw [aC, List.take_of_length_le (by rw [mM]; exact Nat.le_refl _)]
      rfl
def lD (K : PySem.W.Frag) : Sp := fun vs H Q _ => ∃ x y n ws hs, vs = [x, y] /\ dQ K H x y n ws hs /\ ∀ p H', aE H H' -> H' p = some (.tup ((aI n hs).map V.int)) -> Q (.ref p) H'
theorem aCb : FnScope ["book", "deal"] ["book", "deal"] (aF vT) := ⟨rfl, rfl, rfl, by decide +kernel, rfl, by decide +kernel, by decide +kernel⟩
theorem lE (B : Bl mg) (R : Pr K mg fW fH fK fB fNB fD fND fL dW dH dK dB dNB dD dND dL) : FnOk P w K mg base CX0 7 fL dL ["book", "deal"] (lD K) := by
  have ON : FnOk P w K mg base CX0 6 fND dND ["book", "deal"] (rY K) := tX B R
  obtain ⟨fC, dC, GC⟩ := R.C
  have OC : FnOk P w K mg base CX0 1 fC dC ["hands", "deal"] (qP K) := vX GC B
  refine R.L.fn.ok aCb (fun vs H Q E h => ?_) (fun cdv A outer s H vs Q E hr h => ?_)
  · obtain ⟨x, y, n, ws, hs, rfl, _⟩ := h
    rfl
  · obtain ⟨x, y, n, ws, hs, rfl, g, k⟩ := h
    have r1 : Room 1 _ := hr.mono (by decide)
    refine ⟨_, aD (eQ (aV R.ND ON hr rfl (aA (pv 0) (aA (pv 1) aB))))
      (aG (aP (aV GC OC r1 rfl (aA (bD bF (pv 0) aK (fun _ _ => rfl)) (aA (pv 1) aB))))), ?_⟩
    refine ⟨_, rfl, _, rfl, x, y, n, ws, hs, rfl, g, fun H1 s1 => ?_⟩
    have g1 := g.same s1
    obtain ⟨hl, hn1, hn6⟩ := g.len
    obtain ⟨a, b, ys, rfl, ha, hb2, hys⟩ := cW g1.1
    obtain ⟨c, rfl, hc⟩ := aO.mp g1.2.2.1
    refine ⟨_, rfl, a, _, 0, .int n, rfl, rfl, ha, rfl, _, rfl, n, c, hs, rfl, hc, by omega, hn6, fun p H2 s2 hp => ?_⟩
    exact k p H2 (s1.trans s2) hp
theorem aN (n : Int) (hs : List Int) : (aI n hs).length = n.toNat := by unfold aI; rw [List.length_map, mM]
end
end Ab
set_option Elab.async false
set_option linter.all false
set_option maxRecDepth 100000
namespace Ab
open PySem L2
def But (t : Addr) (H H' : Hp) : Prop := ∀ b o, b ≠ t -> H b = some o -> H' b = some o
theorem But.refl (t : Addr) (H : Hp) : But t H H := fun _ _ _ h => h
theorem But.trans {t : Addr} {H H1 H2 : Hp} (a : But t H H1) (b : But t H1 H2) : But t H H2 := fun c o n h => b c o n (a c o n h)
theorem But.of {t : Addr} {H H' : Hp} (a : aE H H') : But t H H' := fun c o _ h => a c o h
theorem But.at {t : Addr} {H : Hp} {u : HO} : But t H (upd H t u) := fun c o n h => by rw [aH n]; exact h
theorem But.free {t : Addr} {H H' : Hp} (e : But t H H') {l : Addr} (h : H' l = none) (n : l ≠ t) : H l = none := by
  cases q : H l with
  | none => rfl
  | some o => rw [e l o n q] at h; cases h
theorem But.rdL {t a : Addr} {H H' : Hp} {xs : List V} (e : But t H H') (n : a ≠ t) (h : Rd H a (.lst xs)) : Rd H' a (.lst xs) := by
  rcases h with h | ⟨o, h⟩
  · exact .inl (e a _ n h)
  · exact .inr ⟨o, e a _ n h⟩
section
variable {K : PySem.W.Frag} {t : Addr} {H H' : Hp} {ys : List V}
theorem But.seqT {a : Addr} {xs : List V} (e : But t H H') (ht : H t = some (.lst ys)) (h : SqT K H a xs) : SqT K H' a xs := by
  rcases h with (h | ⟨o, h⟩) | h
  · exact .inl (.inl (e a _ (fun z => by rw [z, ht] at h; cases h) h))
  · exact .inl (.inr ⟨o, e a _ (fun z => by rw [z, ht] at h; cases h) h⟩)
  · exact .inr h
theorem But.seqL {a : Addr} {xs : List V} (e : But t H H') (n : a ≠ t) (h : SqL K H a xs) : SqL K H' a xs := by
  rcases h with h | h
  · exact .inl (e.rdL n h)
  · exact .inr h
mutual
def eJ : PyData -> Bool
  | .dict _ => false
  | .list _ => false
  | .tuple ds => eW ds
  | _ => true
def eW : List PyData -> Bool
  | [] => true
  | d :: ds => eJ d && eW ds
end
mutual
theorem But.den (e : But t H H') (ht : H t = some (.lst ys)) : ∀ (d : PyData) (v : V), eJ d = true -> Den K H d v -> Den K H' d v
  | .none, v, _, h => by unfold Den at h ⊢; exact h
  | .bool b, v, _, h => by unfold Den at h ⊢; exact h
  | .int i, v, _, h => by unfold Den at h ⊢; exact h
  | .str x, v, _, h => by unfold Den at h ⊢; exact h
  | .list ds, v, n, h => by unfold eJ at n; cases n
  | .tuple ds, v, n, h => by unfold eJ at n; unfold Den at h ⊢; obtain ⟨a, xs, h1, h2, h3⟩ := h; exact ⟨a, xs, h1, e.seqT ht h2, But.denAll e ht ds xs n h3⟩
  | .dict kvs, v, n, h => by unfold eJ at n; cases n
theorem But.denAll (e : But t H H') (ht : H t = some (.lst ys)) : ∀ (ds : List PyData) (xs : List V), eW ds = true -> aR K H ds xs -> aR K H' ds xs
  | [], xs, _, h => by unfold aR at h ⊢; exact h
  | d :: ds, xs, n, h => by
    unfold eW at n; rw [Bool.and_eq_true] at n
    unfold aR at h ⊢; obtain ⟨x, r, h1, h2, h3⟩ := h; exact ⟨x, r, h1, But.den e ht d x n.1 h2, But.denAll e ht ds r n.2 h3⟩
end
end
theorem gA {α : Type} (f : α -> PyData) (h : ∀ x, eJ (f x) = true) : ∀ l : List α, eW (l.map f) = true
  | [] => by unfold List.map eW; rfl
  | x :: r => by rw [List.map_cons]; unfold eW; rw [h x, gA f h r]; rfl
theorem oS (i : Int) : eJ (.int i) = true := by unfold eJ; rfl
theorem gW (l : List Int) : eJ (cH l) = true := by unfold cH eJ; exact gA _ oS l
theorem tY (l : List Int) : eJ (aY l) = true := gW l
theorem tZ (n : Int) (ws : List (List Int)) : eJ (bO n ws) = true := by
  unfold bO eJ eW
  rw [oS]
  unfold eW eJ
  rw [gA _ gW ws]
  unfold eW
  rfl
theorem sz1 (x : V) : [x].length <= sizeLine := by rw [sizeLine_eq]; simp
theorem sz2 (x y : V) : [x, y].length <= sizeLine := by rw [sizeLine_eq]; simp
theorem eN {n : Nat} (h : n <= 1000) : n <= sizeLine := by rw [sizeLine_eq]; omega
def gQ (K : PySem.W.Frag) (H : Hp) (t a : Addr) (ns : List Int) : Prop := ∃ q : Int, H t = some (.lst [.int q])
theorem gQ.same {K : PySem.W.Frag} {H H' : Hp} {t a : Addr} {ns : List Int} (h : gQ K H t a ns) (e : aE H H') : gQ K H' t a ns := by
  obtain ⟨q, h2⟩ := h
  exact ⟨q, e t _ h2⟩
theorem gQ.den {K : PySem.W.Frag} {H H' : Hp} {t a : Addr} {ns : List Int} (h : gQ K H t a ns) (e : But t H H') {d : PyData} {v : V} (n : eJ d = true) (hd : Den K H d v) : Den K H' d v := by
  obtain ⟨q, h2⟩ := h
  exact e.den h2 d v n hd
theorem gQ.denAll {K : PySem.W.Frag} {H H' : Hp} {t a : Addr} {ns : List Int} (h : gQ K H t a ns) (e : But t H H') {ds : List PyData} {vs : List V} (n : eW ds = true) (hd : aR K H ds vs) : aR K H' ds vs := by
  obtain ⟨q, h2⟩ := h
  exact e.denAll h2 ds vs n hd
theorem gQ.seqT {K : PySem.W.Frag} {H H' : Hp} {t a : Addr} {ns : List Int} (h : gQ K H t a ns) (e : But t H H') {b : Addr} {xs : List V} (hd : SqT K H b xs) : SqT K H' b xs := by
  obtain ⟨q, h2⟩ := h
  exact e.seqT h2 hd
theorem gQ.ne {K : PySem.W.Frag} {H : Hp} {t a : Addr} {ns : List Int} (h : gQ K H t a ns) {b : Addr} (hb : H b = none) : b ≠ t := by
  obtain ⟨q, h2⟩ := h
  intro z
  rw [z, h2] at hb
  cases hb
theorem gQ.wr {K : PySem.W.Frag} {H H' : Hp} {t a f : Addr} {ns : List Int} (T : gQ K H t a ns) (b : But f H H') (n : t ≠ f) : gQ K H' t a ns := by
  obtain ⟨q, h2⟩ := T
  exact ⟨q, b t _ n h2⟩
section
variable {P : Program} {w : World} {K : PySem.W.Frag} {mg : Str -> Option Value} {base : Heap}
theorem dO (ns : List Int) : eT (.list (ns.map .int)) = true := by
  unfold eT
  induction ns with
  | nil => unfold List.map iP; rfl
  | cons n r ih => rw [List.map_cons]; unfold iP; rw [ih]; unfold eT; rfl
theorem kL {α : Type} (f : α -> PyData) (h : ∀ x, (f x).canLay0 = true) : ∀ l : List α, PyData.canLayAll0 (l.map f) = true
  | [] => by unfold List.map PyData.canLayAll0; rfl
  | x :: r => by rw [List.map_cons]; unfold PyData.canLayAll0; rw [h x, kL f h r]; rfl
theorem mC {α : Type} {k : Nat} (f : α -> PyData) (h : ∀ x, (f x).depth <= k) : ∀ l : List α, PyData.depthAll (l.map f) <= k
  | [] => by unfold List.map PyData.depthAll; exact Nat.zero_le _
  | x :: r => by rw [List.map_cons]; unfold PyData.depthAll; exact Nat.max_le.mpr ⟨h x, mC f h r⟩
theorem oT (i : Int) : (PyData.int i).canLay0 = true := by unfold PyData.canLay0; rfl
theorem qQ (i : Int) : (PyData.int i).depth <= 0 := by unfold PyData.depth; exact Nat.le_refl _
theorem rZ (ns : List Int) : (PyData.list (ns.map .int)).canLay0 = true := by unfold PyData.canLay0; exact kL _ oT ns
theorem sA (ns : List Int) : (PyData.tuple (ns.map .int)).canLay0 = true := by unfold PyData.canLay0; exact kL _ oT ns
theorem uA (ns : List Int) : (PyData.list (ns.map .int)).depth <= 1 := by unfold PyData.depth; exact Nat.succ_le_succ (mC _ qQ ns)
theorem uB (ns : List Int) : (PyData.tuple (ns.map .int)).depth <= 1 := by unfold PyData.depth; exact Nat.succ_le_succ (mC _ qQ ns)
theorem qR {d : PyData} (h1 : d.canLay0 = true) (h2 : d.depth <= 64) : SeqAt.shaped d = true := by
  unfold SeqAt.shaped
  rw [h1, decide_eq_true h2]
  rfl
theorem eO (ns : List Int) : SeqAt.shaped (.list (ns.map .int)) = true := qR (rZ ns) (Nat.le_trans (uA ns) (by decide))
theorem cN (ns : List Int) : SeqAt.shaped (.tuple (ns.map .int)) = true := qR (sA ns) (Nat.le_trans (uB ns) (by decide))
theorem cO (ns : List Int) : eT (.tuple (ns.map .int)) = true := by
  have h := dO ns
  unfold eT at h ⊢
  exact h
theorem _root_.L2.Room.u64 {k : Nat} {A : Around} (r : Room k A) : A.units + 64 < cLine := by have := r.un; omega
def aA9 (K : PySem.W.Frag) : Sp := fun vs H Q _ => ∃ (a : Addr) (ns : List Int) (k : Nat), vs = [.ref a, .int k] /\ SqL K H a (ns.map V.int) /\ ∀ r, Q (.int r) H
theorem aC9 : FnScope ["script", "k"] ["script", "k"] (aF xK) := ⟨rfl, rfl, rfl, by decide +kernel, rfl, by decide +kernel, by decide +kernel⟩
theorem aCc {f : Addr} {fd : FuncData} (G : Fn K mg "_law_acell" xK ["script", "k"] f fd) (B : Bl mg) : FnOk P w K mg base CX0 1 f fd ["script", "k"] (aA9 K) := by
  refine G.fn.ok aC9 (fun vs H Q E h => ?_) (fun cdv A outer s H vs Q E hr h => ?_)
  · obtain ⟨a, ns, n, rfl, _⟩ := h
    rfl
  · obtain ⟨a, ns, n, rfl, ha, k⟩ := h
    refine ⟨_, (aD (cL (bH wU (pv 1) (aM aT rfl B.len eM (aA (pv 0) aB)) (bN _))
      (aG (aP (bD fP (pv 0) (pv 1) (fun _ _ => rfl))))
      bE)
    (aG (aP aK))), ?_⟩
    refine ⟨_, rfl, _, rfl, a, _, rfl, .inl ha, _, _, rfl, rfl, _, rfl, ?_⟩
    rw [List.length_map]
    refine eP (fun c => ?_) (fun c => ?_)
    · have hlt : n < ns.length := by have := of_decide_eq_true c; omega
      exact ⟨_, rfl, _, rfl, a, _, n, .int ns[n], rfl, rfl, ha, cQ (by rw [List.getElem?_map, List.getElem?_eq_getElem hlt]; rfl), k _⟩
    · exact k _
def aBa (K : PySem.W.Frag) : Sp := fun vs H Q _ => ∃ (a : Addr) (ns : List Int) (k : Nat), vs = [.ref a, .int k] /\ SqL K H a (ns.map V.int) /\ ∀ t q, H t = none -> Q (.ref t) (upd H t (.lst [.int q]))
theorem jL : FnScope ["script", "k", "cell", "p", "number", "last", "turn"] ["script", "k"] (aF xL) := ⟨rfl, rfl, rfl, by decide +kernel, rfl, by decide +kernel, by decide +kernel⟩
theorem aCd {f fC : Addr} {fd dC : FuncData} (G : Fn K mg "_law_atape" xL ["script", "k"] f fd) (B : Bl mg) (GC : Fn K mg "_law_acell" xK ["script", "k"] fC dC) : FnOk P w K mg base CX0 2 f fd ["script", "k"] (aBa K) := by
  have OC : FnOk P w K mg base CX0 1 fC dC ["script", "k"] (aA9 K) := aCc GC B
  refine G.fn.ok jL (fun vs H Q E h => ?_) (fun cdv A outer s H vs Q E hr h => ?_)
  · obtain ⟨a, ns, n, rfl, _⟩ := h
    rfl
  · obtain ⟨a, ns, n, rfl, ha, k⟩ := h
    have r1 : Room 1 _ := hr
    refine ⟨_, (aD (aQ (i := 2) jL.nd rfl (Or.inl rfl) (aV GC OC r1 rfl (aA (pv 0) (aA (pv 1) aB))))
    (aD (cL (bH nU (bX nS (pv 2) aK) aK (bN _))
      (aG (aP (eS (aA (bX aBH (pv 2) aK) aB))))
      bE)
    (aD (aQ (i := 3) jL.nd rfl (Or.inl rfl) aK)
    (aD (aQ (i := 4) jL.nd rfl (Or.inl rfl) aK)
    (aD (aQ (i := 5) jL.nd rfl (Or.inl rfl) (bX nS (bX gI (bX gI (bX nR (bX nS (pv 2) (pv 3)) aK) (bX nR aK (pv 1))) aK) (pv 3)))
    (aD (eR PassesOwn.never rfl (bT rfl B.range (aA aK aB)) (aL (i := 6) jL.nd rfl (Or.inl rfl))
      (aD (aQ (i := 4) jL.nd rfl (Or.inl rfl) (bX gI (bX nR (pv 4) (pv 3)) (pv 5)))
    (aG (aQ (i := 5) jL.nd rfl (Or.inl rfl) (bX nS (bX gI (bX gI (bX nR (pv 5) (pv 5)) (bX nR aK (pv 1))) (pv 6)) (pv 3))))))
    (aG (aP (eS (aA (pv 4) aB)))))))))), ?_⟩
    refine ⟨_, rfl, _, rfl, a, ns, n, rfl, ha, fun c => ?_⟩
    refine ⟨_, rfl, _, _, rfl, rfl, (show (0 : Int) < _ by decide), rfl, _, rfl, ?_⟩
    refine eP (fun c1 => ?_) (fun c1 => ?_)
    · exact ⟨_, rfl, _, _, rfl, rfl, ⟨by decide, by decide⟩, sz1 _, fun t ht => k t _ ht⟩
    · refine ⟨_, rfl, _, rfl, _, _, rfl, rfl, (show (0 : Int) < _ by decide), _, _, rfl, rfl, .inr ⟨by decide, by decide⟩, _, rfl, _, _, rfl, rfl, .inl ⟨by decide, by decide⟩, _, _, rfl, rfl, _, _, rfl, rfl, _, rfl, _, _, rfl, rfl, (show (0 : Int) < _ by decide), ?_⟩
      have b0 : 0 <= ((c % 2305843009213693951 * 48271 + 69621 * (n : Int) + 11) % 2305843009213693951 : Int) /\ ((c % 2305843009213693951 * 48271 + 69621 * (n : Int) + 11) % 2305843009213693951 : Int) < 2305843009213693951 := ⟨Int.emod_nonneg _ (by decide), Int.emod_lt_of_pos _ (by decide)⟩
      refine ⟨18, rfl, by decide, by decide, dP (lo := 0) (n := 18) (fun i σ H2 => (∃ nu la v6, σ = [some (.ref a), some (.int n), some (.int c), some (.int 2305843009213693951), some (.int nu), some (.int la), v6] /\ 0 <= la /\ la < 2305843009213693951) /\ H2 = H) ⟨⟨0, _, none, rfl, b0.1, b0.2⟩, rfl⟩ ?_ ?_⟩
      · rintro i σ H2 hi ⟨⟨nu, la, v6, rfl, h0, h1⟩, rfl⟩
        refine ⟨_, rfl, _, rfl, _, _, rfl, rfl, .inr ⟨by decide, by decide⟩, _, rfl, _, _, rfl, rfl, ?_⟩
        refine ⟨_, rfl, _, rfl, _, _, rfl, rfl, .inl ⟨by omega, by omega⟩, _, rfl, _, _, rfl, rfl, .inl ⟨by decide, by decide⟩, _, _, rfl, rfl, _, rfl, _, _, rfl, rfl, _, rfl, _, _, rfl, rfl, (show (0 : Int) < _ by decide), ?_⟩
        exact ⟨⟨_, _, _, rfl, Int.emod_nonneg _ (by decide), Int.emod_lt_of_pos _ (by decide)⟩, rfl⟩
      · rintro σ H2 ⟨⟨nu, la, v6, rfl, h0, h1⟩, rfl⟩
        exact ⟨_, rfl, sz1 _, fun t ht => k t _ ht⟩
def sB (K : PySem.W.Frag) : Sp := fun vs H Q _ => ∃ (t a : Addr) (ns : List Int) (m : Int), vs = [.ref t, .int m] /\ gQ K H t a ns /\ 0 < m /\ m < 1267650600228229401496703205376 /\ ∀ r H', 0 <= r -> r < m -> But t H H' -> gQ K H' t a ns -> Q (.int r) H'
theorem uC : FnScope ["tape", "many", "found"] ["tape", "many"] (aF mZ) := ⟨rfl, rfl, rfl, by decide +kernel, rfl, by decide +kernel, by decide +kernel⟩
theorem aBb {f : Addr} {fd : FuncData} (G : Fn K mg "_law_adigit" mZ ["tape", "many"] f fd) (B : Bl mg) : FnOk P w K mg base CX0 1 f fd ["tape", "many"] (sB K) := by
  refine G.fn.ok uC (fun vs H Q E h => ?_) (fun cdv A outer s H vs Q E hr h => ?_)
  · obtain ⟨t, a, ns, m, rfl, _⟩ := h
    rfl
  · obtain ⟨t, a, ns, m, rfl, ⟨q, ht⟩, hm1, hm2, k⟩ := h
    refine ⟨_, (aD (aQ (i := 2) uC.nd rfl (Or.inl rfl) (bX nS (bD fP (pv 0) aK (fun _ _ => rfl)) (pv 1)))
    (aD (iK (bX aAA (bD fP (pv 0) aK (fun _ _ => rfl)) (pv 1)) (uV (pv 0) aK nY))
    (aG (aP (pv 2))))), ?_⟩
    refine ⟨_, rfl, t, _, 0, .int q, rfl, rfl, SqL.of ht, rfl, _, rfl, _, _, rfl, rfl, hm1, ?_⟩
    refine ⟨_, rfl, t, _, 0, .int q, rfl, rfl, SqL.of ht, rfl, _, rfl, _, _, rfl, rfl, ⟨hm1, hm2⟩, _, rfl, t, _, 0, 0, rfl, rfl, ht, rfl, ?_⟩
    exact ⟨_, rfl, k _ _ (Int.emod_nonneg _ (by omega)) (Int.emod_lt_of_pos _ hm1) But.at ⟨_, aC⟩⟩
end
end Ab
set_option Elab.async false
set_option linter.all false
set_option maxRecDepth 100000
namespace Ab
open PySem L2
theorem uD (n : Int) : ∀ (l : List Int) (last : Int), (∀ x ∈ l, last < x) -> l.Pairwise (· < ·) -> (∀ x ∈ l, x < n) -> cX n last (l.map .int) = true
  | [], _, _, _, _ => rfl
  | x :: r, last, h1, h2, h3 => by
    rw [List.map_cons, gD]
    have h2' := List.pairwise_cons.mp h2
    rw [decide_eq_true (h1 x (List.mem_cons_self ..)), decide_eq_true (h3 x (List.mem_cons_self ..)), uD n r x h2'.1 h2'.2 (fun y hy => h3 y (List.mem_cons_of_mem _ hy))]
    rfl
theorem sC {n : Int} {l : List Int} (h0 : l ≠ []) (h1 : ∀ x ∈ l, 0 <= x /\ x < n) (h2 : l.Pairwise (· < ·)) : cJ n (cH l) = true := by
  have e : cJ n (cH l) = (!(l.map PyData.int).isEmpty && cX n (-1) (l.map .int)) := rfl
  rw [e, uD n l (-1) (fun x hx => by have := (h1 x hx).1; omega) h2 (fun x hx => (h1 x hx).2)]
  cases l with
  | nil => exact absurd rfl h0
  | cons _ _ => rfl
theorem mO (n : Int) : ∀ (l : List Int) (last : Int), cX n last (l.map .int) = true -> l.Pairwise (· < ·) /\ ∀ x ∈ l, last < x /\ x < n
  | [], _, _ => ⟨.nil, fun _ h => by cases h⟩
  | x :: r, last, h => by
    rw [List.map_cons, gD, Bool.and_eq_true, Bool.and_eq_true] at h
    obtain ⟨⟨h1, h2⟩, h3⟩ := h
    have h1 := of_decide_eq_true h1
    have h2 := of_decide_eq_true h2
    obtain ⟨i1, i2⟩ := mO n r x h3
    refine ⟨List.pairwise_cons.mpr ⟨fun y hy => (i2 y hy).1, i1⟩, fun y hy => ?_⟩
    rcases List.mem_cons.mp hy with rfl | hy
    · exact ⟨h1, h2⟩
    · exact ⟨by have := (i2 y hy).1; omega, (i2 y hy).2⟩
theorem cG {n : Int} {l : List Int} (h : cJ n (cH l) = true) : l ≠ [] /\ (∀ x ∈ l, 0 <= x /\ x < n) /\ l.Pairwise (· < ·) := by
  have e : (!(l.map PyData.int).isEmpty && cX n (-1) (l.map .int)) = true := h
  rw [Bool.and_eq_true] at e
  obtain ⟨h1, h2⟩ := mO n l (-1) e.2
  refine ⟨fun z => by rw [z] at e; simp at e, fun x hx => ⟨by have := (h2 x hx).1; omega, (h2 x hx).2⟩, h1⟩
theorem oU {n : Int} : ∀ (l : List Int) (lo : Int), lo <= n -> (∀ x ∈ l, lo <= x /\ x < n) -> l.Pairwise (· < ·) -> (l.length : Int) <= n - lo
  | [], lo, h, _, _ => by simp; omega
  | x :: r, lo, h, h1, h2 => by
    have h2' := List.pairwise_cons.mp h2
    have hx := h1 x (List.mem_cons_self ..)
    have := oU r (x + 1) (by omega) (fun y hy => ⟨by have := h2'.1 y hy; omega, (h1 y (List.mem_cons_of_mem _ hy)).2⟩) h2'.2
    rw [List.length_cons]
    omega
theorem iT {n : Int} {l : List Int} (hn : 0 <= n) (h1 : ∀ x ∈ l, 0 <= x /\ x < n) (h2 : l.Pairwise (· < ·)) : (l.length : Int) <= n := by
  have := oU l 0 hn h1 h2
  omega
end Ab
set_option Elab.async false
set_option linter.all false
set_option maxRecDepth 100000
namespace Ab
open PySem L2
section
variable {P : Program} {w : World} {K : PySem.W.Frag} {mg : Str -> Option Value} {base : Heap}
theorem jM : ∀ (a b : List Int), PyData.eqvAll (a.map .int) (b.map .int) = decide (a = b)
  | [], [] => by simp [PyData.eqvAll]
  | [], _ :: _ => by simp [PyData.eqvAll]
  | _ :: _, [] => by simp [PyData.eqvAll]
  | x :: r, y :: s => by
    rw [List.map_cons, List.map_cons, PyData.eqvAll, jM r s, PyData.eqv]
    by_cases h : x = y
    · by_cases h2 : r = s
      · simp [h, h2]
      · simp [h, h2]
    · simp [h]
theorem mD (a b : List Int) : PyData.eqv (.list (a.map .int)) (.list (b.map .int)) = decide (a = b) := by rw [PyData.eqv, jM]
theorem jQ (a b : List Int) : PyData.eqv (.tuple (a.map .int)) (.tuple (b.map .int)) = decide (a = b) := by rw [PyData.eqv, jM]
theorem oV {h : Int} {l : List Int} : eV (.int h) l = true ↔ h ∈ l := by
  show (l.any (· == h)) = true ↔ _
  rw [List.any_eq_true]
  constructor
  · rintro ⟨x, hx, e⟩
    have : x = h := by simpa using e
    exact this ▸ hx
  · exact fun hx => ⟨h, hx, by simp⟩
theorem fV {ws : List (List Int)} {hs : List Int} (h1 : hs.length = ws.length) (h2 : ∀ (j : Nat) (h : Int) (l : List Int), hs[j]? = some h -> ws[j]? = some l -> h ∈ l) : aZ ws (aY hs) = true := by
  show (decide ((hs.map PyData.int).length = ws.length) && ((hs.map PyData.int).zip ws).all fun p => eV p.1 p.2) = true
  rw [List.length_map, decide_eq_true h1, Bool.true_and, List.all_eq_true]
  rintro ⟨d, l⟩ hm
  obtain ⟨j, hj⟩ := List.mem_iff_getElem?.mp hm
  rw [List.getElem?_zip_eq_some] at hj
  obtain ⟨hj1, hj2⟩ := hj
  have hj1 : (hs.map PyData.int)[j]? = some d := hj1
  have hj2 : ws[j]? = some l := hj2
  rw [List.getElem?_map] at hj1
  cases q : hs[j]? with
  | none => rw [q] at hj1; cases hj1
  | some h =>
    rw [q] at hj1
    obtain rfl : PyData.int h = d := Option.some.inj hj1
    exact oV.mpr (h2 j h l q hj2)
theorem aJ {ws : List (List Int)} {hs : List Int} (h : aZ ws (aY hs) = true) : hs.length = ws.length /\ ∀ (j : Nat) (h : Int) (l : List Int), hs[j]? = some h -> ws[j]? = some l -> h ∈ l := by
  have h' : (decide ((hs.map PyData.int).length = ws.length) && ((hs.map PyData.int).zip ws).all fun p => eV p.1 p.2) = true := h
  rw [List.length_map, Bool.and_eq_true, List.all_eq_true] at h'
  refine ⟨of_decide_eq_true h'.1, fun j h l hj hl => ?_⟩
  refine oV.mp (h'.2 (.int h, l) (List.mem_of_getElem? (i := j) ?_))
  rw [List.getElem?_zip_eq_some]
  exact ⟨by rw [List.getElem?_map, hj]; rfl, hl⟩
theorem nF {n : Int} {ws : List (List Int)} (h1 : 1 <= n) (h2 : n <= 6) (h3 : ws.length <= 12) (h4 : ∀ l ∈ ws, cJ n (cH l) = true) : bQ (bO n ws) = true := by
  show (decide (1 <= n) && decide (n <= 6) && decide ((ws.map cH).length <= 12) && (ws.map cH).all (cJ n)) = true
  rw [decide_eq_true h1, decide_eq_true h2, List.length_map, decide_eq_true h3, Bool.true_and, Bool.true_and, Bool.true_and, List.all_eq_true]
  intro d hd
  obtain ⟨l, hl, rfl⟩ := List.mem_map.mp hd
  exact h4 l hl
theorem jR {H : Hp} {n : Int} {ws : List (List Int)} {a b : Addr} {ys : List V} (h1 : SqT K H a [.int n, .ref b]) (h2 : SqT K H b ys) (h3 : aR K H (ws.map cH) ys) : Den K H (bO n ws) (.ref a) :=
  cK.mpr ⟨a, _, rfl, h1, aS.mpr ⟨_, _, rfl, eI.mpr rfl, aS.mpr ⟨_, _, rfl, cK.mpr ⟨b, ys, rfl, h2, h3⟩, bB.mpr rfl⟩⟩⟩
def xS (K : PySem.W.Frag) : Sp := fun vs H Q _ => ∃ (t a : Addr) (ns : List Int) (hm wm : Int), vs = [.ref t, .int hm, .int wm] /\ gQ K H t a ns /\ 1 <= hm /\ hm <= 6 /\ 0 <= wm /\ wm <= 12 /\ ∀ n ws p H', bQ (bO n ws) = true -> (ws.length : Int) <= wm -> But t H H' -> gQ K H' t a ns -> Den K H' (bO n ws) (.ref p) -> Q (.ref p) H'
theorem iU : FnScope ["tape", "hands", "works", "n", "often", "found", "k", "able"] ["tape", "hands", "works"] (aF oQ) := ⟨rfl, rfl, rfl, by decide +kernel, rfl, by decide +kernel, by decide +kernel⟩
theorem aBc {f fD : Addr} {fd fdD : FuncData} (G : Fn K mg "_law_abook" oQ ["tape", "hands", "works"] f fd) (B : Bl mg) (GD : Fn K mg "_law_adigit" mZ ["tape", "many"] fD fdD) (OD : FnOk P w K mg base CX0 1 fD fdD ["tape", "many"] (sB K)) : FnOk P w K mg base CX0 2 f fd ["tape", "hands", "works"] (xS K) := by
  refine G.fn.ok iU (fun vs H Q E h => ?_) (fun cdv A outer s H vs Q E hr h => ?_)
  · obtain ⟨t, a, ns, hm, wm, rfl, _⟩ := h
    rfl
  · obtain ⟨t, a, ns, hm, wm, rfl, hT, hh1, hh6, hw0, hw12, k⟩ := h
    have r1 : Room 1 _ := hr
    refine ⟨_, (aD (aQ (i := 3) iU.nd rfl (Or.inl rfl) (bX gI aK (aV GD OD r1 rfl (aA (pv 0) (aA (pv 1) aB)))))
    (aD (aQ (i := 4) iU.nd rfl (Or.inr rfl) (bX gI aK (aV GD OD r1 rfl (aA (pv 0) (aA aK aB)))))
    (aD (aQ (i := 5) iU.nd rfl (Or.inl rfl) (eS aB))
    (aD (eR PassesOwn.never rfl (bT rfl B.range (aA (aV GD OD r1 rfl (aA (pv 0) (aA (bX gI (pv 2) aK) aB))) aB)) (aL (i := 6) iU.nd rfl (Or.inl rfl))
      (aD (oB (i := 7) (own := ["hand"]) (fr := [4, 0]) (frn := ["often", "tape"]) (bI (aF oQ) ["tape", "hands", "works", "n", "often", "found", "k", "able"] rfl rfl (by decide +kernel)) rfl iU.nd rfl rfl rfl (bT rfl B.range (aA (pv 3) aB))
        (fun _ _ _ _ => (aL (i := 0) (show (["hand", "often", "tape"] : List Str).Nodup by decide +kernel) rfl (Or.inl rfl))) (fun _ _ _ _ => vI (bH wU (aV GD OD r1 rfl (aA (pv 2) (aA aK aB))) (pv 1) (bN _)))
        (fun _ _ _ _ => (pv 0)))
    (aD (cL (bH (vJ hr.u64) (pv 7) (eS aB) (bN _))
      (aG (aQ (i := 7) iU.nd rfl (Or.inl rfl) (eS (aA (aV GD OD r1 rfl (aA (pv 0) (aA (pv 3) aB))) aB))))
      bE)
    (aG (eQ (mJ PySem.F.plainAttrs_list PySem.F.slot_list_append PySem.F.type_list_append hV (pv 5) (aA (cE bS rfl B.tuple cR (aA (pv 7) aB)) aB)))))))
    (aG (aP (gC (aA (pv 3) (aA (cE bS rfl B.tuple cR (aA (pv 5) aB)) aB))))))))), ?_⟩
    refine ⟨_, rfl, _, rfl, t, a, ns, hm, rfl, hT, by omega, by omega, fun r H1 hr0 hr1 b1 T1 => ⟨_, _, rfl, rfl, ?_⟩⟩
    refine ⟨_, rfl, t, a, ns, 4, rfl, T1, by decide, by decide, fun kd H2 hk0 hk1 b2 T2 => ⟨_, _, rfl, rfl, ?_⟩⟩
    refine ⟨eN (Nat.zero_le _), fun fl hfl => ?_⟩
    have ntf : t ≠ fl := fun z => T2.ne hfl z.symm
    have s3 := aE.new (o := .lst []) hfl
    have hfl0 : H fl = none := (b1.trans b2).free hfl (Ne.symm ntf)
    have T3 := T2.same s3
    have b03 := b1.trans (b2.trans (But.of s3))
    have hfl3 : upd H2 fl (.lst []) fl = some (.lst []) := aC
    generalize hH3 : upd H2 fl (.lst []) = H3 at T3 b03 hfl3 ⊢
    refine ⟨_, rfl, _, rfl, _, _, rfl, rfl, t, a, ns, wm + 1, rfl, T3, by omega, by omega, fun m H4 hm0 hm1 b4 T4 => ?_⟩
    refine ⟨m, rfl, by omega, by omega, dP (lo := 0) (n := m.toNat) (fun i σ H5 => ∃ (ws : List (List Int)) (xs : List V) (v v2 : Option V), σ = [some (.ref t), some (.int hm), some (.int wm), some (.int (1 + r)), some (.int (1 + kd)), some (.ref fl), v, v2] /\ ws.length = i /\
      (∀ l ∈ ws, cJ (1 + r) (cH l) = true) /\ H5 fl = some (.lst xs) /\ aR K H5 (ws.map cH) xs /\ But t H H5 /\ gQ K H5 t a ns)
      ⟨[], [], none, none, rfl, rfl, fun _ h => (List.not_mem_nil h).elim, b4 fl _ (Ne.symm ntf) hfl3, bB.mpr rfl, b03.trans b4, T4⟩ ?_ ?_⟩
    · rintro i σ H5 hi ⟨ws, xs, v, v2, rfl, hl, hw, hx, hd, b5, T5⟩
      have hxl : xs.length = i := by rw [aW hd, List.length_map, hl]
      have next : ∀ (l : List Int) (p : Addr) (H7 : Hp), cJ (1 + r) (cH l) = true -> But t H5 H7 -> gQ K H7 t a ns -> SqT K H7 p (l.map V.int) ->
          ∃ xs', H7 fl = some (.lst xs) /\ xs' = xs ++ [.ref p] /\ (∀ l2 ∈ ws ++ [l], cJ (1 + r) (cH l2) = true) /\ aR K (upd H7 fl (.lst xs')) ((ws ++ [l]).map cH) xs' /\ But t H (upd H7 fl (.lst xs')) /\ gQ K (upd H7 fl (.lst xs')) t a ns := by
        intro l p H7 hwk b7 T7 hp7
        have hx7 : H7 fl = some (.lst xs) := b7 fl _ (Ne.symm ntf) hx
        have hd7 := T5.denAll b7 (gA _ gW ws) hd
        have b8 : But fl H7 (upd H7 fl (.lst (xs ++ [.ref p]))) := But.at
        refine ⟨_, hx7, rfl, fun l2 hl2 => ?_, ?_, fun b o nb hb => ?_, T7.wr b8 ntf⟩
        · rcases List.mem_append.mp hl2 with h | h
          · exact hw l2 h
          · rw [List.mem_singleton.mp h]; exact hwk
        · rw [List.map_append]
          exact eA (b8.denAll hx7 _ _ (gA _ gW ws) hd7) (aS.mpr ⟨_, _, rfl, aO.mpr ⟨p, rfl, b8.seqT hx7 hp7⟩, bB.mpr rfl⟩)
        · rw [aH (fun z => by rw [z, hfl0] at hb; cases hb)]
          exact (b5.trans b7) b o nb hb
      refine ⟨_, rfl, 1 + r, rfl, by omega, by omega, fM (lo := 0) (n := (1 + r).toNat) (fun σ => ∃ v, σ = [v, some (.int (1 + kd)), some (.ref t)]) (fun j ys H6 => ∃ l : List Int, ys = l.map V.int /\ l.Pairwise (· < ·) /\ (∀ x ∈ l, 0 <= x /\ x < j) /\ But t H5 H6 /\ gQ K H6 t a ns) (eN (by omega)) ⟨none, rfl⟩
        ⟨[], rfl, .nil, fun _ h => (List.not_mem_nil h).elim, But.refl t H5, T5⟩ ?_ ?_ ?_⟩
      · rintro j ys H6 ⟨l, rfl, h1, h2, _⟩
        rw [List.length_map]
        have := iT (n := (j : Int)) (by omega) h2 h1
        omega
      · rintro j ys σ H6 hj ⟨v, rfl⟩ ⟨l, rfl, h1, h2, b6, T6⟩ hz
        refine ⟨_, rfl, t, a, ns, 5, rfl, T6, by decide, by decide, fun r7 H7 _ _ b7 T7 => ⟨_, rfl, _, _, rfl, rfl, _, rfl, ?_⟩⟩
        refine eP (fun c => ?_) (fun c => ?_)
        · refine ⟨_, rfl, hz, ⟨_, rfl⟩, l ++ [(j : Int)], by simp, List.pairwise_append.mpr ⟨h1, by simp, fun x hx y hy => ?_⟩, fun x hx => ?_, b6.trans b7, T7⟩
          · rw [List.mem_singleton.mp hy]; exact (h2 x hx).2
          · rcases List.mem_append.mp hx with hx | hx
            · have := h2 x hx; omega
            · rw [List.mem_singleton.mp hx]; omega
        · refine ⟨⟨_, rfl⟩, l, rfl, h1, fun x hx => ?_, b6.trans b7, T7⟩
          have := h2 x hx; omega
      · rintro ys H6 ⟨l, rfl, h1, h2, b6, T6⟩ ap hap
        have hapt : ap ≠ t := T6.ne hap
        have s7 := aE.new (o := .lst (l.map V.int)) hap
        have e7 : upd H6 ap (.lst (l.map V.int)) ap = some (.lst (l.map V.int)) := aC
        have b7 := b6.trans (But.of (t := t) s7)
        have T7 := T6.same s7
        generalize upd H6 ap (.lst (l.map V.int)) = H7 at s7 e7 b7 T7 ⊢
        refine ⟨_, rfl, eN (Nat.zero_le _), fun z hz => ?_⟩
        have s8 := aE.new (o := .lst []) hz
        refine ⟨.list (l.map .int), .list (([] : List Int).map .int), gE.mpr ⟨ap, rfl, s8.seqL (SqL.of e7)⟩, gE.mpr ⟨z, rfl, SqL.of aC⟩, dO _, dO _, eO _, eO _, _, rfl, ?_⟩
        rw [mD]
        have e8 := s8 _ _ e7
        have b8 := b7.trans (But.of (t := t) s8)
        have T8 := T7.same s8
        generalize upd H7 z (.lst []) = H8 at e8 b8 T8 ⊢
        by_cases hln : l = []
        · rw [decide_eq_true hln]
          refine iO ?_
          refine ⟨_, rfl, _, rfl, t, a, ns, 1 + r, rfl, T8, by omega, by omega, fun r9 H9 h90 h91 b9 T9 => ⟨sz1 _, fun l9 hl9 => ?_⟩⟩
          have s10 := aE.new (o := .lst [.int r9]) hl9
          have b10 := b8.trans (b9.trans (But.of s10))
          have T10 := T9.same s10
          have e10 : upd H9 l9 (.lst [.int r9]) l9 = some (.lst [.int r9]) := aC
          generalize upd H9 l9 (.lst [.int r9]) = H10 at b10 T10 e10 ⊢
          have hx10 := b10 fl _ (Ne.symm ntf) hx
          refine ⟨_, rfl, .inl ⟨rfl, _, SqL.of hx10⟩, _, rfl, l9, _, rfl, .inl ⟨SqL.of e10, fun q hq => ?_⟩⟩
          have s11 := aE.new (o := .tup [.int r9]) hq
          obtain ⟨xs', n1, n2, n3, n4, n5, n6⟩ := next [r9] q _ (sC (by simp) (fun y hy => by rw [List.mem_singleton.mp hy]; omega) (by simp)) (b10.trans (But.of s11)) (T10.same s11) (SqT.of aC)
          subst n2
          exact ⟨fl, xs, .ref q, rfl, rfl, n1, by rw [sizeLine_eq]; omega, ws ++ [[r9]], _, _, _, rfl, by rw [List.length_append, hl]; rfl, n3, aC, n4, n5, n6⟩
        · rw [decide_eq_false hln]
          refine iN ?_
          have hx8 := b8 fl _ (Ne.symm ntf) hx
          refine ⟨_, rfl, .inl ⟨rfl, _, SqL.of hx8⟩, _, rfl, ap, _, rfl, .inl ⟨SqL.of e8, fun q hq => ?_⟩⟩
          have s11 := aE.new (o := .tup (l.map V.int)) hq
          obtain ⟨xs', n1, n2, n3, n4, n5, n6⟩ := next l q _ (sC hln (fun y hy => by have := h2 y hy; omega) h1) (b8.trans (But.of s11)) (T8.same s11) (SqT.of aC)
          subst n2
          exact ⟨fl, xs, .ref q, rfl, rfl, n1, by rw [sizeLine_eq]; omega, ws ++ [l], _, _, _, rfl, by rw [List.length_append, hl]; rfl, n3, aC, n4, n5, n6⟩
    · rintro σ H5 ⟨ws, xs, v, v2, rfl, hl, hw, hx, hd, b5, T5⟩
      refine ⟨_, rfl, _, rfl, fl, _, rfl, .inl ⟨SqL.of hx, fun q hq => ⟨sz2 _ _, fun p hp => ?_⟩⟩⟩
      have sm := (aE.new (o := .tup xs) hq).trans (aE.new (o := .tup [.int (1 + r), .ref q]) hp)
      refine k (1 + r) ws p _ (nF (by omega) (by omega) (by omega) hw) (by omega) (b5.trans (But.of sm)) (T5.same sm) ?_
      refine jR (SqT.of aC) ((aE.new hp).seqT (SqT.of aC)) (sm.denAll _ _ hd)
end
end Ab
set_option Elab.async false
set_option linter.all false
set_option maxRecDepth 100000
namespace Ab
open PySem L2
section
variable {P : Program} {w : World} {K : PySem.W.Frag} {mg : Str -> Option Value} {base : Heap}
theorem dQ.hand {H : Hp} {x y : V} {n : Int} {ws : List (List Int)} {hs : List Int} (g : dQ K H x y n ws hs) {i : Nat} {h : Int} (e : hs[i]? = some h) : 0 <= h /\ h < n := by
  obtain ⟨_, _, _, hw⟩ := bJ g.2.1
  obtain ⟨hl, hd⟩ := aJ g.2.2.2
  have hi : i < ws.length := by rw [<- hl]; exact (List.getElem?_eq_some_iff.mp e).1
  have hm := hd i h ws[i] e (List.getElem?_eq_getElem hi)
  exact (cG (hw _ (List.getElem_mem hi))).2.1 h hm
end
end Ab
set_option Elab.async false
set_option linter.all false
set_option maxRecDepth 100000
namespace Ab
open PySem L2
theorem bV {n : Int} {hs : List Int} {j : Nat} (h : j < n.toNat) : (aI n hs)[j]? = some ((hs.count (j : Int) : Nat) : Int) := by
  unfold aI
  rw [List.getElem?_map, tW h]
  rfl
theorem oW {n : Int} {hs : List Int} {j : Nat} (h : n.toNat <= j) : (aI n hs)[j]? = none := by
  rw [List.getElem?_eq_none_iff, aN]; exact h
theorem vY (n : Int) : (List.replicate n.toNat [V.int 0]).flatten = (aI n []).map V.int := by
  rw [List.flatten_replicate_singleton]
  refine List.ext_getElem? fun j => ?_
  rw [List.getElem?_map]
  by_cases h : j < n.toNat
  · rw [bV h, List.getElem?_replicate, if_pos h]
    rfl
  · rw [oW (by omega), List.getElem?_replicate, if_neg h]
    rfl
theorem uE {n : Int} {hs : List Int} {h : Int} (h0 : 0 <= h) (h1 : h < n) : ((aI n hs).map V.int).set h.toNat (.int (((hs.count h : Nat) : Int) + 1)) = (aI n (hs ++ [h])).map V.int := by
  refine List.ext_getElem? fun j => ?_
  by_cases hj : j < n.toNat
  · rw [List.getElem?_map, bV hj, List.count_append, List.getElem?_set]
    have hl : ((aI n hs).map V.int).length = n.toNat := by rw [List.length_map, aN]
    by_cases e : h.toNat = j
    · have e' : (j : Int) = h := by omega
      rw [if_pos e, if_pos (by rw [hl]; omega), e', List.count_singleton]
      simp
    · have e' : ¬ h = (j : Int) := by omega
      rw [if_neg e, List.getElem?_map, bV hj, List.count_singleton]
      simp [e']
  · rw [List.getElem?_map, oW (by omega), List.getElem?_eq_none_iff.mpr]
    · rfl
    · rw [List.length_set, List.length_map, aN]; omega
section
variable {P : Program} {w : World} {K : PySem.W.Frag} {mg : Str -> Option Value} {base : Heap}
end
end Ab
set_option Elab.async false
set_option linter.all false
set_option maxRecDepth 100000
namespace Ab
open PySem L2
def eX (ws : List (List Int)) (hs : List Int) : List Int -> Bool
  | [k, g, t] => decide (0 <= k) && (decide (k < hs.length) && (hs[k.toNat]? == some g && (!decide (t = g) && decide (t ∈ ws.getD k.toNat []))))
  | _ => false
def iV (st : List Int) : Int := st.getD 1 0
def oX (st : List Int) : Int := st.getD 2 0
def bK : List (List Int) -> List Int
  | [] => []
  | s :: r => iV s :: (s :: r).map oX
def nG (L : List (List Int)) : Bool := (L.zip (bK L)).all fun p => iV p.1 == p.2
def oY (ws : List (List Int)) (hs : List Int) (L : List (List Int)) : Bool := !L.isEmpty && (L.all (eX ws hs) && (nG L && decide ((bK L).Nodup)))
theorem qS {ws : List (List Int)} {hs : List Int} {st : List Int} (h : eX ws hs st = true) : ∃ k g t, st = [k, g, t] := by
  match st, h with
  | [k, g, t], _ => exact ⟨k, g, t, rfl⟩
theorem zN {ws : List (List Int)} {hs : List Int} {st : List Int} (h : st.length ≠ 3) : eX ws hs st = false := by
  match st, h with
  | [], _ => rfl
  | [_], _ => rfl
  | [_, _], _ => rfl
  | [_, _, _], h => exact absurd rfl h
  | _ :: _ :: _ :: _ :: _, _ => rfl
theorem aEo {st : List Int} (h : st.length = 3) : ∃ k g t, st = [k, g, t] := by
  match st, h with
  | [k, g, t], _ => exact ⟨k, g, t, rfl⟩
section
variable {P : Program} {w : World} {K : PySem.W.Frag} {mg : Str -> Option Value} {base : Heap}
theorem iW {H : Hp} {ws : List (List Int)} {ys : List V} (h : aR K H (ws.map cH) ys) {i : Nat} {l : List Int} (e : ws[i]? = some l) : ∃ c, ys[i]? = some (.ref c) /\ SqT K H c (l.map V.int) := by
  have hl := aW h
  rw [List.length_map] at hl
  have hi : i < ys.length := by rw [hl]; exact (List.getElem?_eq_some_iff.mp e).1
  obtain ⟨d, e1, e2⟩ := fJ h (List.getElem?_eq_getElem hi)
  rw [List.getElem?_map, e] at e1
  obtain rfl := (Option.some.inj e1).symm
  obtain ⟨c, e3, e4⟩ := aO.mp e2
  exact ⟨c, by rw [List.getElem?_eq_getElem hi, e3], e4⟩
theorem aBd {l : List Int} {k : Int} {x : Int} (h0 : 0 <= k) (h : l[k.toNat]? = some x) : atI (l.map V.int) k = some (.int x) := by
  have h1 : (l.map V.int)[k.toNat]? = some (.int x) := by rw [List.getElem?_map, h]; rfl
  have h2 := cQ h1
  rwa [Int.toNat_of_nonneg h0] at h2
theorem aDa {l : List V} {k : Int} {x : V} (h0 : 0 <= k) (h : l[k.toNat]? = some x) : atI l k = some x := by
  have h2 := cQ h
  rwa [Int.toNat_of_nonneg h0] at h2
variable {fW fH fK fB fNB fD fND fL : Addr} {dW dH dK dB dNB dD dND dL : FuncData}
def aBe (K : PySem.W.Frag) : Sp := fun vs H Q _ => ∃ x y b n ws hs l, vs = [x, y, .ref b] /\ dQ K H x y n ws hs /\ SqT K H b (l.map V.int) /\ l.length <= 1000 /\ ∀ H', aE H H' -> Q (.bl (eX ws hs l)) H'
theorem sD : FnScope ["book", "deal", "step", "work", "giver", "taker"] ["book", "deal", "step"] (aF qO) := ⟨rfl, rfl, rfl, by decide +kernel, rfl, by decide +kernel, by decide +kernel⟩
theorem aBf {ws : List (List Int)} {hs : List Int} {k g t : Int} {h : Int} {l : List Int} (k0 : 0 <= k) (k1 : k < hs.length) (eh : hs[k.toNat]? = some h) (el : ws[k.toNat]? = some l) : eX ws hs [k, g, t] = (decide (V.int h = V.int g) && (!decide (V.int t = V.int g) && l.any (· == t))) := by
  show (decide (0 <= k) && (decide (k < hs.length) && (hs[k.toNat]? == some g && (!decide (t = g) && decide (t ∈ ws.getD k.toNat []))))) = _
  rw [decide_eq_true k0, decide_eq_true k1, eh]
  have e1 : ws.getD k.toNat [] = l := by rw [List.getD_eq_getElem?_getD, el]; rfl
  rw [e1]
  have e2 : (some h == some g) = decide (V.int h = V.int g) := by
    by_cases z : h = g
    · subst z; simp
    · rw [decide_eq_false (fun q => z (V.int.inj q))]; simpa using z
  have e3 : decide (t = g) = decide (V.int t = V.int g) := by
    by_cases z : t = g
    · subst z; simp
    · rw [decide_eq_false z, decide_eq_false (fun q => z (V.int.inj q))]
  have e4 : decide (t ∈ l) = l.any (· == t) := by
    rw [Bool.eq_iff_iff, decide_eq_true_iff, List.any_eq_true]
    constructor
    · intro h; exact ⟨t, h, by simp⟩
    · rintro ⟨y, hy, e⟩; have : y = t := by simpa using e
      rw [<- this]; exact hy
  rw [e2, e3, e4]
  rfl
theorem aCe {f : Addr} {fd : FuncData} (G : Fn K mg "is_step" qO ["book", "deal", "step"] f fd) (B : Bl mg) (R : Pr K mg fW fH fK fB fNB fD fND fL dW dH dK dB dNB dD dND dL) : FnOk P w K mg base CX0 2 f fd ["book", "deal", "step"] (aBe K) := by
  have OW : FnOk P w K mg base CX0 1 fW dW ["thing"] (lB K) := lC R.W B
  refine G.fn.ok sD (fun vs H Q E h => ?_) (fun cdv A outer s H vs Q E hr h => ?_)
  · obtain ⟨x, y, b, n, ws, hs, l, rfl, _⟩ := h
    rfl
  · obtain ⟨x, y, b, n, ws, hs, l, rfl, g, hb, hl, k⟩ := h
    have r1 : Room 1 _ := hr
    refine ⟨_, (aD (cL (PW.pt (jA (cY (dZ (aM cF rfl B.isinstance jB (aA (pv 2) (aA (eE (v := .ty "tuple") rfl B.tuple cR rfl) aB))))) (iJ (bH mI (aM aT rfl B.len eM (aA (pv 2) aB)) aK (bN _)))))
      (aG (aP dY))
      bE)
    (aD (cL (cY (dZ (aM (jH rfl) rfl B.all tU (aA (cM (own := ["part"]) (fr := []) (frn := []) (bI (aF qO) ["book", "deal", "step", "work", "giver", "taker"] rfl rfl (by decide +kernel)) rfl (iL (pv 2))
        (fun _ _ _ _ => (aL (i := 0) (show (["part"] : List Str).Nodup by decide +kernel) rfl (Or.inl rfl))) (fun _ _ _ _ => dJ)
        (fun _ _ _ _ => (aV R.W OW r1 rfl (aA (pv 0) aB)))) aB))))
      (aG (aP dY))
      bE)
    (aD (iK (pv 2) (gY rfl (bC (aL (i := 3) sD.nd rfl (Or.inl rfl)) (bC (aL (i := 4) sD.nd rfl (Or.inl rfl)) (bC (aL (i := 5) sD.nd rfl (Or.inl rfl)) eF)))))
    (aD (cL (cY (aAl wV wU aK (pv 3) (aM aT rfl B.len eM (aA (pv 1) aB))))
      (aG (aP dY))
      bE)
    (aG (aP (jF (gT nU (bD bF (pv 1) (pv 3) (fun _ _ => rfl)) (pv 4) (bN _)) (jF (gT mI (pv 5) (pv 4) (bN _)) (kH (gT hU (pv 5) (bD bF (bD bF (pv 0) aK (fun _ _ => rfl)) (pv 3) (fun _ _ => rfl)) (by with_unfolding_all rfl))))))))))), ?_⟩
    refine ⟨_, rfl, .ref b, .tup, rfl, .inr (.inl ⟨rfl, _, hb⟩), true, rfl, ?_⟩
    refine iN ?_
    refine ⟨_, rfl, b, _, rfl, .inr hb, rfl, _, rfl, ?_⟩
    refine eP (fun c => ?_) (fun c => ?_)
    · have hne : l.length ≠ 3 := fun z => by rw [List.length_map, z] at c; simp at c
      rw [zN hne] at k
      exact k H (aE.refl H)
    have h3 : l.length = 3 := by
      have : V.int ((l.map V.int).length : Nat) = V.int 3 := by simpa using c
      have := V.int.inj this
      rw [List.length_map] at this
      omega
    obtain ⟨wk, gv, tk, rfl⟩ := aEo h3
    refine ⟨_, rfl, b, rfl, ⟨_, hb⟩, hX (K := K) (a := b) (xs := [V.int wk, V.int gv, V.int tk]) (fun σ => σ.length = 1) (fun i ys H' => ys = (List.replicate i true).map V.bl /\ aE H H') (eN (show 3 <= 1000 by decide)) rfl ⟨rfl, aE.refl H⟩ (fun i ys H' p => by rw [p.1]; simp) (fun i ys H' p => p.2.seqT hb) (fun i ys σ x H' hx hσ p hz => ?_) (fun ys H' p => ?_)⟩
    · obtain ⟨v, rfl⟩ : ∃ v, σ = [v] := by match σ, hσ with | [v], _ => exact ⟨v, rfl⟩
      obtain ⟨q1, q2⟩ := p
      obtain ⟨m, rfl⟩ : ∃ m, x = .int m := by
        have hm := List.mem_of_getElem? hx
        simp only [List.mem_cons, List.not_mem_nil, or_false] at hm
        rcases hm with rfl | rfl | rfl
        · exact ⟨_, rfl⟩
        · exact ⟨_, rfl⟩
        · exact ⟨_, rfl⟩
      refine bU ?_
      refine ⟨_, rfl, .int m, .int m, rfl, eI.mpr rfl, hz, rfl, ?_, q2⟩
      rw [q1, List.replicate_succ', List.map_append]
      rfl
    · obtain ⟨rfl, s1⟩ := p
      intro p hp
      have s2 := aE.new (o := .lst ((List.replicate [V.int wk, V.int gv, V.int tk].length true).map V.bl)) hp
      refine ⟨p, List.replicate 3 true, rfl, SqL.of aC, _, rfl, ?_⟩
      refine iN ?_
      have s3 := s1.trans s2
      generalize upd H' p (.lst ((List.replicate [V.int wk, V.int gv, V.int tk].length true).map V.bl)) = H2 at s2 s3 ⊢
      refine ⟨_, rfl, b, _, rfl, s3.seqT hb, rfl, _, _, rfl, _, _, rfl, _, _, rfl, rfl, ?_⟩
      have g3 := g.same s3
      obtain ⟨hdl, hdg⟩ := aJ g.2.2.2
      obtain ⟨ba, bb, ys2, rfl, ha, hb2, hys⟩ := cW g3.1
      obtain ⟨c, rfl, hc⟩ := aO.mp g3.2.2.1
      refine ⟨_, rfl, _, _, rfl, rfl, _, rfl, ?_⟩
      by_cases k0 : 0 <= wk
      · rw [decide_eq_true k0]
        refine iO ?_
        refine ⟨_, rfl, c, _, rfl, .inr hc, _, _, rfl, rfl, _, rfl, ?_⟩
        rw [List.length_map]
        by_cases k1 : wk < hs.length
        · rw [decide_eq_true k1]
          refine iN ?_
          have hlt : wk.toNat < hs.length := by omega
          have eh := List.getElem?_eq_getElem hlt
          have el := List.getElem?_eq_getElem (l := ws) (i := wk.toNat) (by omega)
          obtain ⟨cw, e1, e2⟩ := iW hys el
          have sv := aBf (g := gv) (t := tk) k0 k1 eh el
          have kk := k H2 s3
          rw [sv] at kk
          refine ⟨_, rfl, _, rfl, c, _, _, _, rfl, rfl, hc, aBd k0 eh, _, rfl, rfl, _, rfl, ?_⟩
          refine eP (fun c1 => ?_) (fun c1 => ?_)
          · rw [c1] at kk
            refine ⟨_, rfl, _, rfl, rfl, _, rfl, ?_⟩
            refine eP (fun c2 => ?_) (fun c2 => ?_)
            · rw [c2] at kk
              refine ⟨_, rfl, _, rfl, ba, _, 1, .ref bb, rfl, rfl, ha, rfl, _, rfl, bb, _, _, _, rfl, rfl, hb2, aDa k0 e1, cw, _, rfl, .inr e2, rfl, iD _, ?_⟩
              rw [show inV (V.int tk) (ws[wk.toNat].map V.int) = _ from iS tk _]
              exact kk
            · rw [Bool.not_eq_true] at c2
              rw [c2] at kk
              exact kk
          · rw [Bool.not_eq_true] at c1
            rw [c1] at kk
            exact kk
        · rw [decide_eq_false k1]
          refine iO ?_
          have e : eX ws hs [wk, gv, tk] = false := by
            show (decide (0 <= wk) && (decide (wk < hs.length) && _)) = false
            rw [decide_eq_false k1]; simp
          rw [e] at k
          exact k H2 s3
      · rw [decide_eq_false k0]
        refine iN ?_
        refine ⟨_, rfl, ?_⟩
        refine iO ?_
        have e : eX ws hs [wk, gv, tk] = false := by
          show (decide (0 <= wk) && _) = false
          rw [decide_eq_false k0]; rfl
        rw [e] at k
        exact k H2 s3
end
end Ab
set_option Elab.async false
set_option linter.all false
set_option maxRecDepth 100000
namespace Ab
open PySem L2
theorem vZ {L : List (List Int)} (h : L ≠ []) : (bK L).length = L.length + 1 := by
  cases L with
  | nil => exact absurd rfl h
  | cons s r => simp [bK]
section
variable {P : Program} {w : World} {K : PySem.W.Frag} {mg : Str -> Option Value} {base : Heap}
variable {fW fH fK fB fNB fD fND fL : Addr} {dW dH dK dB dNB dD dND dL : FuncData}
def aCy (K : PySem.W.Frag) : Sp := fun vs H Q _ => ∃ x y p xs n ws hs L, vs = [x, y, .ref p] /\ dQ K H x y n ws hs /\ SqL K H p xs /\ aR K H (L.map cH) xs /\ L.length <= 30 /\ (∀ l ∈ L, l.length <= 1000) /\ ∀ H', aE H H' -> Q (.bl (oY ws hs L)) H'
theorem aBg : FnScope ["book", "deal", "some", "passed", "follow"] ["book", "deal", "some"] (aF vU) := ⟨rfl, rfl, rfl, by decide +kernel, rfl, by decide +kernel, by decide +kernel⟩
theorem aDb {f fS : Addr} {fd dS : FuncData} (G : Fn K mg "is_way" vU ["book", "deal", "some"] f fd) (B : Bl mg) (R : Pr K mg fW fH fK fB fNB fD fND fL dW dH dK dB dNB dD dND dL) (GS : Fn K mg "is_step" qO ["book", "deal", "step"] fS dS) : FnOk P w K mg base CX0 7 f fd ["book", "deal", "some"] (aCy K) := by
  have OS : FnOk P w K mg base CX0 2 fS dS ["book", "deal", "step"] (aBe K) := aCe GS B R
  have OND : FnOk P w K mg base CX0 6 fND dND ["book", "deal"] (rY K) := tX B R
  refine G.fn.ok aBg (fun vs H Q E h => ?_) (fun cdv A outer s H vs Q E hr h => ?_)
  · obtain ⟨x, y, p, xs, n, ws, hs, L, rfl, _⟩ := h
    rfl
  · obtain ⟨x, y, p, xs, n, ws, hs, L, rfl, g, hp, hd, hL, hl1000, k⟩ := h
    have r2 : Room 2 _ := hr.mono (by decide)
    have r6 : Room 6 _ := hr
    refine ⟨_, (aD (eQ (aV R.ND OND r6 rfl (aA (pv 0) (aA (pv 1) aB))))
    (aD (cL (PW.pt (jA (cY (dZ (aM pP rfl B.isinstance jB (aA (pv 2) (aA (eE (v := .ty "list") rfl B.list rQ rfl) aB))))) (iJ (bH nU (aM aT rfl B.len eM (aA (pv 2) aB)) aK (bN _)))))
      (aG (aP dY))
      bE)
    (aD (cL (cY (dZ (aM (jH rfl) rfl B.all tU (aA (cM (own := ["step"]) (fr := [0, 1]) (frn := ["book", "deal"]) (bI (aF vU) ["book", "deal", "some", "passed", "follow"] rfl rfl (by decide +kernel)) rfl (mW (pv 2))
        (fun _ _ _ _ => (aL (i := 0) (show (["step", "book", "deal"] : List Str).Nodup by decide +kernel) rfl (Or.inl rfl))) (fun _ _ _ _ => dJ)
        (fun _ _ _ _ => (aV GS OS r2 rfl (aA (pv 1) (aA (pv 2) (aA (pv 0) aB)))))) aB))))
      (aG (aP dY))
      bE)
    (aD (aQ (i := 3) aBg.nd rfl (Or.inl rfl) (bX vE (eS (aA (bD bF (bD fP (pv 2) aK (fun _ _ => rfl)) aK (fun _ _ => rfl)) aB)) (cM (own := ["step"]) (fr := []) (frn := []) (bI (aF vU) ["book", "deal", "some", "passed", "follow"] rfl rfl (by decide +kernel)) rfl (mW (pv 2))
        (fun _ _ _ _ => (aL (i := 0) (show (["step"] : List Str).Nodup by decide +kernel) rfl (Or.inl rfl))) (fun _ _ _ _ => dJ)
        (fun _ _ _ _ => (bD (nE (K := K) rfl) (pv 0) aK (fun _ _ => rfl))))))
    (aD (aQ (i := 4) aBg.nd rfl (Or.inl rfl) (aM (jH rfl) rfl B.all tU (aA (cM (own := ["step", "hand"]) (fr := []) (frn := []) (bI (aF vU) ["book", "deal", "some", "passed", "follow"] rfl rfl (by decide +kernel)) rfl (vK .l .l rfl B.zip (aA (pv 2) (aA (pv 3) aB)))
        (fun _ _ _ _ => (rW (K := K) (n := 2) rfl rfl (bC (aL (i := 0) (show (["step", "hand"] : List Str).Nodup by decide +kernel) rfl (Or.inl rfl)) (bC (aL (i := 1) (show (["step", "hand"] : List Str).Nodup by decide +kernel) rfl (Or.inl rfl)) eF)))) (fun _ _ _ _ => dJ)
        (fun _ _ _ _ => (gT nU (bD (nE (K := K) rfl) (pv 0) aK (fun _ _ => rfl)) (pv 1) (bN _)))) aB)))
    (aG (aP (jF (pv 4) (kH (gT nU (aM pU rfl B.len eM (aA (cE (zD (K := K) rfl rfl) rfl B.set aDY (aA (pv 3) aB)) aB)) (aM aT rfl B.len eM (aA (pv 3) aB)) (bN _))))))))))), ?_⟩
    refine ⟨_, rfl, _, rfl, x, y, n, ws, hs, rfl, g, fun H1 s1 => ?_⟩
    have hxl := aW hd
    rw [List.length_map] at hxl
    have hp1 := s1.seqL hp
    have hd1 := s1.denAll _ _ hd
    refine ⟨_, rfl, .ref p, .lst, rfl, .inl ⟨rfl, _, hp1⟩, true, rfl, ?_⟩
    refine iN ?_
    refine ⟨_, rfl, p, _, rfl, .inl hp1, rfl, _, rfl, ?_⟩
    refine eP (fun c => ?_) (fun c => ?_)
    · have e0 : L = [] := by
        have : V.int (xs.length : Nat) = V.int 0 := by simpa using c
        have := V.int.inj this
        exact List.length_eq_zero_iff.mp (by omega)
      subst e0
      exact k H1 s1
    have hne : L ≠ [] := fun z => by
      subst z
      have : xs.length = 0 := by simpa using hxl
      rw [this] at c
      simp at c
    have g1 := g.same s1
    refine ⟨_, rfl, p, rfl, ⟨_, hp1⟩, tH (K := K) (a := p) (xs := xs) (vs := (L.map (eX ws hs)).map V.bl) (fun σ => ∃ v, σ = [v, some x, some y]) (by omega) (by simp [hxl]) hp1 ⟨none, rfl⟩ ?_ ?_⟩
    · rintro i u v σ H2 hu hv ⟨v0, rfl⟩ s2 Q' k'
      have hlt : i < L.length := by have := (List.getElem?_eq_some_iff.mp hu).1; omega
      have el : L[i]? = some L[i] := List.getElem?_eq_getElem hlt
      obtain ⟨c1, e1, e2⟩ := iW (s2.denAll _ _ hd1) el
      rw [hu] at e1
      obtain rfl := Option.some.inj e1
      have ev : v = .bl (eX ws hs L[i]) := by
        rw [List.getElem?_map, List.getElem?_map, el] at hv
        exact (Option.some.inj hv).symm
      subst ev
      refine ⟨_, rfl, _, rfl, _, rfl, x, y, c1, n, ws, hs, L[i], rfl, g1.same s2, e2, hl1000 _ (List.getElem_mem hlt), fun H3 s3 => ?_⟩
      exact k' _ H3 ⟨_, rfl⟩ s3
    · intro H2 s2 q hq
      refine ⟨q, L.map (eX ws hs), rfl, SqL.of aC, _, rfl, ?_⟩
      have s3 := s2.trans (aE.new (o := .lst ((L.map (eX ws hs)).map V.bl)) hq)
      generalize upd H2 q (.lst ((L.map (eX ws hs)).map V.bl)) = H3 at s3 ⊢
      have eall : (L.map (eX ws hs)).all id = L.all (eX ws hs) := by rw [List.all_map]; rfl
      rw [eall]
      by_cases ha : L.all (eX ws hs) = true
      · rw [ha]
        refine iN ?_
        have hok : ∀ st ∈ L, eX ws hs st = true := fun st h => List.all_eq_true.mp ha st h
        have hp3 : ∀ {H' : Hp}, aE H3 H' -> SqL K H' p xs := fun z => z.seqL (s3.seqL hp1)
        have nth : ∀ {H' : Hp} {i : Nat} {u : V}, aE H3 H' -> xs[i]? = some u -> ∃ (c : Addr) (st : List Int) (kk gg tt : Int), u = .ref c /\ L[i]? = some st /\ st = [kk, gg, tt] /\ SqT K H' c [.int kk, .int gg, .int tt] := fun {H' i u} z hu => by
          have hlt : i < L.length := by have := (List.getElem?_eq_some_iff.mp hu).1; omega
          have el : L[i]? = some L[i] := List.getElem?_eq_getElem hlt
          obtain ⟨c1, e1, e2⟩ := iW (z.denAll _ _ (s3.denAll _ _ hd1)) el
          rw [hu] at e1
          obtain ⟨kk, gg, tt, e3⟩ := qS (hok _ (List.getElem_mem hlt))
          rw [e3] at e2
          exact ⟨c1, L[i], kk, gg, tt, Option.some.inj e1, el, e3, e2⟩
        have h0 : 0 < xs.length := by
          have := List.length_pos_iff.mpr hne
          omega
        obtain ⟨c0, st0, k0, g0, t0, e0, el0, es0, q0⟩ := nth (aE.refl H3) (List.getElem?_eq_getElem h0)
        refine ⟨_, rfl, p, _, 0, .ref c0, rfl, rfl, hp3 (aE.refl H3), cQ (by rw [List.getElem?_eq_getElem h0, e0]), c0, _, 1, .int g0, rfl, rfl, q0, rfl, sz1 _, fun l1 hl1 => ?_⟩
        have s4 := aE.new (o := .lst [.int g0]) hl1
        have a4 : upd H3 l1 (.lst [.int g0]) l1 = some (.lst [.int g0]) := aC
        generalize upd H3 l1 (.lst [.int g0]) = H4 at s4 a4 ⊢
        refine ⟨_, rfl, p, rfl, ⟨_, hp3 s4⟩, tH (K := K) (a := p) (xs := xs) (vs := (L.map oX).map V.int) (fun σ => ∃ v, σ = [v]) (by omega) (by simp [hxl]) (hp3 s4) ⟨none, rfl⟩ ?_ ?_⟩
        · rintro i u v σ H5 hu hv ⟨v0, rfl⟩ s5 Q' k'
          obtain ⟨c1, st, kk, gg, tt, rfl, el, rfl, q1⟩ := nth (s4.trans s5) hu
          have ev : v = .int tt := by
            rw [List.getElem?_map, List.getElem?_map, el] at hv
            exact (Option.some.inj hv).symm
          subst ev
          exact ⟨_, rfl, c1, _, 2, .int tt, rfl, rfl, q1, rfl, k' _ H5 ⟨_, rfl⟩ (aE.refl H5)⟩
        · intro H5 s5 l2 hl2
          have s6 := aE.new (o := .lst ((L.map oX).map V.int)) hl2
          have a6 := s6 _ _ (s5 _ _ a4)
          have b6 : upd H5 l2 (.lst ((L.map oX).map V.int)) l2 = some (.lst ((L.map oX).map V.int)) := aC
          generalize upd H5 l2 (.lst ((L.map oX).map V.int)) = H6 at s6 a6 b6 ⊢
          refine ⟨l1, l2, _, _, rfl, rfl, a6, b6, aAJ (by simp; omega), fun l3 hl3 => ?_⟩
          have epass : [V.int g0] ++ (L.map oX).map V.int = (bK L).map V.int := by
            cases L with
            | nil => exact absurd rfl hne
            | cons s r =>
              have : s = st0 := Option.some.inj el0
              subst this
              rw [es0]
              rfl
          rw [epass]
          have s7 := aE.new (o := .lst ((bK L).map V.int)) hl3
          have b7 : upd H6 l3 (.lst ((bK L).map V.int)) l3 = some (.lst ((bK L).map V.int)) := aC
          generalize upd H6 l3 (.lst ((bK L).map V.int)) = H7 at s7 b7 ⊢
          have s37 := ((s4.trans s5).trans s6).trans s7
          have pl := vZ hne
          refine ⟨_, rfl, _, rfl, p, l3, xs, _, rfl, hp3 s37, SqL.of b7, aAL (K := K) (k1 := .l) (k2 := .l) (a := p) (b := l3) (xs := xs) (zs := (bK L).map V.int) (vs := ((L.zip (bK L)).map fun q => iV q.1 == q.2).map V.bl) (fun σ => ∃ u v, σ = [u, v]) (by omega) (by simp; omega) (by simp [pl]; omega)
            (fun H' z => ⟨hp3 (s37.trans z), SqL.of (z _ _ b7)⟩) ⟨none, none, rfl⟩ ?_ ?_⟩
          · rintro i u z v q σ H8 hu hz hv hq ⟨u0, v0, rfl⟩ s8 Q' k'
            have s9 := aE.new (o := .tup [u, z]) hq
            obtain ⟨c1, st, kk, gg, tt, rfl, el, rfl, q1⟩ := nth ((s37.trans s8).trans s9) hu
            obtain ⟨zz, hzz, rfl⟩ : ∃ zz, (bK L)[i]? = some zz /\ V.int zz = z := by
              rw [List.getElem?_map] at hz
              cases e : (bK L)[i]? with
              | none => rw [e] at hz; cases hz
              | some zz => rw [e] at hz; exact ⟨zz, rfl, Option.some.inj hz⟩
            have ev : v = .bl (gg == zz) := by
              have e1 : (L.zip (bK L))[i]? = some ([kk, gg, tt], zz) := by rw [List.getElem?_zip_eq_some]; exact ⟨el, hzz⟩
              rw [List.getElem?_map, List.getElem?_map, e1] at hv
              exact (Option.some.inj hv).symm
            subst ev
            refine ⟨q, _, rfl, SqT.of aC, rfl, _, _, rfl, _, _, rfl, rfl, ?_⟩
            refine ⟨_, rfl, c1, _, 1, .int gg, rfl, rfl, q1, rfl, _, rfl, rfl, ?_⟩
            have eb : decide (V.int gg = V.int zz) = (gg == zz) := by
              by_cases e : gg = zz
              · subst e; simp
              · rw [decide_eq_false (fun q => e (V.int.inj q))]; exact (beq_eq_false_iff_ne.mpr e).symm
            rw [eb]
            exact k' _ _ ⟨_, _, rfl⟩ s9
          · intro H8 s8 l4 hl4
            refine ⟨l4, (L.zip (bK L)).map (fun q => iV q.1 == q.2), rfl, SqL.of aC, ?_⟩
            have s9 := s8.trans (aE.new (o := .lst (((L.zip (bK L)).map fun q => iV q.1 == q.2).map V.bl)) hl4)
            generalize upd H8 l4 (.lst (((L.zip (bK L)).map fun q => iV q.1 == q.2).map V.bl)) = H9 at s9 ⊢
            have ef : ((L.zip (bK L)).map fun q => iV q.1 == q.2).all id = nG L := by rw [List.all_map]; rfl
            rw [ef]
            have kk := fun H' (z : aE H9 H') => k H' ((s1.trans (s3.trans s37)).trans (s9.trans z))
            have ew : oY ws hs L = (nG L && decide ((bK L).Nodup)) := by
              unfold oY
              rw [ha]
              cases L with
              | nil => exact absurd rfl hne
              | cons _ _ => rfl
            rw [ew] at kk
            refine ⟨_, rfl, _, rfl, ?_⟩
            refine eP (fun c1 => ?_) (fun c1 => ?_)
            · rw [c1] at kk
              refine ⟨_, rfl, l3, bK L, rfl, SqL.of (s9 _ _ b7), by omega, fun l5 hl5 => ?_⟩
              have s10 := aE.new (o := .set (fun k => decide (k ∈ bK L)) (jE (bK L))) hl5
              refine ⟨l5, _, _, rfl, aC, _, rfl, l3, _, rfl, .inl (SqL.of (s10 _ _ (s9 _ _ b7))), rfl, ?_⟩
              have e2 : decide (V.int (jE (bK L) : Nat) = V.int ((bK L).map V.int).length) = decide ((bK L).Nodup) := by
                rw [Bool.eq_iff_iff, decide_eq_true_iff, decide_eq_true_iff, <- vM, List.length_map]
                constructor
                · intro z; have := V.int.inj z; omega
                · intro z; rw [z]
              rw [e2]
              exact kk _ s10
            · rw [Bool.not_eq_true] at c1
              rw [c1] at kk
              exact kk H9 (aE.refl _)
      · rw [Bool.not_eq_true] at ha
        rw [ha]
        refine iO ?_
        have e : oY ws hs L = false := by unfold oY; rw [ha]; simp
        rw [e] at k
        exact k H3 (s1.trans s3)
end
end Ab
set_option linter.all false
namespace Ab
def eC (ws : List (List Int)) (hs : List Int) (g : Int) (w : Nat) (t : Int) : Prop := hs[w]? = some g /\ ∃ l, ws[w]? = some l /\ t ∈ l /\ t ≠ g
def RL (ws : List (List Int)) (hs : List Int) : Nat -> Int -> Int -> Prop
  | 0, h, x => h = x
  | k + 1, h, x => h = x ∨ ∃ w o, eC ws hs h w o /\ RL ws hs k o x
def bW (ws : List (List Int)) (hs : List Int) : Int -> List (Nat × Int × Int) -> Int -> Prop
  | h, [], x => h = x
  | h, s :: r, x => s.2.1 = h /\ eC ws hs h s.1 s.2.2 /\ bW ws hs s.2.2 r x
section
variable {ws : List (List Int)} {hs : List Int}
theorem RL.refl : ∀ (k : Nat) (h : Int), RL ws hs k h h
  | 0, _ => rfl
  | _ + 1, _ => .inl rfl
theorem RL.succ : ∀ {k : Nat} {h x : Int}, RL ws hs k h x -> RL ws hs (k + 1) h x
  | 0, _, _, e => .inl e
  | k + 1, _, _, .inl e => .inl e
  | k + 1, _, _, .inr ⟨w, o, e, r⟩ => .inr ⟨w, o, e, RL.succ r⟩
theorem RL.mono {k m : Nat} {h x : Int} (r : RL ws hs k h x) (le : k <= m) : RL ws hs m h x := by
  induction le with
  | refl => exact r
  | step _ ih => exact ih.succ
theorem RL.snoc : ∀ {k : Nat} {h g t : Int} {w : Nat}, RL ws hs k h g -> eC ws hs g w t -> RL ws hs (k + 1) h t
  | 0, _, _, _, w, e, d => by subst e; exact .inr ⟨w, _, d, rfl⟩
  | k + 1, _, _, _, w, .inl e, d => by subst e; exact .inr ⟨w, _, d, RL.refl _ _⟩
  | k + 1, _, _, _, _, .inr ⟨w', o, e, r⟩, d => .inr ⟨w', o, e, RL.snoc r d⟩
theorem RL.closed {S : Int -> Prop} (hc : ∀ g w t, S g -> eC ws hs g w t -> S t) : ∀ {k : Nat} {h x : Int}, S h -> RL ws hs k h x -> S x
  | 0, _, _, s, e => e ▸ s
  | _ + 1, _, _, s, .inl e => e ▸ s
  | _ + 1, _, _, s, .inr ⟨w, o, e, r⟩ => RL.closed hc (hc _ w o s e) r
theorem bW.snoc : ∀ {h g : Int} {r : List (Nat × Int × Int)} {w : Nat} {t : Int}, bW ws hs h r g -> eC ws hs g w t -> bW ws hs h (r ++ [(w, g, t)]) t
  | _, _, [], _, _, e, d => by cases e; exact ⟨rfl, d, rfl⟩
  | _, _, _ :: _, _, _, ⟨e1, e2, e3⟩, d => ⟨e1, e2, bW.snoc e3 d⟩
def kE (ws : List (List Int)) (hs : List Int) (n : Nat) (h v : Int) : Prop := (∃ x, RL ws hs n h x /\ v = ((hs.count x : Nat) : Int)) /\ ∀ k x, RL ws hs k h x -> v <= ((hs.count x : Nat) : Int)
theorem kE.le {n : Nat} {h v : Int} (m : kE ws hs n h v) : v <= ((hs.count h : Nat) : Int) := m.2 0 h rfl
theorem kE.edge {n : Nat} {h o v u : Int} {w : Nat} (m : kE ws hs n h v) (m2 : kE ws hs n o u) (e : eC ws hs h w o) : v <= u := by
  obtain ⟨x, r, rfl⟩ := m2.1
  exact m.2 (n + 1) x (show RL ws hs (n + 1) h x from .inr ⟨w, o, e, r⟩)
def bA (n : Int) (ws : List (List Int)) (hs lv : List Int) : Prop := lv.length = n.toNat /\ ∀ (h : Nat) (v : Int), lv[h]? = some v -> kE ws hs n.toNat h v /\ ((hs.count (h : Int) : Nat) : Int) - v < 2
def mP (n : Int) (ws : List (List Int)) (hs : List Int) (ss : List (Nat × Int × Int)) : Prop :=
  ∃ h x, ss ≠ [] /\ bW ws hs h ss x /\ (h :: ss.map (·.2.2)).Nodup /\ 0 <= h /\ h < n /\ RL ws hs n.toNat h x /\ 2 <= ((hs.count h : Nat) : Int) - ((hs.count x : Nat) : Int)
end
end Ab
namespace Ab
theorem iE : ∀ (n : Nat) (l : List Int), l.Nodup -> (∀ x ∈ l, 0 <= x /\ x < (n : Int)) -> l.length <= n
  | 0, [], _, _ => Nat.le_refl _
  | 0, x :: _, _, h => by have := h x (.head _); omega
  | n + 1, l, hn, h => by
    by_cases hm : (n : Int) ∈ l
    · have h1 := iE n (l.erase (n : Int)) (hn.erase _) fun x hx => by
        have h2 := (hn.mem_erase_iff).mp hx
        have h3 := h x h2.2
        have := h2.1
        omega
      rw [List.length_erase_of_mem hm] at h1
      omega
    · have h1 := iE n l hn fun x hx => by
        have h3 := h x hx
        have : x ≠ (n : Int) := fun z => hm (z ▸ hx)
        omega
      omega
end Ab
set_option Elab.async false
set_option linter.all false
set_option maxRecDepth 100000
namespace L2
open PySem
theorem aE.wr {H H' : Hp} {a : Addr} {u : HO} (e : aE H H') (h : H a = none) : aE H (upd H' a u) := fun b o q => by
  rw [aH (fun z => by rw [z, h] at q; cases q)]
  exact e b o q
end L2
namespace Ab
open PySem L2
theorem iX {xs : List Int} {i : Nat} {v : V} (h : (xs.map V.int)[i]? = some v) : ∃ a, xs[i]? = some a /\ v = .int a := by
  rw [List.getElem?_map] at h
  cases q : xs[i]? with
  | none => rw [q] at h; cases h
  | some a => rw [q] at h; exact ⟨a, rfl, (Option.some.inj h).symm⟩
theorem oZ {xs : List Int} {h : Int} (h0 : 0 <= h) (h1 : h < xs.length) : atI (xs.map V.int) h = some (.int (xs.getD h.toNat 0)) := by
  have hlt : h.toNat < xs.length := by omega
  have h2 := cQ (xs := xs.map V.int) (j := h.toNat) (v := .int (xs.getD h.toNat 0)) (by rw [List.getElem?_map, List.getElem?_eq_getElem hlt, List.getD_eq_getElem?_getD, List.getElem?_eq_getElem hlt]; rfl)
  rwa [show ((h.toNat : Nat) : Int) = h by omega] at h2
theorem aDc {n : Nat} {k : Int} (h0 : 0 <= k) (h1 : k < n) : ixN n k = some k.toNat := by
  unfold ixN
  rw [if_pos h0, if_pos (by omega)]
def qA (E : Nat -> Int -> Prop) (r : List (Key × V)) : Prop := (∀ k v, cS r k = some v -> ∃ (w : Nat) (t : Int), k = .inl t /\ v = .int (w : Nat) /\ E w t) /\ ∀ w t, E w t -> (cS r (.inl t)).isSome = true
theorem qA.nil {E : Nat -> Int -> Prop} (h : ∀ w t, ¬ E w t) : qA E [] := ⟨fun k v e => (by rw [aAM] at e; cases e), fun w t e => (h w t e).elim⟩
theorem qA.put {E : Nat -> Int -> Prop} {r : List (Key × V)} (h : qA E r) (w : Nat) (t : Int) : qA (fun w' t' => E w' t' ∨ (w' = w /\ t' = t)) (iQ r (.inl t) (.int (w : Nat))) := by
  refine ⟨fun k v e => ?_, fun w' t' e => ?_⟩
  · rw [tK] at e
    by_cases hk : k = Sum.inl t
    · rw [if_pos hk] at e
      exact ⟨w, t, hk, (Option.some.inj e).symm, .inr ⟨rfl, rfl⟩⟩
    · rw [if_neg hk] at e
      obtain ⟨w', t', h1, h2, h3⟩ := h.1 k v e
      exact ⟨w', t', h1, h2, .inl h3⟩
  · rw [tK]
    by_cases hk : (Sum.inl t' : Key) = Sum.inl t
    · rw [if_pos hk]; rfl
    · rw [if_neg hk]
      rcases e with e | ⟨_, e⟩
      · exact h.2 w' t' e
      · exact absurd (by rw [e]) hk
theorem qA.congr {E E' : Nat -> Int -> Prop} {r : List (Key × V)} (h : qA E r) (e : ∀ w t, E w t ↔ E' w t) : qA E' r := ⟨fun k v q => let ⟨w, t, a, b, c⟩ := h.1 k v q; ⟨w, t, a, b, (e w t).mp c⟩, fun w t q => h.2 w t ((e w t).mpr q)⟩
structure Rows (H : Hp) (rp : Addr) (qs : List Addr) (rs : List (List (Key × V))) : Prop where
  lst : H rp = some (.lst (qs.map V.ref))
  len : qs.length = rs.length
  nd : qs.Nodup
  row : ∀ (g : Nat) q r, qs[g]? = some q -> rs[g]? = some r -> H q = some (.dK r)
theorem Rows.same {H H' : Hp} {rp : Addr} {qs : List Addr} {rs : List (List (Key × V))} (h : Rows H rp qs rs) (s : aE H H') : Rows H' rp qs rs := ⟨s _ _ h.lst, h.len, h.nd, fun g q r a b => s _ _ (h.row g q r a b)⟩
theorem Rows.put {H : Hp} {rp : Addr} {qs : List Addr} {rs : List (List (Key × V))} (h : Rows H rp qs rs) {g : Nat} {q : Addr} {r r' : List (Key × V)} (hq : qs[g]? = some q) (hr : rs[g]? = some r) : Rows (upd H q (.dK r')) rp qs (rs.set g r') := by
  have hg := h.row g q r hq hr
  have nq : rp ≠ q := fun z => by have := h.lst; rw [z, hg] at this; cases this
  refine ⟨by rw [aH nq]; exact h.lst, by rw [List.length_set]; exact h.len, h.nd, fun g2 q2 r2 h1 h2 => ?_⟩
  rw [List.getElem?_set] at h2
  by_cases e : g = g2
  · subst e
    rw [if_pos rfl] at h2
    rw [hq] at h1
    cases h1
    by_cases hl : g < rs.length
    · rw [if_pos hl] at h2; cases h2; exact aC
    · rw [if_neg hl] at h2; cases h2
  · rw [if_neg e] at h2
    have n2 : q2 ≠ q := fun z => by
      subst z
      have hlt : g < qs.length := (List.getElem?_eq_some_iff.mp hq).1
      exact e ((List.getElem?_inj hlt h.nd).mp (hq.trans h1.symm))
    rw [aH n2]
    exact h.row g2 q2 r2 h1 h2
theorem Rows.other {H : Hp} {rp a : Addr} {u : HO} {qs : List Addr} {rs : List (List (Key × V))} (h : Rows H rp qs rs) (hn : H a = none) : Rows (upd H a u) rp qs rs := h.same (aE.new hn)
def xT (E : Int -> Nat -> Int -> Prop) (rs : List (List (Key × V))) (m : Nat) : Prop := ∀ (g : Nat) r, rs[g]? = some r -> qA (E g) r /\ r.length <= m
section
variable {P : Program} {w : World} {K : PySem.W.Frag} {mg : Str -> Option Value} {base : Heap}
def jS (K : PySem.W.Frag) : Sp := fun vs H Q _ => ∃ x y n ws hs, vs = [x, y] /\ dQ K H x y n ws hs /\ ∀ rp H' qs rs, aE H H' -> H rp = none -> (∀ q ∈ qs, H q = none) -> Rows H' rp qs rs -> rs.length = n.toNat -> xT (eC ws hs) rs 100 -> Q (.ref rp) H'
theorem gF : FnScope ["book", "deal", "rows", "work", "giver", "able", "taker"] ["book", "deal"] (aF gM) := ⟨rfl, rfl, rfl, by decide +kernel, rfl, by decide +kernel, by decide +kernel⟩
theorem kM {f : Addr} {fd : FuncData} (G : Fn K mg "handing" gM ["book", "deal"] f fd) (B : Bl mg) : FnOk P w K mg base CX0 1 f fd ["book", "deal"] (jS K) := by
  refine G.fn.ok gF (fun vs H Q E h => ?_) (fun cdv A outer s H vs Q E hr h => ?_)
  · obtain ⟨x, y, n, ws, hs, rfl, _⟩ := h
    rfl
  · obtain ⟨x, y, n, ws, hs, rfl, g, k⟩ := h
    refine ⟨_, (aD (oB (i := 2) (own := ["hand"]) (fr := []) (frn := []) (bI (aF gM) ["book", "deal", "rows", "work", "giver", "able", "taker"] rfl rfl (by decide +kernel)) rfl gF.nd rfl rfl rfl (bT rfl B.range (aA (bD bF (pv 0) aK (fun _ _ => rfl)) aB))
        (fun _ _ _ _ => (aL (i := 0) (show (["hand"] : List Str).Nodup by decide +kernel) rfl (Or.inl rfl))) (fun _ _ _ _ => dJ)
        (fun _ _ _ _ => aAP))
      (aD (eR PassesOwn.never rfl (vP .t .t rfl B.enumerate rfl B.zip (aA (pv 1) (aA (bD bF (pv 0) aK (fun _ _ => rfl)) aB))) (gY rfl (bC (aL (i := 3) gF.nd rfl (Or.inl rfl)) (bC (gY rfl (bC (aL (i := 4) gF.nd rfl (Or.inl rfl)) (bC (aL (i := 5) gF.nd rfl (Or.inl rfl)) eF))) eF)))
        (aG (eR PassesOwn.never rfl (iL (pv 5)) (aL (i := 6) gF.nd rfl (Or.inl rfl))
          (aG (cL (bH mI (pv 6) (pv 4) (bN _))
            (aG (xE (nZ hr) (bD fP (pv 2) (pv 4) (fun _ _ => rfl)) (pv 6) (pv 3) rfl))
            bE)))))
      (aG (aP (pv 2))))), ?_⟩
    obtain ⟨hl12, hn1, hn6⟩ := g.len
    obtain ⟨a, b, ys, rfl, ha, hb2, hys⟩ := cW g.1
    obtain ⟨c0, rfl, hc0⟩ := aO.mp g.2.2.1
    obtain ⟨hdl, hdg⟩ := aJ g.2.2.2
    obtain ⟨_, _, hw12, hws⟩ := bJ g.2.1
    have hlw := aW hys
    rw [List.length_map] at hlw
    refine ⟨_, rfl, a, _, 0, .int n, rfl, rfl, ha, rfl, n, rfl, by omega, by omega, fM (lo := 0) (n := n.toNat) (fun σ => ∃ v, σ = [v]) (fun i zs H2 => ∃ qs : List Addr, zs = qs.map V.ref /\ qs.length = i /\ aE H H2 /\ qs.Nodup /\ ∀ q ∈ qs, H q = none /\ H2 q = some (.dK [])) ?_ ⟨none, rfl⟩ ⟨[], rfl, rfl, aE.refl H, List.nodup_nil, fun _ h => (List.not_mem_nil h).elim⟩ ?_ ?_ ?_⟩
    · rw [sizeLine_eq]; omega
    · rintro i zs H2 ⟨qs, rfl, hq, _⟩
      rw [List.length_map]; omega
    · rintro i zs σ H2 hi ⟨v, rfl⟩ ⟨qs, rfl, hq, s2, nd, hqs⟩ hz
      refine bU ?_
      intro p hp
      refine ⟨hz, ⟨_, rfl⟩, qs ++ [p], by rw [List.map_append]; rfl, by rw [List.length_append, hq]; rfl, s2.trans (aE.new hp), ?_, fun q hq' => ?_⟩
      · rw [List.nodup_append]
        refine ⟨nd, by simp, fun x hx y hy e => ?_⟩
        rw [List.mem_singleton.mp hy] at e
        have := (hqs x hx).2
        rw [e, hp] at this; cases this
      · rcases List.mem_append.mp hq' with h | h
        · exact ⟨(hqs q h).1, (aE.new hp) _ _ (hqs q h).2⟩
        · rw [List.mem_singleton.mp h]
          exact ⟨s2.free hp, aC⟩
    · rintro zs H2 ⟨qs, rfl, hq, s2, nd, hqs⟩ rp hrp
      have s3 := s2.trans (aE.new (o := .lst (qs.map V.ref)) hrp)
      have hrp0 : H rp = none := s2.free hrp
      have R3 : Rows (upd H2 rp (.lst (qs.map V.ref))) rp qs (List.replicate n.toNat []) := ⟨aC, by rw [List.length_replicate]; exact hq, nd, fun g q r h1 h2 => by
        have er : r = [] := by
          rw [List.getElem?_replicate] at h2
          split at h2
          · exact (Option.some.inj h2).symm
          · cases h2
        rw [er]
        exact (aE.new hrp) _ _ (hqs q (List.mem_of_getElem? h1)).2⟩
      generalize upd H2 rp (.lst (qs.map V.ref)) = H3 at s3 R3 ⊢
      have h6 : ∀ l ∈ ws, l.length <= 6 := fun l hl => by
        obtain ⟨_, w2, w3⟩ := cG (hws l hl)
        have := iT (by omega) w2 w3
        omega
      refine ⟨_, rfl, _, rfl, a, _, 1, .ref b, rfl, rfl, s3.seqT ha, rfl, c0, b, _, _, rfl, s3.seqT hc0, s3.seqT hb2, tT (K := K) (k1 := .t) (k2 := .t) (a := c0) (b := b) (xs := hs.map V.int) (ys := ys)
        (fun i σ H4 => (∃ v3 v4 v5 v6, σ = [some (.ref a), some (.ref c0), some (.ref rp), v3, v4, v5, v6]) /\ aE H H4 /\ ∃ rs, Rows H4 rp qs rs /\ rs.length = n.toNat /\ xT (fun g w t => w < i /\ eC ws hs g w t) rs (6 * i))
        (by rw [List.length_map]; omega) ⟨⟨_, _, _, _, rfl⟩, s3, _, R3, List.length_replicate, fun g r hr => ?_⟩ (fun _ σ H4 _ ⟨_, s4, _⟩ => ⟨s4.seqT hc0, s4.seqT hb2⟩) ?_ ?_⟩
      · have er : r = [] := by
          rw [List.getElem?_replicate] at hr
          split at hr
          · exact (Option.some.inj hr).symm
          · cases hr
        rw [er]
        exact ⟨qA.nil fun w t h => by omega, Nat.zero_le _⟩
      · rintro i u v p q σ H4 hu hv ⟨⟨v3, v4, v5, v6, rfl⟩, s4, rs, R4, hl4, E4⟩ hp hq hne
        obtain ⟨h, hh, rfl⟩ := iX hu
        obtain ⟨dv, hdv, denv⟩ := fJ hys hv
        rw [List.getElem?_map] at hdv
        obtain ⟨l, hl, rfl⟩ : ∃ l, ws[i]? = some l /\ cH l = dv := by
          cases q : ws[i]? with
          | none => rw [q] at hdv; cases hdv
          | some l => rw [q] at hdv; exact ⟨l, rfl, Option.some.inj hdv⟩
        obtain ⟨aw, rfl, haw⟩ := aO.mp denv
        obtain ⟨hh0, hh1⟩ := g.hand hh
        have hl6 := h6 l (List.mem_of_getElem? hl)
        have hi12 : i < 12 := by
          have := (List.getElem?_eq_some_iff.mp hh).1
          omega
        have sp := aE.new (o := .tup [.int h, .ref aw]) hp
        have hq1 : upd H4 p (.tup [.int h, .ref aw]) q = none := by rw [aH hne]; exact hq
        have sq := aE.new (o := .tup [.int (i : Nat), .ref p]) hq1
        have ep : upd (upd H4 p (.tup [.int h, .ref aw])) q (.tup [.int (i : Nat), .ref p]) p = some (.tup [.int h, .ref aw]) := sq _ _ aC
        have eq : upd (upd H4 p (.tup [.int h, .ref aw])) q (.tup [.int (i : Nat), .ref p]) q = some (.tup [.int (i : Nat), .ref p]) := aC
        have s5 := s4.trans (sp.trans sq)
        have R5 := R4.same (sp.trans sq)
        generalize upd (upd H4 p (.tup [.int h, .ref aw])) q (.tup [.int (i : Nat), .ref p]) = H5 at ep eq s5 R5 ⊢
        refine ⟨q, _, rfl, SqT.of eq, rfl, _, _, rfl, _, _, rfl, p, _, rfl, SqT.of ep, rfl, _, _, rfl, _, _, rfl, rfl, rfl, ?_⟩
        have hgl : h.toNat < qs.length := by rw [R5.len, hl4]; omega
        obtain ⟨qh, hqh⟩ : ∃ qh, qs[h.toNat]? = some qh := ⟨_, List.getElem?_eq_getElem hgl⟩
        have hcast : ((h.toNat : Nat) : Int) = h := by omega
        refine ⟨_, rfl, aw, rfl, ⟨_, s5.seqT haw⟩, wQ (K := K) (a := aw) (xs := l.map V.int) (fun j σ H6 => (∃ v6, σ = [some (.ref a), some (.ref c0), some (.ref rp), some (.int (i : Nat)), some (.int h), some (.ref aw), v6]) /\ aE H H6 /\ ∃ rs, Rows H6 rp qs rs /\ rs.length = n.toNat /\ xT (fun g w t => (w < i /\ eC ws hs g w t) ∨ (w = i /\ g = h /\ t ∈ l.take j /\ t ≠ h)) rs (6 * i + j))
          ⟨⟨_, rfl⟩, s5, rs, R5, hl4, fun g r hr => ⟨(E4 g r hr).1.congr fun w t => ⟨.inl, fun z => z.elim id fun z => by rw [List.take_zero] at z; exact (List.not_mem_nil z.2.2.1).elim⟩, (E4 g r hr).2⟩⟩ (fun _ σ H6 _ ⟨_, s6, _⟩ => s6.seqT haw) ?_ ?_⟩
        · rintro j tv σ H6 htv ⟨⟨v6, rfl⟩, s6, rs, R6, hl6', E6⟩
          obtain ⟨t, ht, rfl⟩ := iX htv
          have hj : j < l.length := (List.getElem?_eq_some_iff.mp ht).1
          have etake : l.take (j + 1) = l.take j ++ [t] := by rw [List.take_succ, ht]; rfl
          refine ⟨_, rfl, _, rfl, rfl, _, rfl, ?_⟩
          refine eP (fun c => ?_) (fun c => ?_)
          · have hth : t ≠ h := fun z => by rw [z] at c; simp at c
            obtain ⟨r, hr⟩ : ∃ r, rs[h.toNat]? = some r := ⟨_, List.getElem?_eq_getElem (by rw [hl6']; omega)⟩
            have hat : atI (qs.map V.ref) h = some (.ref qh) := by
              have := cQ (xs := qs.map V.ref) (j := h.toNat) (v := .ref qh) (by rw [List.getElem?_map, hqh]; rfl)
              rwa [hcast] at this
            have hrow := R6.row _ _ _ hqh hr
            have hrl := (E6 _ _ hr).2
            have hqH : H qh = none := (hqs qh (List.mem_of_getElem? hqh)).1
            refine ⟨_, rfl, _, rfl, _, rfl, rp, _, h, _, rfl, rfl, SqL.of R6.lst, hat, _, rfl, qh, _, rfl, tN.k (k := .inl t) hrow (by rw [sizeLine_eq]; omega), ?_⟩
            refine ⟨⟨_, rfl⟩, s6.wr hqH, rs.set h.toNat (iQ r (.inl t) (.int (i : Nat))), R6.put hqh hr, by rw [List.length_set]; exact hl6', fun g2 r2 hr2 => ?_⟩
            rw [List.getElem?_set] at hr2
            by_cases eg : h.toNat = g2
            · rw [if_pos eg, if_pos (by rw [hl6']; omega)] at hr2
              cases hr2
              have eg' : ((g2 : Nat) : Int) = h := by omega
              refine ⟨((E6 _ _ hr).1.put i t).congr fun w t' => ?_, Nat.le_trans (jJ _ _ _) (by omega)⟩
              rw [hcast, eg', etake]
              constructor
              · rintro ((z | ⟨z1, z2, z3, z4⟩) | ⟨z1, z2⟩)
                · exact .inl z
                · exact .inr ⟨z1, z2, List.mem_append_left _ z3, z4⟩
                · exact .inr ⟨z1, rfl, by rw [z2]; simp, by rw [z2]; exact hth⟩
              · rintro (z | ⟨z1, z2, z3, z4⟩)
                · exact .inl (.inl z)
                · rcases List.mem_append.mp z3 with z3 | z3
                  · exact .inl (.inr ⟨z1, z2, z3, z4⟩)
                  · exact .inr ⟨z1, List.mem_singleton.mp z3⟩
            · rw [if_neg eg] at hr2
              refine ⟨(E6 _ _ hr2).1.congr fun w t' => ?_, Nat.le_trans (E6 _ _ hr2).2 (by omega)⟩
              have ng : ¬ ((g2 : Nat) : Int) = h := by omega
              constructor
              · rintro (z | ⟨_, z2, _⟩)
                · exact .inl z
                · exact absurd z2 ng
              · rintro (z | ⟨_, z2, _⟩)
                · exact .inl z
                · exact absurd z2 ng
          · have hth : t = h := by simpa using c
            refine ⟨⟨_, rfl⟩, s6, rs, R6, hl6', fun g2 r2 hr2 => ⟨(E6 _ _ hr2).1.congr fun w t' => ?_, Nat.le_trans (E6 _ _ hr2).2 (by omega)⟩⟩
            rw [etake]
            constructor
            · rintro (z | ⟨z1, z2, z3, z4⟩)
              · exact .inl z
              · exact .inr ⟨z1, z2, List.mem_append_left _ z3, z4⟩
            · rintro (z | ⟨z1, z2, z3, z4⟩)
              · exact .inl z
              · rcases List.mem_append.mp z3 with z3 | z3
                · exact .inr ⟨z1, z2, z3, z4⟩
                · exact absurd ((List.mem_singleton.mp z3).trans hth) z4
        · rintro σ H6 ⟨⟨v6, rfl⟩, s6, rs, R6, hl6', E6⟩
          refine ⟨⟨_, _, _, _, rfl⟩, s6, rs, R6, hl6', fun g2 r2 hr2 => ⟨(E6 _ _ hr2).1.congr fun w t' => ?_, Nat.le_trans (E6 _ _ hr2).2 (by rw [List.length_map]; omega)⟩⟩
          rw [List.length_map, List.take_length]
          constructor
          · rintro (⟨z1, z2⟩ | ⟨z1, z2, z3, z4⟩)
            · exact ⟨by omega, z2⟩
            · subst z1
              exact ⟨by omega, by rw [hh, z2], l, hl, z3, by rw [z2]; exact z4⟩
          · rintro ⟨z1, z2⟩
            by_cases hw : w < i
            · exact .inl ⟨hw, z2⟩
            · have ew : w = i := by omega
              subst ew
              obtain ⟨z3, l', z4, z5, z6⟩ := z2
              rw [hh] at z3
              rw [hl] at z4
              cases z4
              have ez : h = g2 := Option.some.inj z3
              exact .inr ⟨rfl, ez.symm, z5, by rw [ez]; exact z6⟩
      · rintro σ H4 ⟨⟨v3, v4, v5, v6, rfl⟩, s4, rs, R4, hl4, E4⟩
        refine ⟨_, rfl, k rp H4 qs rs s4 hrp0 (fun q hq => (hqs q hq).1) R4 hl4 fun g r hr => ⟨(E4 g r hr).1.congr fun w t => ⟨fun z => z.2, fun z => ⟨?_, z⟩⟩, Nat.le_trans (E4 g r hr).2 (by rw [List.length_map]; omega)⟩⟩
        rw [List.length_map]
        exact (List.getElem?_eq_some_iff.mp z.1).1
end
end Ab
set_option Elab.async false
set_option linter.all false
set_option maxRecDepth 100000
namespace Ab
open PySem L2
def Tp (H H' : Hp) : Prop := ∀ p xs, H p = some (.tup xs) -> H' p = some (.tup xs)
theorem Tp.of {H H' : Hp} (s : aE H H') : Tp H H' := fun _ _ h => s _ _ h
theorem Tp.trans {H H1 H2 : Hp} (a : Tp H H1) (b : Tp H1 H2) : Tp H H2 := fun p xs h => b p xs (a p xs h)
theorem Tp.upd {H : Hp} {a : Addr} {u : HO} (h : ∀ xs, H a ≠ some (.tup xs)) : Tp H (upd H a u) := fun p xs e => by
  have ne : p ≠ a := fun z => h xs (by rw [<- z]; exact e)
  rw [aH ne]; exact e
theorem nH {fs : List (Key × V)} {os : List Int} (h : fs.map (·.1) = os.map Sum.inl) (t : Int) : (cS fs (.inl t)).isSome = decide (t ∈ os) := by
  rw [<- fY]
  have : (fs.any fun kv => decide (kv.1 = Sum.inl t)) = ((fs.map (·.1)).any fun k => decide (k = Sum.inl t)) := by rw [List.any_map]; rfl
  rw [this, h, List.any_map, Bool.eq_iff_iff]
  simp
structure Tree (ws : List (List Int)) (hs : List Int) (n first : Int) (H : Hp) (fs : List (Key × V)) (os : List Int) : Prop where
  keys : fs.map (·.1) = os.map Sum.inl
  nd : os.Nodup
  rng : ∀ o ∈ os, 0 <= o /\ o < n
  head : os[0]? = some first
  v0 : cS fs (.inl first) = some .non
  par : ∀ (j : Nat) (t : Int), 0 < j -> os[j]? = some t -> ∃ (p : Addr) (w : Nat) (g : Int) (i : Nat), cS fs (.inl t) = some (.ref p) /\ H p = some (.tup [.int (w : Nat), .int g, .int t]) /\ eC ws hs g w t /\ i < j /\ os[i]? = some g
section
variable {ws : List (List Int)} {hs : List Int} {n first : Int} {H H' : Hp} {fs : List (Key × V)} {os : List Int}
theorem Tree.tp (T : Tree ws hs n first H fs os) (e : Tp H H') : Tree ws hs n first H' fs os :=
  ⟨T.keys, T.nd, T.rng, T.head, T.v0, fun j t h0 h1 => let ⟨p, w, g, i, a, b, c⟩ := T.par j t h0 h1; ⟨p, w, g, i, a, e _ _ b, c⟩⟩
theorem Tree.len (T : Tree ws hs n first H fs os) : os.length <= n.toNat := iE _ _ T.nd fun x hx => by have := T.rng x hx; omega
theorem Tree.flen (T : Tree ws hs n first H fs os) : fs.length = os.length := by
  have := congrArg List.length T.keys
  rwa [List.length_map, List.length_map] at this
theorem Tree.one (h0 : 0 <= first) (h1 : first < n) : Tree ws hs n first H [(.inl first, .non)] [first] :=
  ⟨rfl, by simp, fun o ho => by rw [List.mem_singleton.mp ho]; exact ⟨h0, h1⟩, rfl, cV rfl, fun j t h2 h3 => by
    cases j with
    | zero => omega
    | succ j => simp at h3⟩
theorem Tree.grow (T : Tree ws hs n first H fs os) {p : Addr} {w : Nat} {g t : Int} {i : Nat} (hp : H p = some (.tup [.int (w : Nat), .int g, .int t])) (e : eC ws hs g w t) (hi : os[i]? = some g) (ht : t ∉ os) (r0 : 0 <= t) (r1 : t < n) :
    Tree ws hs n first H (fs ++ [(.inl t, .ref p)]) (os ++ [t]) := by
  have hv : cS fs (.inl t) = none := by
    have := nH T.keys t
    rw [decide_eq_false ht] at this
    cases q : cS fs (.inl t) with
    | none => rfl
    | some v => rw [q] at this; cases this
  have hlt : i < os.length := (List.getElem?_eq_some_iff.mp hi).1
  have val : ∀ j : Key, cS (fs ++ [(.inl t, .ref p)]) j = if j = .inl t then some (.ref p) else cS fs j := fun j => lY _ _ _ _ hv
  have hf : first ∈ os := List.mem_of_getElem? T.head
  refine ⟨by rw [List.map_append, List.map_append, T.keys]; rfl, ?_, fun o ho => ?_, ?_, ?_, fun j t' h0 h1 => ?_⟩
  · rw [List.nodup_append]
    exact ⟨T.nd, by simp, fun x hx y hy z => ht (by rw [<- List.mem_singleton.mp hy, <- z]; exact hx)⟩
  · rcases List.mem_append.mp ho with h | h
    · exact T.rng o h
    · rw [List.mem_singleton.mp h]; exact ⟨r0, r1⟩
  · rw [List.getElem?_append_left (by omega)]; exact T.head
  · rw [val, if_neg (fun z => ht (by have : first = t := by simpa using z
                                     rw [<- this]; exact hf))]
    exact T.v0
  · by_cases hj : j < os.length
    · rw [List.getElem?_append_left hj] at h1
      obtain ⟨p', w', g', i', a, b, c, d, e'⟩ := T.par j t' h0 h1
      have ne : (Sum.inl t' : Key) ≠ Sum.inl t := fun z => ht (by have : t' = t := by simpa using z
                                                                  rw [<- this]; exact List.mem_of_getElem? h1)
      exact ⟨p', w', g', i', by rw [val, if_neg ne]; exact a, b, c, d, by rw [List.getElem?_append_left (by omega)]; exact e'⟩
    · have ej : j = os.length := by
        have := (List.getElem?_eq_some_iff.mp h1).1
        rw [List.length_append] at this
        simp at this
        omega
      subst ej
      rw [List.getElem?_append_right (Nat.le_refl _), Nat.sub_self] at h1
      have et : t' = t := by simpa using h1.symm
      subst et
      exact ⟨p, w, g, i, by rw [val, if_pos rfl], hp, e, hlt, by rw [List.getElem?_append_left hlt]; exact hi⟩
theorem Tree.rl (T : Tree ws hs n first H fs os) : ∀ (j : Nat) (t : Int), os[j]? = some t -> RL ws hs j first t := by
  intro j
  induction j using Nat.strongRecOn with
  | ind j ih =>
    intro t ht
    by_cases h0 : j = 0
    · subst h0
      rw [T.head] at ht
      exact Option.some.inj ht
    · obtain ⟨p, w, g, i, _, _, e, hi, hg⟩ := T.par j t (by omega) ht
      exact ((ih i hi g hg).snoc e).mono (by omega)
end
section
variable {P : Program} {w : World} {K : PySem.W.Frag} {mg : Str -> Option Value} {base : Heap}
def aBh (ws : List (List Int)) (hs os : List Int) : Prop := ∀ g ∈ os, ∀ w t, eC ws hs g w t -> t ∈ os
def jT (K : PySem.W.Frag) : Sp := fun vs H Q _ => ∃ rp first qs rs n ws hs, vs = [.ref rp, .int first] /\ Rows H rp qs rs /\ rs.length = n.toNat /\ xT (eC ws hs) rs 100 /\ (∀ g w t, eC ws hs g w t -> 0 <= t /\ t < n) /\ n <= 6 /\ 0 <= first /\ first < n /\
  ∀ fd H' fs os, aE H H' -> H fd = none -> H' fd = some (.dK fs) -> Tree ws hs n first H' fs os -> aBh ws hs os -> Q (.ref fd) H'
theorem iF : FnScope ["rows", "first", "found", "waiting", "giver", "taker"] ["rows", "first"] (aF iB) := ⟨rfl, rfl, rfl, by decide +kernel, rfl, by decide +kernel, by decide +kernel⟩
theorem kN {f : Addr} {fd : FuncData} (G : Fn K mg "reached" iB ["rows", "first"] f fd) (B : Bl mg) : FnOk P w K mg base CX0 1 f fd ["rows", "first"] (jT K) := by
  refine G.fn.ok iF (fun vs H Q E h => ?_) (fun cdv A outer s H vs Q E hr h => ?_)
  · obtain ⟨rp, first, qs, rs, n, ws, hs, rfl, _⟩ := h
    rfl
  · obtain ⟨rp, first, qs, rs, n, ws, hs, rfl, R, hlr, ER, hedge, hn6, hf0, hf1, k⟩ := h
    refine ⟨_, (aD (aQ (i := 2) iF.nd rfl (Or.inl rfl) (aAR (pv 1) aAd))
      (aD (aQ (i := 3) iF.nd rfl (Or.inl rfl) (eS (aA (pv 1) aB)))
      (aD (nQ PassesOwn.never (aAm (pv 3) (fun _ => rfl))
        (aD (aQ (i := 4) iF.nd rfl (Or.inl rfl) (mJ PySem.F.plainAttrs_list PySem.F.slot_list_pop PySem.F.type_list_pop aAr (pv 3) (aA aK aB)))
        (aG (aBY (eR PassesOwn.never rfl (xF (bD fP (pv 0) (pv 4) (fun _ _ => rfl))) (aL (i := 5) iF.nd rfl (Or.inl rfl))
          (aG (cL (uU (zG (nZ hr) (pv 5) (pv 2)) (by with_unfolding_all rfl))
            (aD (xE (nZ hr) (pv 2) (pv 5) (gC (aA (rJ (nZ hr) (bD fP (pv 0) (pv 4) (fun _ _ => rfl)) (pv 5) (fun _ _ => rfl)) (aA (pv 4) (aA (pv 5) aB)))) rfl)
            (aG (eQ (mJ PySem.F.plainAttrs_list PySem.F.slot_list_append PySem.F.type_list_append hV (pv 3) (aA (pv 5) aB)))))
            bE)))))))
      (aG (aP (pv 2)))))), ?_⟩
    intro fd0 hfd0
    refine ⟨_, rfl, .inl first, rfl, aC, ?_⟩
    rw [rB]
    have s1 := aE.new (o := .dK [(.inl first, .non)]) hfd0
    have e1 : upd H fd0 (.dK [(.inl first, .non)]) fd0 = some (.dK [(.inl first, .non)]) := aC
    generalize upd H fd0 (.dK [(.inl first, .non)]) = H1 at s1 e1 ⊢
    refine ⟨_, rfl, sz1 _, fun wt hwt => ?_⟩
    have hwt0 : H wt = none := s1.free hwt
    have nfw : fd0 ≠ wt := fun z => by rw [z, hwt] at e1; cases e1
    have s2 := s1.trans (aE.new (o := .lst [.int first]) hwt)
    have e2 := (aE.new (o := .lst [.int first]) hwt) _ _ e1
    have w2 : upd H1 wt (.lst [.int first]) wt = some (.lst [.int first]) := aC
    generalize upd H1 wt (.lst [.int first]) = H2 at s2 e2 w2 ⊢
    -- the while
    refine ⟨fun m σ H3 => ∃ (v4 v5 : Option V) (mm : Nat) (fs : List (Key × V)) (os : List Int), σ = [some (.ref rp), some (.int first), some (.ref fd0), some (.ref wt), v4, v5] /\ m = n.toNat - mm /\ aE H H3 /\ H3 fd0 = some (.dK fs) /\ H3 wt = some (.lst ((os.drop mm).map V.int)) /\ Tree ws hs n first H3 fs os /\ mm <= os.length /\
        ∀ (i : Nat) (g : Int), i < mm -> os[i]? = some g -> ∀ w t, eC ws hs g w t -> t ∈ os,
      ⟨n.toNat - 0, none, none, 0, _, [first], rfl, rfl, s2, e2, w2, Tree.one hf0 hf1, Nat.zero_le _, fun i g hi => absurd hi (Nat.not_lt_zero _)⟩, ?_⟩
    rintro m σ H3 ⟨v4, v5, mm, fs, os, rfl, rfl, s3, e3, w3, T3, hmm, pr3⟩
    refine ⟨_, rfl, !((os.drop mm).map V.int).isEmpty, .inl ⟨_, SqL.of w3, rfl⟩, ?_⟩
    by_cases hend : mm < os.length
    · -- a turn
      have hne : (os.drop mm) ≠ [] := by
        intro z
        have := congrArg List.length z
        rw [List.length_drop] at this
        simp at this
        omega
      have hb : (!((os.drop mm).map V.int).isEmpty) = true := by
        cases q : os.drop mm with
        | nil => exact absurd q hne
        | cons _ _ => rfl
      rw [hb]
      refine iO ?_
      have hdrop : os.drop mm = os[mm] :: os.drop (mm + 1) := List.drop_eq_getElem_cons hend
      have hgm : os[mm]? = some (os[mm]) := List.getElem?_eq_getElem hend
      generalize os[mm] = g at hdrop hgm
      obtain ⟨hg0, hg1⟩ := T3.rng g (List.mem_of_getElem? hgm)
      have holen := T3.len
      refine ⟨fun σ' H' => ∃ m', m' < n.toNat - mm /\ ∃ (v4 v5 : Option V) (mm : Nat) (fs : List (Key × V)) (os : List Int), σ' = [some (.ref rp), some (.int first), some (.ref fd0), some (.ref wt), v4, v5] /\ m' = n.toNat - mm /\ aE H H' /\ H' fd0 = some (.dK fs) /\ H' wt = some (.lst ((os.drop mm).map V.int)) /\ Tree ws hs n first H' fs os /\ mm <= os.length /\
        ∀ (i : Nat) (g : Int), i < mm -> os[i]? = some g -> ∀ w t, eC ws hs g w t -> t ∈ os, fun σ' H' z => z, ?_⟩
      refine ⟨_, rfl, .inl ⟨rfl, _, SqL.of w3⟩, ?_⟩
      have hx0 : ((os.drop mm).map V.int)[0]? = some (.int g) := by rw [hdrop]; rfl
      have hxl : 0 < ((os.drop mm).map V.int).length := (List.getElem?_eq_some_iff.mp hx0).1
      refine ⟨wt, _, 0, 0, .int g, rfl, rfl, w3, by decide, by decide, kY (i := 0) (by decide) hxl, hx0, ?_⟩
      have her : ((os.drop mm).map V.int).eraseIdx 0 = (os.drop (mm + 1)).map V.int := by rw [hdrop]; rfl
      rw [her]
      have s4 := s3.wr (u := .lst ((os.drop (mm + 1)).map V.int)) hwt0
      have e4 : upd H3 wt (.lst ((os.drop (mm + 1)).map V.int)) fd0 = some (.dK fs) := by rw [aH nfw]; exact e3
      have w4 : upd H3 wt (.lst ((os.drop (mm + 1)).map V.int)) wt = some (.lst ((os.drop (mm + 1)).map V.int)) := aC
      have T4 := T3.tp (Tp.upd (a := wt) (u := .lst ((os.drop (mm + 1)).map V.int)) fun xs z => by rw [w3] at z; cases z)
      generalize upd H3 wt (.lst ((os.drop (mm + 1)).map V.int)) = H4 at s4 e4 w4 T4 ⊢
      -- the row
      have R4 := R.same s4
      have hgl : g.toNat < qs.length := by rw [R.len, hlr]; omega
      have hcast : ((g.toNat : Nat) : Int) = g := by omega
      obtain ⟨qg, hqg⟩ : ∃ q, qs[g.toNat]? = some q := ⟨_, List.getElem?_eq_getElem hgl⟩
      obtain ⟨r, hr⟩ : ∃ r, rs[g.toNat]? = some r := ⟨_, List.getElem?_eq_getElem (by rw [hlr]; omega)⟩
      have hat : atI (qs.map V.ref) g = some (.ref qg) := by
        have := cQ (xs := qs.map V.ref) (j := g.toNat) (v := .ref qg) (by rw [List.getElem?_map, hqg]; rfl)
        rwa [hcast] at this
      have hrow := R.row _ _ _ hqg hr
      have hrow4 := s4 _ _ hrow
      obtain ⟨hRE, hRl⟩ := ER _ _ hr
      rw [hcast] at hRE
      have nqf : qg ≠ fd0 := fun z => by rw [z, hfd0] at hrow; cases hrow
      have nqw : qg ≠ wt := fun z => by rw [z, hwt0] at hrow; cases hrow
      have nqr : rp ≠ qg := fun z => by have := R.lst; rw [z, hrow] at this; cases this
      refine ⟨_, rfl, _, rfl, rp, _, g, _, rfl, rfl, SqL.of R4.lst, hat, qg, r, rfl, hrow4, fun o nf => ?_⟩
      have z5 : upd H4 qg (.frz o (.dK r)) qg = some (.frz o (.dK r)) := aC
      have b5 : But qg H (upd H4 qg (.frz o (.dK r))) := fun b u nb hb => by rw [aH nb]; exact s4 _ _ hb
      have e5 : upd H4 qg (.frz o (.dK r)) fd0 = some (.dK fs) := by rw [aH (Ne.symm nqf)]; exact e4
      have w5 : upd H4 qg (.frz o (.dK r)) wt = some (.lst ((os.drop (mm + 1)).map V.int)) := by rw [aH (Ne.symm nqw)]; exact w4
      have T5 := T4.tp (Tp.upd (a := qg) (u := .frz o (.dK r)) fun xs z => by rw [hrow4] at z; cases z)
      generalize upd H4 qg (.frz o (.dK r)) = H5 at z5 b5 e5 w5 T5 ⊢
      refine aAQ (a := qg) (o := o) (kvs := r) (fun j σ H6 => ∃ (v5 : Option V) (fs : List (Key × V)) (os : List Int), σ = [some (.ref rp), some (.int first), some (.ref fd0), some (.ref wt), some (.int g), v5] /\ H6 qg = some (.frz o (.dK r)) /\ But qg H H6 /\ H6 fd0 = some (.dK fs) /\ H6 wt = some (.lst ((os.drop (mm + 1)).map V.int)) /\ Tree ws hs n first H6 fs os /\ mm + 1 <= os.length /\ os[mm]? = some g /\
          (∀ (i : Nat) (g : Int), i < mm -> os[i]? = some g -> ∀ w t, eC ws hs g w t -> t ∈ os) /\ ∀ (i : Nat) k v t, i < j -> r[i]? = some (k, v) -> k = .inl t -> t ∈ os)
        ⟨v5, fs, os, rfl, z5, b5, e5, w5, T5, hend, hgm, pr3, fun i k v t hi => absurd hi (Nat.not_lt_zero _)⟩ (fun j σ H6 _ ⟨_, _, _, _, h, _⟩ => h) ?_ ?_
      · rintro j ⟨key, val⟩ σ H6 hj ⟨v5, fs, os, rfl, z6, b6, e6, w6, T6, hl6, hg6, pr6, dn6⟩
        -- the key is a hand, its value a work
        obtain ⟨val', hval⟩ : ∃ v, cS r key = some v := by
          have : (cS r key).isSome = true := by
            rw [<- fY, List.any_eq_true]
            exact ⟨_, List.mem_of_getElem? hj, by simp⟩
          cases q : cS r key with
          | none => rw [q] at this; cases this
          | some v => exact ⟨v, rfl⟩
        obtain ⟨wk, t, rfl, rfl, hE⟩ := hRE.1 _ _ hval
        obtain ⟨ht0, ht1⟩ := hedge _ _ _ hE
        dsimp only [kV]
        have dn : ∀ (os' : List Int), t ∈ os' -> (∀ x ∈ os, x ∈ os') -> ∀ (i : Nat) k v t', i < j + 1 -> r[i]? = some (k, v) -> k = .inl t' -> t' ∈ os' := fun os' h1 h2 i k v t' hi hk he => by
          by_cases hij : i < j
          · exact h2 _ (dn6 i k v t' hij hk he)
          · have : i = j := by omega
            subst this
            rw [hj] at hk
            cases hk
            have : t = t' := by simpa using he
            rw [<- this]; exact h1
        refine ⟨_, rfl, _, rfl, fd0, _, rfl, lZ.k (k := .inl t) e6, _, rfl, ?_⟩
        rw [nH T6.keys]
        by_cases htm : t ∈ os
        · rw [decide_eq_true htm]
          refine iN ?_
          exact ⟨_, fs, os, rfl, z6, b6, e6, w6, T6, hl6, hg6, pr6, dn os htm fun _ h => h⟩
        · rw [decide_eq_false htm]
          refine iO ?_
          have hR6 : H6 rp = some (.lst (qs.map V.ref)) := b6 _ _ nqr R.lst
          refine ⟨_, rfl, _, rfl, rp, _, g, _, rfl, rfl, SqL.of hR6, hat, _, rfl, qg, .int (wk : Nat), rfl, .inl ⟨r, .inl t, .inr ⟨o, z6⟩, rfl, hval.symm⟩, _, rfl, _, rfl, eN (show 3 <= 1000 by decide), fun p hp => ?_⟩
          have sp := aE.new (o := .tup [.int (wk : Nat), .int g, .int t]) hp
          have ep : upd H6 p (.tup [.int (wk : Nat), .int g, .int t]) p = _ := aC
          have b7 : But qg H (upd H6 p (.tup [.int (wk : Nat), .int g, .int t])) := b6.trans (But.of sp)
          have z7 := sp _ _ z6
          have e7 := sp _ _ e6
          have w7 := sp _ _ w6
          have T7 := T6.tp (Tp.of sp)
          generalize upd H6 p (.tup [.int (wk : Nat), .int g, .int t]) = H7 at sp ep b7 z7 e7 w7 T7 ⊢
          have hv : cS fs (.inl t) = none := by
            have := nH T7.keys t
            rw [decide_eq_false htm] at this
            cases q : cS fs (.inl t) with
            | none => rfl
            | some v => rw [q] at this; cases this
          have T7l := T7.len
          have T7f := T7.flen
          have T8 := T7.grow ep hE hg6 htm ht0 ht1
          have hput : iQ fs (.inl t) (.ref p) = fs ++ [(.inl t, .ref p)] := aAN _ hv
          refine ⟨_, rfl, _, rfl, fd0, _, rfl, tN.k (k := .inl t) e7 (by rw [sizeLine_eq]; omega), ?_⟩
          rw [hput]
          have b8 : But qg H (upd H7 fd0 (.dK (fs ++ [(.inl t, .ref p)]))) := fun b u nb hb => by
            rw [aH (fun z => by rw [z, hfd0] at hb; cases hb)]
            exact b7 b u nb hb
          have z8 : upd H7 fd0 (.dK (fs ++ [(.inl t, .ref p)])) qg = some (.frz o (.dK r)) := by rw [aH nqf]; exact z7
          have e8 : upd H7 fd0 (.dK (fs ++ [(.inl t, .ref p)])) fd0 = _ := aC
          have w8 : upd H7 fd0 (.dK (fs ++ [(.inl t, .ref p)])) wt = some (.lst ((os.drop (mm + 1)).map V.int)) := by rw [aH (Ne.symm nfw)]; exact w7
          have T8' := T8.tp (Tp.upd (a := fd0) (u := .dK (fs ++ [(.inl t, .ref p)])) fun xs z => by rw [e7] at z; cases z)
          generalize upd H7 fd0 (.dK (fs ++ [(.inl t, .ref p)])) = H8 at b8 z8 e8 w8 T8' ⊢
          refine ⟨_, rfl, .inl ⟨rfl, _, SqL.of w8⟩, _, rfl, wt, _, .int t, rfl, rfl, w8, by rw [List.length_map, List.length_drop, sizeLine_eq]; omega, ?_⟩
          have hdr : (os.drop (mm + 1)).map V.int ++ [V.int t] = ((os ++ [t]).drop (mm + 1)).map V.int := by
            rw [List.drop_append_of_le_length hl6, List.map_append]; rfl
          rw [hdr]
          refine ⟨_, _, os ++ [t], rfl, by rw [aH nqw]; exact z8, fun b u nb hb => ?_, by rw [aH nfw]; exact e8, aC, T8'.tp (Tp.upd fun xs z => by rw [w8] at z; cases z), by rw [List.length_append]; omega, by rw [List.getElem?_append_left (by omega)]; exact hg6, fun i g' hi hg' w t' e' => ?_, dn _ (by simp) fun x hx => List.mem_append_left _ hx⟩
          · rw [aH (fun z => by rw [z, hwt0] at hb; cases hb)]
            exact b8 b u nb hb
          · rw [List.getElem?_append_left (by omega)] at hg'
            exact List.mem_append_left _ (pr6 i g' hi hg' w t' e')
      · rintro σ H6 ⟨v5, fs, os, rfl, z6, b6, e6, w6, T6, hl6, hg6, pr6, dn6⟩
        refine ⟨qg, o, r, z6, nf, ?_⟩
        have hole := T6.len
        have s7 : aE H (upd H6 qg (.dK r)) := fun b u hb => by
          by_cases hbq : b = qg
          · rw [hbq] at hb ⊢
            rw [aC, <- hrow]; exact hb
          · rw [aH hbq]; exact b6 b u hbq hb
        refine ⟨n.toNat - (mm + 1), by omega, _, _, mm + 1, fs, os, rfl, rfl, s7, by rw [aH (Ne.symm nqf)]; exact e6, by rw [aH (Ne.symm nqw)]; exact w6, T6.tp (Tp.upd fun xs z => by rw [z6] at z; cases z), hl6, fun i g' hi hg' w t e => ?_⟩
        by_cases him : i < mm
        · exact pr6 i g' him hg' w t e
        · have : i = mm := by omega
          subst this
          rw [hg6] at hg'
          cases hg'
          have hs := hRE.2 w t e
          rw [<- fY, List.any_eq_true] at hs
          obtain ⟨⟨k, v⟩, hk, he⟩ := hs
          obtain ⟨j, hj⟩ := List.mem_iff_getElem?.mp hk
          exact dn6 j k v t (List.getElem?_eq_some_iff.mp hj).1 hj (by simpa using he)
    · have hlen : mm = os.length := by omega
      have hb : (!((os.drop mm).map V.int).isEmpty) = false := by rw [hlen, List.drop_length]; rfl
      rw [hb]
      refine iN ?_
      refine ⟨_, rfl, k fd0 H3 fs os s3 hfd0 e3 T3 fun g hg w t e => ?_⟩
      obtain ⟨i, hi⟩ := List.mem_iff_getElem?.mp hg
      exact pr3 i g (by have := (List.getElem?_eq_some_iff.mp hi).1; omega) hi w t e
end
end Ab
set_option Elab.async false
set_option linter.all false
set_option maxRecDepth 100000
namespace Ab
open PySem L2
structure StepsAt (H : Hp) (ps : List Addr) (ss : List (Nat × Int × Int)) : Prop where
  len : ps.length = ss.length
  at_ : ∀ (i : Nat) p s, ps[i]? = some p -> ss[i]? = some s -> H p = some (.tup [.int (s.1 : Nat), .int s.2.1, .int s.2.2])
theorem StepsAt.nil {H : Hp} : StepsAt H [] [] := ⟨rfl, fun i p s h => by simp at h⟩
theorem StepsAt.cons {H : Hp} {ps : List Addr} {ss : List (Nat × Int × Int)} (h : StepsAt H ps ss) {p : Addr} {w : Nat} {g t : Int} (hp : H p = some (.tup [.int (w : Nat), .int g, .int t])) : StepsAt H (p :: ps) ((w, g, t) :: ss) := by
  refine ⟨by rw [List.length_cons, List.length_cons, h.len], fun i p' s h1 h2 => ?_⟩
  cases i with
  | zero =>
    have e1 : p = p' := by simpa using h1
    have e2 : (w, g, t) = s := by simpa using h2
    subst e1 e2
    exact hp
  | succ i => exact h.at_ i p' s (by simpa using h1) (by simpa using h2)
theorem StepsAt.tp {H H' : Hp} {ps : List Addr} {ss : List (Nat × Int × Int)} (h : StepsAt H ps ss) (e : Tp H H') : StepsAt H' ps ss := ⟨h.len, fun i p s a b => e _ _ (h.at_ i p s a b)⟩
section
variable {P : Program} {w : World} {K : PySem.W.Frag} {mg : Str -> Option Value} {base : Heap}
def xU (K : PySem.W.Frag) : Sp := fun vs H Q _ => ∃ fdp last fs os first n ws hs jl, vs = [.ref fdp, .int last] /\ H fdp = some (.dK fs) /\ Tree ws hs n first H fs os /\ n <= 6 /\ os[jl]? = some last /\
  ∀ p H' ps ss, aE H H' -> H p = none -> H' p = some (.lst (ps.map V.ref)) -> StepsAt H' ps ss -> bW ws hs first ss last -> (first :: ss.map (·.2.2)).Nodup -> (∀ s ∈ ss, s.2.2 ∈ os) -> (0 < jl -> ss ≠ []) -> Q (.ref p) H'
theorem nI : FnScope ["found", "last", "some", "step"] ["found", "last"] (aF rS) := ⟨rfl, rfl, rfl, by decide +kernel, rfl, by decide +kernel, by decide +kernel⟩
theorem aBi {f : Addr} {fd : FuncData} (G : Fn K mg "way_to" rS ["found", "last"] f fd) (B : Bl mg) : FnOk P w K mg base CX0 1 f fd ["found", "last"] (xU K) := by
  refine G.fn.ok nI (fun vs H Q E h => ?_) (fun cdv A outer s H vs Q E hr h => ?_)
  · obtain ⟨fdp, last, fs, os, first, n, ws, hs, jl, rfl, _⟩ := h
    rfl
  · obtain ⟨fdp, last, fs, os, first, n, ws, hs, jl, rfl, hfd, T, hn6, hjl, k⟩ := h
    refine ⟨_, (aD (aQ (i := 2) nI.nd rfl (Or.inl rfl) (eS aB))
      (aD (aQ (i := 3) nI.nd rfl (Or.inl rfl) (rJ (nZ hr) (pv 0) (pv 1) (fun _ _ => rfl)))
      (aD (nQ PassesOwn.never (uU (aBE (pv 3)))
        (aD (eQ (mJ PySem.F.plainAttrs_list PySem.F.slot_list_append PySem.F.type_list_append hV (pv 2) (aA (pv 3) aB)))
        (aG (aQ (i := 3) nI.nd rfl (Or.inl rfl) (rJ (nZ hr) (pv 0) (bD bF (pv 3) aK (fun _ _ => rfl)) (fun _ _ => rfl))))))
      (aG (aP (xD (pv 2) (sN nT aK))))))), ?_⟩
    have Tl := T.len
    have hnsz : n.toNat < sizeLine := by rw [sizeLine_eq]; omega
    refine ⟨eN (show 0 <= 1000 by decide), fun sm hsm => ?_⟩
    have s1 := aE.new (o := .lst []) hsm
    have e1 : upd H sm (.lst []) sm = some (.lst []) := aC
    generalize upd H sm (.lst []) = H1 at s1 e1 ⊢
    -- what stands at a found hand
    have vals : ∀ (j : Nat) (t : Int), os[j]? = some t -> ∃ v, cS fs (.inl t) = some v /\ ((j = 0 /\ v = .non) ∨ ∃ p w g i, 0 < j /\ v = .ref p /\ H p = some (.tup [.int (w : Nat), .int g, .int t]) /\ eC ws hs g w t /\ i < j /\ os[i]? = some g) := fun j t ht => by
      by_cases hj : j = 0
      · subst hj
        rw [T.head] at ht
        cases ht
        exact ⟨_, T.v0, .inl ⟨rfl, rfl⟩⟩
      · obtain ⟨p, w, g, i, a, b, c, d, e⟩ := T.par j t (by omega) ht
        exact ⟨_, a, .inr ⟨p, w, g, i, by omega, rfl, b, c, d, e⟩⟩
    obtain ⟨v0, hv0, _⟩ := vals jl last hjl
    refine ⟨_, rfl, _, rfl, fdp, v0, rfl, .inl ⟨fs, .inl last, .inl (s1 _ _ hfd), rfl, hv0.symm⟩, ?_⟩
    refine ⟨fun m σ H2 => ∃ (j : Nat) (t : Int) (v : V) (rps : List Addr) (ss : List (Nat × Int × Int)), m = j /\ σ = [some (.ref fdp), some (.int last), some (.ref sm), some v] /\ os[j]? = some t /\ cS fs (.inl t) = some v /\ aE H H2 /\ H2 sm = some (.lst (rps.map V.ref)) /\ StepsAt H2 rps.reverse ss /\ bW ws hs t ss last /\ (t :: ss.map (·.2.2)).Nodup /\
        (∀ x ∈ ss.map (·.2.2), ∃ i : Nat, j < i /\ os[i]? = some x) /\ rps.length + j <= jl /\ (j < jl -> ss ≠ []),
      ⟨jl, jl, last, v0, [], [], rfl, rfl, hjl, hv0, s1, e1, StepsAt.nil, rfl, by simp, fun x h => by simp at h, by simp, fun h => by omega⟩, ?_⟩
    rintro j σ H2 ⟨_, t, v, rps, ss, rfl, rfl, hj, hv, s2, e2, S2, P2, N2, I2, L2', L3⟩
    have hjo : jl < os.length := (List.getElem?_eq_some_iff.mp hjl).1
    obtain ⟨v', hv', cs⟩ := vals j t hj
    rw [hv] at hv'
    cases hv'
    rcases cs with ⟨rfl, rfl⟩ | ⟨p, w, g, i, hj0, rfl, hp, hE, hij, hg⟩
    · refine ⟨_, rfl, _, rfl, ?_⟩
      refine iN ?_
      rw [T.head] at hj
      cases hj
      refine ⟨_, rfl, _, rfl, rfl, sm, _, rfl, SqL.of e2, fun p hp => ?_⟩
      have s3 := aE.new (o := .lst (rps.map V.ref).reverse) hp
      refine k p _ rps.reverse ss (s2.trans s3) (s2.free hp) (by rw [aC, List.map_reverse]) (S2.tp (Tp.of s3)) P2 N2 (fun x hx => ?_) L3
      obtain ⟨i, _, hi⟩ := I2 _ (List.mem_map.mpr ⟨x, hx, rfl⟩)
      exact List.mem_of_getElem? hi
    · refine ⟨_, rfl, _, rfl, ?_⟩
      refine iO ?_
      obtain ⟨vg, hvg, _⟩ := vals i g hg
      refine ⟨fun σ' H' => ∃ m', m' < j /\ ∃ (j : Nat) (t : Int) (v : V) (rps : List Addr) (ss : List (Nat × Int × Int)), m' = j /\ σ' = [some (.ref fdp), some (.int last), some (.ref sm), some v] /\ os[j]? = some t /\ cS fs (.inl t) = some v /\ aE H H' /\ H' sm = some (.lst (rps.map V.ref)) /\ StepsAt H' rps.reverse ss /\ bW ws hs t ss last /\ (t :: ss.map (·.2.2)).Nodup /\
        (∀ x ∈ ss.map (·.2.2), ∃ i : Nat, j < i /\ os[i]? = some x) /\ rps.length + j <= jl /\ (j < jl -> ss ≠ []), fun σ' H' z => z, ?_⟩
      have hsz : (rps.map V.ref).length < sizeLine := by
        rw [List.length_map]
        exact Nat.lt_of_le_of_lt (Nat.le_trans (Nat.le_trans (Nat.le_add_right _ _) L2') (Nat.le_trans (Nat.le_of_lt hjo) Tl)) hnsz
      refine ⟨_, rfl, .inl ⟨rfl, _, SqL.of e2⟩, _, rfl, sm, _, .ref p, rfl, rfl, e2, hsz, ?_⟩
      have s3 : aE H (upd H2 sm (.lst (rps.map V.ref ++ [.ref p]))) := s2.wr hsm
      have e3 : upd H2 sm (.lst (rps.map V.ref ++ [.ref p])) sm = _ := aC
      have S3 := S2.tp (Tp.upd (a := sm) (u := .lst (rps.map V.ref ++ [.ref p])) fun xs z => by rw [e2] at z; cases z)
      generalize upd H2 sm (.lst (rps.map V.ref ++ [.ref p])) = H3 at s3 e3 S3 ⊢
      have hp3 := s3 _ _ hp
      refine ⟨_, rfl, _, rfl, p, _, 1, .int g, rfl, rfl, SqT.of hp3, rfl, fdp, vg, rfl, .inl ⟨fs, .inl g, .inl (s3 _ _ hfd), rfl, hvg.symm⟩, ?_⟩
      refine ⟨i, hij, i, g, vg, rps ++ [p], (w, g, t) :: ss, rfl, rfl, hg, hvg, s3, by rw [List.map_append]; exact e3, ?_, ⟨rfl, hE, P2⟩, ?_, ?_, ?_, fun _ => by simp⟩
      · rw [List.reverse_append]
        exact S3.cons hp3
      · show (g :: t :: ss.map (·.2.2)).Nodup
        rw [List.nodup_cons]
        refine ⟨fun hm => ?_, N2⟩
        have inj : ∀ i', i < i' -> os[i']? = some g -> False := fun i' h1 h2 => by
          have := (List.getElem?_inj (List.getElem?_eq_some_iff.mp hg).1 T.nd).mp (hg.trans h2.symm)
          omega
        rcases List.mem_cons.mp hm with e | hm
        · exact inj j hij (by rw [e]; exact hj)
        · obtain ⟨i', h1, h2⟩ := I2 g hm
          exact inj i' (by omega) h2
      · intro x hx
        rcases List.mem_cons.mp (show x ∈ t :: ss.map (·.2.2) from hx) with rfl | hx
        · exact ⟨j, hij, hj⟩
        · obtain ⟨i', h1, h2⟩ := I2 x hx
          exact ⟨i', by omega, h2⟩
      · rw [List.length_append]
        show rps.length + 1 + i <= jl
        omega
end
end Ab
set_option Elab.async false
set_option linter.all false
set_option maxRecDepth 100000
namespace Ab
open PySem L2
def mV : Str := ("levels_or_way" : Str) ++ ".<locals>." ++ "<lambda>"
theorem pA {n : Int} {hs : List Int} {h : Int} (h0 : 0 <= h) (h1 : h < n) : atI ((aI n hs).map V.int) h = some (.int ((hs.count h : Nat) : Int)) := by
  have hlt : h.toNat < n.toNat := by omega
  have hcast : ((h.toNat : Nat) : Int) = h := by omega
  have h1 : ((aI n hs).map V.int)[h.toNat]? = some (.int ((hs.count h : Nat) : Int)) := by rw [List.getElem?_map, bV hlt, hcast]; rfl
  have h2 := cQ h1
  rwa [hcast] at h2
def aDZ (n : Int) (ws : List (List Int)) (hs : List Int) (H H' : Hp) (p : Addr) : Prop :=
  (∃ q lv, H' p = some (.tup [.str "levels", .ref q]) /\ H' q = some (.tup (lv.map V.int)) /\ bA n ws hs lv) ∨
  ∃ q ps ss, H' p = some (.tup [.str "way", .ref q]) /\ H q = none /\ H' q = some (.lst (ps.map V.ref)) /\ StepsAt H' ps ss /\ mP n ws hs ss
section
variable {P : Program} {w : World} {K : PySem.W.Frag} {mg : Str -> Option Value} {base : Heap}
variable {fW fH fK fB fNB fD fND fL : Addr} {dW dH dK dB dNB dD dND dL : FuncData}
def xV (K : PySem.W.Frag) (Pt : Addr) : Sp := fun vs H Q _ => ∃ x y n ws hs, vs = [x, y] /\ dQ K H x y n ws hs /\ H Pt = some (.tab mV) /\ ∀ p H', aE H H' -> aDZ n ws hs H H' p -> Q (.ref p) H'
theorem pB : FnScope ["book", "deal", "many", "rows", "levels", "hand", "found", "last"] ["book", "deal"] (aF aA4) := ⟨rfl, rfl, rfl, by decide +kernel, rfl, by decide +kernel, by decide +kernel⟩
theorem aDd {f fHd fR fW' c Pt : Addr} {fd dHd dR dW' : FuncData} (G : Fn K mg "levels_or_way" aA4 ["book", "deal"] f fd) (hc : fd.code = .ref c) (Z : Lm K mg base c Pt) (B : Bl mg) (R : Pr K mg fW fH fK fB fNB fD fND fL dW dH dK dB dNB dD dND dL)
    (GH : Fn K mg "handing" gM ["book", "deal"] fHd dHd) (GR : Fn K mg "reached" iB ["rows", "first"] fR dR) (GW : Fn K mg "way_to" rS ["found", "last"] fW' dW') : FnOk P w K mg base CX0 8 f fd ["book", "deal"] (xV K Pt) := by
  have OL : FnOk P w K mg base CX0 7 fL dL ["book", "deal"] (lD K) := lE B R
  have OH : FnOk P w K mg base CX0 1 fHd dHd ["book", "deal"] (jS K) := kM GH B
  have OR : FnOk P w K mg base CX0 1 fR dR ["rows", "first"] (jT K) := kN GR B
  have OW : FnOk P w K mg base CX0 1 fW' dW' ["found", "last"] (xU K) := aBi GW B
  refine G.fn.okC hc pB (fun vs H Q E h => ?_) (fun A outer s H vs Q E hr h => ?_)
  · obtain ⟨x, y, n, ws, hs, rfl, _⟩ := h
    rfl
  · obtain ⟨x, y, n, ws, hs, rfl, g, hT, k⟩ := h
    have r1 : Room 1 _ := hr.mono (by decide)
    refine ⟨_, (aD (aQ (i := 2) pB.nd rfl (Or.inr rfl) (aV R.L OL hr rfl (aA (pv 0) (aA (pv 1) aB))))
      (aD (aQ (i := 3) pB.nd rfl (Or.inl rfl) (aV GH OH r1 rfl (aA (pv 0) (aA (pv 1) aB))))
      (aD (aQ (i := 4) pB.nd rfl (Or.inl rfl) (eS aB))
      (aD (eR PassesOwn.never rfl (bT rfl B.range (aA (bD bF (pv 0) aK (fun _ _ => rfl)) aB)) (aL (i := 5) pB.nd rfl (Or.inl rfl))
        (aD (aQ (i := 6) pB.nd rfl (Or.inl rfl) (aV GR OR r1 rfl (aA (pv 3) (aA (pv 5) aB))))
        (aD (aQ (i := 7) pB.nd rfl (Or.inl rfl) (zI 2 rfl r1 rfl B.min Z rfl (q := mV) rfl (pv 6) rfl rfl))
        (aD (cL (bH aCq (bX aAh (bD bF (pv 2) (pv 5) (fun _ _ => rfl)) (bD bF (pv 2) (pv 7) (fun _ _ => rfl))) aK (bN _))
          (aG (aP (gC (aA uT (aA (aV GW OW r1 rfl (aA (pv 6) (aA (pv 7) aB))) aB)))))
          bE)
        (aG (eQ (mJ PySem.F.plainAttrs_list PySem.F.slot_list_append PySem.F.type_list_append hV (pv 4) (aA (bD bF (pv 2) (pv 7) (fun _ _ => rfl)) aB))))))))
      (aG (aP (gC (aA uT (aA (cE bS rfl B.tuple cR (aA (pv 4) aB)) aB))))))))), ?_⟩
    obtain ⟨hl12, hn1, hn6⟩ := g.len
    obtain ⟨a, b, ys, ex, ha, hb2, hys⟩ := cW g.1
    obtain ⟨_, _, hw12, hws⟩ := bJ g.2.1
    have hedge : ∀ g w t, eC ws hs g w t -> 0 <= t /\ t < n := fun g w t e => by
      obtain ⟨_, l, h1, h2, _⟩ := e
      exact (cG (hws l (List.mem_of_getElem? h1))).2.1 t h2
    refine ⟨_, rfl, _, rfl, x, y, n, ws, hs, rfl, g, fun mp H1 s1 hmp => ?_⟩
    have g1 := g.same s1
    refine ⟨_, rfl, _, rfl, x, y, n, ws, hs, rfl, g1, fun rp H2 qs rs s2 hrp hqs R2 hlr ER => ?_⟩
    refine ⟨eN (show 0 <= 1000 by decide), fun lp hlp => ?_⟩
    have s12 := s1.trans s2
    have s3 := s12.trans (aE.new (o := .lst []) hlp)
    have hlp0 : H lp = none := s12.free hlp
    have R3 := R2.same (aE.new (o := .lst []) hlp)
    have m3 := (s2.trans (aE.new (o := .lst []) hlp)) _ _ hmp
    have e3 : upd H2 lp (.lst []) lp = some (.lst []) := aC
    have hrp0 : H rp = none := s1.free hrp
    have nrl : rp ≠ lp := fun z => by have := R2.lst; rw [z, hlp] at this; cases this
    have nql : ∀ q ∈ qs, q ≠ lp := fun q hq z => by
      obtain ⟨i, hi⟩ := List.mem_iff_getElem?.mp hq
      have hil : i < rs.length := by rw [<- R2.len]; exact (List.getElem?_eq_some_iff.mp hi).1
      have := R2.row i q _ hi (List.getElem?_eq_getElem hil)
      rw [z, hlp] at this; cases this
    have nml : mp ≠ lp := fun z => by have := s2 _ _ hmp; rw [z, hlp] at this; cases this
    generalize upd H2 lp (.lst []) = H3 at s3 R3 m3 e3 ⊢
    subst ex
    refine ⟨_, rfl, a, _, 0, .int n, rfl, rfl, s3.seqT ha, rfl, n, rfl, by omega, by omega, dP (lo := 0) (n := n.toNat) (fun i σ H4 => ∃ (v5 v6 v7 : Option V) (lv : List Int), σ = [some (.ref a), some y, some (.ref mp), some (.ref rp), some (.ref lp), v5, v6, v7] /\ aE H H4 /\ Rows H4 rp qs rs /\ H4 mp = some (.tup ((aI n hs).map V.int)) /\ H4 lp = some (.lst (lv.map V.int)) /\ lv.length = i /\
        ∀ (h : Nat) (v : Int), lv[h]? = some v -> kE ws hs n.toNat h v /\ ((hs.count (h : Int) : Nat) : Int) - v < 2)
      ⟨none, none, none, [], rfl, s3, R3, m3, e3, rfl, fun h v e => by simp at e⟩ ?_ ?_⟩
    · rintro i σ H4 hi ⟨v5, v6, v7, lv, rfl, s4, R4, m4, e4, hlv, L4⟩
      have hi0 : (0 : Int) <= 0 + (i : Int) := by omega
      have hi1 : 0 + (i : Int) < n := by omega
      refine ⟨_, rfl, _, rfl, rp, 0 + (i : Int), qs, rs, n, ws, hs, rfl, R4, hlr, ER, hedge, hn6, hi0, hi1, fun fdp H5 fs os s5 hfd e5 T5 C5 => ?_⟩
      have s45 := s4.trans s5
      have R5 := R4.same s5
      have m5 := s5 _ _ m4
      have l5 := s5 _ _ e4
      have T5l := T5.len
      have hpos : 0 < os.length := (List.getElem?_eq_some_iff.mp T5.head).1
      refine ⟨_, rfl, os, fun o => ((hs.count o : Nat) : Int), .ref mp, ⟨fdp, rfl, .inr (.inr ⟨fs, e5, T5.keys⟩)⟩, hpos, s45 _ _ hT, rfl, fun o ho => ?_, fun j m H6 s6 hj hmin _ => ?_⟩
      · obtain ⟨o0, o1⟩ := T5.rng o ho
        refine ⟨o0, by omega, mp, _, rfl, .inl (SqT.of m5), ?_⟩
        rw [List.getElem?_map, bV (by omega), show ((o.toNat : Nat) : Int) = o by omega]
        rfl
      have hjl : j < os.length := (List.getElem?_eq_some_iff.mp hj).1
      obtain ⟨m0, m1⟩ := T5.rng m (List.mem_of_getElem? hj)
      have s46 := s45.trans s6
      have R6 := R5.same s6
      have m6 := s6 _ _ m5
      have l6 := s6 _ _ l5
      have e6 := s6 _ _ e5
      have T6 := T5.tp (Tp.of s6)
      have hRL : RL ws hs n.toNat (0 + (i : Int)) m := (T6.rl j m hj).mono (by omega)
      have hmin2 : kE ws hs n.toNat (0 + (i : Int)) ((hs.count m : Nat) : Int) := by
        refine ⟨⟨m, hRL, rfl⟩, fun k x hx => ?_⟩
        exact hmin x (hx.closed (S := fun o => o ∈ os) (fun g w t hg e => C5 g hg w t e) (List.mem_of_getElem? T5.head))
      refine ⟨_, rfl, _, rfl, mp, _, _, _, rfl, rfl, SqT.of m6, pA hi0 hi1, _, rfl, _, rfl, mp, _, _, _, rfl, rfl, SqT.of m6, pA m0 m1, _, _, rfl, rfl, _, _, rfl, rfl, _, rfl, ?_⟩
      refine eP (fun c => ?_) (fun c => ?_)
      · have hge : ((hs.count (0 + (i : Int)) : Nat) : Int) - ((hs.count m : Nat) : Int) ≥ 2 := of_decide_eq_true c
        refine ⟨_, rfl, _, rfl, fdp, m, fs, os, 0 + (i : Int), n, ws, hs, j, rfl, e6, T6, hn6, hj, fun p H7 ps ss s7 hp hps S7 P7 N7 _ ne7 => ⟨sz2 _ _, fun q hq => ?_⟩⟩
        have s8 := aE.new (o := .tup [.str "way", .ref p]) hq
        refine k q _ ((s46.trans s7).trans s8) (.inr ⟨p, ps, ss, aC, s46.free hp, s8 _ _ hps, S7.tp (Tp.of s8), 0 + (i : Int), m, ne7 ?_, P7, N7, hi0, hi1, hRL, hge⟩)
        rcases Nat.eq_zero_or_pos j with z | z
        · rw [z, T5.head] at hj
          cases hj
          omega
        · exact z
      · have hlt : ¬ ((hs.count (0 + (i : Int)) : Nat) : Int) - ((hs.count m : Nat) : Int) ≥ 2 := fun z => c (decide_eq_true z)
        refine ⟨_, rfl, .inl ⟨rfl, _, SqL.of l6⟩, _, rfl, _, rfl, mp, _, _, _, rfl, rfl, SqT.of m6, pA m0 m1, lp, _, _, rfl, rfl, l6, by rw [List.length_map, sizeLine_eq]; omega, ?_⟩
        refine ⟨_, _, _, lv ++ [((hs.count m : Nat) : Int)], rfl, s46.wr hlp0, ?_, by rw [aH nml]; exact m6, by rw [aC, List.map_append]; rfl, by rw [List.length_append, hlv]; rfl, fun h v e => ?_⟩
        · refine ⟨by rw [aH nrl]; exact R6.lst, R6.len, R6.nd, fun g q r h1 h2 => ?_⟩
          rw [aH (nql q (List.mem_of_getElem? h1))]
          exact R6.row g q r h1 h2
        · by_cases hh : h < lv.length
          · rw [List.getElem?_append_left hh] at e
            exact L4 h v e
          · have eh : h = i := by
              have := (List.getElem?_eq_some_iff.mp e).1
              rw [List.length_append] at this
              simp at this
              omega
            subst eh
            rw [List.getElem?_append_right (by omega), hlv, Nat.sub_self] at e
            have ev : ((hs.count m : Nat) : Int) = v := by simpa using e
            rw [<- ev]
            rw [Int.zero_add] at hmin2 hlt
            exact ⟨hmin2, by omega⟩
    · rintro σ H4 ⟨v5, v6, v7, lv, rfl, s4, R4, m4, e4, hlv, L4⟩
      refine ⟨_, rfl, lp, _, rfl, .inl ⟨SqL.of e4, fun q hq => ⟨sz2 _ _, fun p hp => ?_⟩⟩⟩
      have s5 := (aE.new (o := .tup (lv.map V.int)) hq).trans (aE.new (o := .tup [.str "levels", .ref q]) hp)
      exact k p _ (s4.trans s5) (.inl ⟨q, lv, aC, (aE.new hp) _ _ aC, hlv, L4⟩)
end
end Ab
set_option Elab.async false
set_option linter.all false
set_option maxRecDepth 100000
namespace Ab
open PySem L2
end Ab
set_option Elab.async false
set_option linter.all false
set_option maxRecDepth 100000
namespace Ab
open PySem L2
def d2 (n : Int) (ws : List (List Int)) (hs : List Int) : PyData := .list [bO n ws, aY hs]
end Ab
set_option Elab.async false
set_option linter.all false
set_option maxRecDepth 100000
namespace Ab
open PySem L2
section
variable {ws : List (List Int)} {hs : List Int}
theorem kO : ∀ {h x : Int} {ss : List (Nat × Int × Int)}, bW ws hs h ss x -> ss.map (·.2.1) ++ [x] = h :: ss.map (·.2.2)
  | _, _, [], e => by cases e; rfl
  | _, _, s :: r, ⟨e1, _, e3⟩ => by rw [List.map_cons, List.cons_append, kO e3, e1]; rfl
theorem jU : ∀ {h x : Int} {ss : List (Nat × Int × Int)}, bW ws hs h ss x -> ∀ (i : Nat) s, ss[i]? = some s -> eC ws hs s.2.1 s.1 s.2.2 /\ ∀ s', 0 < i -> ss[i - 1]? = some s' -> s'.2.2 = s.2.1
  | _, _, [], _, i, s, hs => by simp at hs
  | h, _, a :: r, ⟨e1, e2, e3⟩, 0, s, hs' => by
    have : a = s := by simpa using hs'
    subst this
    exact ⟨by rw [e1]; exact e2, fun s' h0 => by omega⟩
  | h, _, a :: r, ⟨e1, e2, e3⟩, i + 1, s, hs' => by
    have hr : r[i]? = some s := by simpa using hs'
    obtain ⟨p1, p2⟩ := jU e3 i s hr
    refine ⟨p1, fun s' _ hs2 => ?_⟩
    cases i with
    | zero =>
      have e : a = s' := by simpa using hs2
      subst e
      cases r with
      | nil => simp at hr
      | cons b r' =>
        have : b = s := by simpa using hr
        subst this
        exact e3.1.symm
    | succ i => exact p2 s' (by omega) (by simpa using hs2)
theorem qT : ∀ {h x : Int} {ss : List (Nat × Int × Int)}, bW ws hs h ss x -> ∀ s, ss[ss.length - 1]? = some s -> s.2.2 = x
  | _, _, [], _, s, e => by simp at e
  | _, _, [a], ⟨_, _, e3⟩, s, e => by
    have : a = s := by simpa using e
    subst this
    exact e3
  | _, _, a :: b :: r, ⟨_, _, e3⟩, s, e => qT e3 s (by simpa using e)
end
def jC (s : Nat × Int × Int) : List Int := [(s.1 : Int), s.2.1, s.2.2]
theorem StepsAt.den {K : PySem.W.Frag} {H : Hp} : ∀ {ps : List Addr} {ss : List (Nat × Int × Int)}, StepsAt H ps ss -> aR K H ((ss.map jC).map cH) (ps.map V.ref)
  | [], [], _ => bB.mpr rfl
  | [], _ :: _, h => by have := h.len; simp at this
  | _ :: _, [], h => by have := h.len; simp at this
  | p :: ps, s :: ss, h => by
    have h0 := h.at_ 0 p s rfl rfl
    have hr : StepsAt H ps ss := ⟨by have := h.len; simpa using this, fun i p' s' a b => h.at_ (i + 1) p' s' (by simpa using a) (by simpa using b)⟩
    exact aS.mpr ⟨_, _, rfl, aO.mpr ⟨p, rfl, SqT.of h0⟩, StepsAt.den hr⟩
end Ab
namespace L2
open PySem
end L2
namespace Ab
open PySem L2
section
variable {P : Program} {w : World} {K : PySem.W.Frag} {mg : Str -> Option Value} {base : Heap}
end
end Ab
set_option Elab.async false
set_option linter.all false
set_option maxRecDepth 100000
namespace Ab
open PySem L2
theorem uF {ws : List (List Int)} {hs : List Int} {k g t : Int} (h : eX ws hs [k, g, t] = true) : 0 <= k /\ k < hs.length /\ hs[k.toNat]? = some g /\ t ≠ g /\ t ∈ ws.getD k.toNat [] := by
  have h' : (decide (0 <= k) && (decide (k < hs.length) && (hs[k.toNat]? == some g && (!decide (t = g) && decide (t ∈ ws.getD k.toNat []))))) = true := h
  simp only [Bool.and_eq_true, decide_eq_true_eq, beq_iff_eq, Bool.not_eq_true', decide_eq_false_iff_not] at h'
  exact ⟨h'.1, h'.2.1, h'.2.2.1, h'.2.2.2.1, h'.2.2.2.2⟩
def kF (hs : List Int) (L : List (List Int)) : List Int := L.foldl (fun h st => h.set (st.getD 0 0).toNat (oX st)) hs
theorem zO (L : List (List Int)) : ∀ hs : List Int, (kF hs L).length = hs.length := by
  induction L with
  | nil => intro hs; rfl
  | cons s r ih => intro hs; show (kF (hs.set _ _) r).length = _; rw [ih, List.length_set]
theorem wA (hs : List Int) (L : List (List Int)) (st : List Int) : kF hs (L ++ [st]) = (kF hs L).set (st.getD 0 0).toNat (oX st) := by unfold kF; rw [List.foldl_append]; rfl
section
variable {P : Program} {w : World} {K : PySem.W.Frag} {mg : Str -> Option Value} {base : Heap}
variable {fW fH fK fB fNB fD fND fL : Addr} {dW dH dK dB dNB dD dND dL : FuncData}
def WIn (K : PySem.W.Frag) (H : Hp) (x y : V) (p : Addr) (xs : List V) (n : Int) (ws : List (List Int)) (hs : List Int) (L : List (List Int)) : Prop := dQ K H x y n ws hs /\ SqL K H p xs /\ aR K H (L.map cH) xs /\ L.length <= 30 /\ ∀ l ∈ L, l.length <= 1000
theorem WIn.same {H H' : Hp} {x y : V} {p : Addr} {xs : List V} {n : Int} {ws : List (List Int)} {hs : List Int} {L : List (List Int)} (h : WIn K H x y p xs n ws hs L) (s : aE H H') : WIn K H' x y p xs n ws hs L := ⟨h.1.same s, s.seqL h.2.1, s.denAll _ _ h.2.2.1, h.2.2.2⟩
theorem WIn.nth {H : Hp} {x y : V} {p : Addr} {xs : List V} {n : Int} {ws : List (List Int)} {hs : List Int} {L : List (List Int)} (h : WIn K H x y p xs n ws hs L) (hw : oY ws hs L = true) {i : Nat} {u : V} (hu : xs[i]? = some u) :
    ∃ (c : Addr) (kk gg tt : Int), u = .ref c /\ L[i]? = some [kk, gg, tt] /\ SqT K H c [.int kk, .int gg, .int tt] /\ eX ws hs [kk, gg, tt] = true := by
  have hx := aW h.2.2.1
  rw [List.length_map] at hx
  have hlt : i < L.length := by have := (List.getElem?_eq_some_iff.mp hu).1; omega
  have el : L[i]? = some L[i] := List.getElem?_eq_getElem hlt
  obtain ⟨c1, e1, e2⟩ := iW h.2.2.1 el
  rw [hu] at e1
  have hall : L.all (eX ws hs) = true := by unfold oY at hw; simp only [Bool.and_eq_true] at hw; exact hw.2.1
  have hst := List.all_eq_true.mp hall _ (List.getElem_mem hlt)
  obtain ⟨kk, gg, tt, e3⟩ := qS hst
  rw [e3] at e2 el hst
  exact ⟨c1, kk, gg, tt, Option.some.inj e1, el, e2, hst⟩
def xW (K : PySem.W.Frag) : Sp := fun vs H Q _ => ∃ x y p xs n ws hs L, vs = [x, y, .ref p] /\ WIn K H x y p xs n ws hs L /\ oY ws hs L = true /\ ∀ H', aE H H' -> Q .non H'
theorem aCf : FnScope ["book", "deal", "some"] ["book", "deal", "some"] (aF rT) := ⟨rfl, rfl, rfl, by decide +kernel, rfl, by decide +kernel, by decide +kernel⟩
theorem aBj {f fWy fS : Addr} {fd dWy dS : FuncData} (G : Fn K mg "need_way" rT ["book", "deal", "some"] f fd) (B : Bl mg) (R : Pr K mg fW fH fK fB fNB fD fND fL dW dH dK dB dNB dD dND dL) (GW : Fn K mg "is_way" vU ["book", "deal", "some"] fWy dWy) (GS : Fn K mg "is_step" qO ["book", "deal", "step"] fS dS) : FnOk P w K mg base CX0 8 f fd ["book", "deal", "some"] (xW K) := by
  have OWy : FnOk P w K mg base CX0 7 fWy dWy ["book", "deal", "some"] (aCy K) := aDb GW B R GS
  refine G.fn.ok aCf (fun vs H Q E h => ?_) (fun cdv A outer s H vs Q E hr h => ?_)
  · obtain ⟨x, y, p, xs, n, ws, hs, L, rfl, _⟩ := h
    rfl
  · obtain ⟨x, y, p, xs, n, ws, hs, L, rfl, hi, hw, k⟩ := h
    refine ⟨_, aG (cL (cY (dZ (aV GW OWy hr rfl (aA (pv 0) (aA (pv 1) (aA (pv 2) aB)))))) lR bE), ?_⟩
    refine ⟨_, rfl, _, rfl, _, rfl, x, y, p, xs, n, ws, hs, L, rfl, hi.1, hi.2.1, hi.2.2.1, hi.2.2.2.1, hi.2.2.2.2, fun H' s1 => ⟨_, rfl, ?_⟩⟩
    rw [hw]
    refine iN ?_
    exact k H' s1
def aBk (K : PySem.W.Frag) : Sp := fun vs H Q _ => ∃ x y p xs n ws hs L, vs = [x, y, .ref p] /\ WIn K H x y p xs n ws hs L /\ oY ws hs L = true /\ ∀ q H', aE H H' -> H q = none -> H' q = some (.tup ((kF hs L).map V.int)) -> Q (.ref q) H'
theorem pC : FnScope ["book", "deal", "some", "behind", "work", "giver", "taker"] ["book", "deal", "some"] (aF xJ) := ⟨rfl, rfl, rfl, by decide +kernel, rfl, by decide +kernel, by decide +kernel⟩
theorem aCg {f fN : Addr} {fd dN : FuncData} (G : Fn K mg "gone" xJ ["book", "deal", "some"] f fd) (B : Bl mg) (GNW : Fn K mg "need_way" rT ["book", "deal", "some"] fN dN) (ONW : FnOk P w K mg base CX0 8 fN dN ["book", "deal", "some"] (xW K)) : FnOk P w K mg base CX0 9 f fd ["book", "deal", "some"] (aBk K) := by
  refine G.fn.ok pC (fun vs H Q E h => ?_) (fun cdv A outer s H vs Q E hr h => ?_)
  · obtain ⟨x, y, p, xs, n, ws, hs, L, rfl, _⟩ := h
    rfl
  · obtain ⟨x, y, p, xs, n, ws, hs, L, rfl, hi, hw, k⟩ := h
    have r8 : Room 8 _ := hr
    refine ⟨_, (aD (eQ (aV GNW ONW r8 rfl (aA (pv 0) (aA (pv 1) (aA (pv 2) aB)))))
    (aD (aQ (i := 3) pC.nd rfl (Or.inl rfl) (cE iM rfl B.list rQ (aA (pv 1) aB)))
    (aD (eR PassesOwn.never rfl (mW (pv 2)) (gY rfl (bC (aL (i := 4) pC.nd rfl (Or.inl rfl)) (bC (aL (i := 5) pC.nd rfl (Or.inl rfl)) (bC (aL (i := 6) pC.nd rfl (Or.inl rfl)) eF))))
      (aG (iK (pv 6) (uV (pv 3) (pv 4) nY))))
    (aG (aP (cE bS rfl B.tuple cR (aA (pv 3) aB))))))), ?_⟩
    refine ⟨_, rfl, _, rfl, _, rfl, x, y, p, xs, n, ws, hs, L, rfl, hi, hw, fun H1 s1 => ?_⟩
    have hi1 := hi.same s1
    obtain ⟨c0, rfl, hc0⟩ := aO.mp hi1.1.2.2.1
    have hxl := aW hi.2.2.1
    rw [List.length_map] at hxl
    refine ⟨_, rfl, c0, _, rfl, .inr hc0, fun bh hbh => ?_⟩
    have s2 := aE.new (o := .lst (hs.map V.int)) hbh
    have e2 : upd H1 bh (.lst (hs.map V.int)) bh = some (.lst (hs.map V.int)) := aC
    generalize upd H1 bh (.lst (hs.map V.int)) = H2 at s2 e2 ⊢
    refine ⟨_, rfl, p, rfl, ⟨_, (hi1.same s2).2.1⟩, aAg (K := K) (a := p) (xs := xs) (fun i σ H3 => ∃ v4 v5 v6, σ = [some x, some (.ref c0), some (.ref p), some (.ref bh), v4, v5, v6] /\ aE H1 H3 /\ H3 bh = some (.lst ((kF hs (L.take i)).map V.int))) ⟨_, _, _, rfl, s2, e2⟩ (fun i σ H3 _ ⟨_, _, _, _, s3, _⟩ => (hi1.same s3).2.1) ?_ ?_⟩
    · rintro i u σ H3 hu ⟨v4, v5, v6, rfl, s3, e3⟩
      obtain ⟨c, kk, gg, tt, rfl, el, hc, hst⟩ := (hi1.same s3).nth hw hu
      obtain ⟨k0, k1, _⟩ := uF hst
      refine ⟨c, _, rfl, hc, rfl, _, _, rfl, _, _, rfl, _, _, rfl, rfl, ?_⟩
      refine ⟨_, rfl, _, rfl, _, rfl, bh, _, kk, kk.toNat, rfl, rfl, e3, aDc k0 (by rw [List.length_map, zO]; exact k1), ?_⟩
      refine ⟨_, _, _, rfl, s3.wr hbh, ?_⟩
      rw [aC, List.take_succ, el]
      show some (HO.lst _) = some (HO.lst ((kF hs (L.take i ++ [[kk, gg, tt]])).map V.int))
      rw [wA, List.map_set]
      rfl
    · rintro σ H3 ⟨v4, v5, v6, rfl, s3, e3⟩
      rw [hxl, List.take_of_length_le (Nat.le_refl _)] at e3
      refine ⟨_, rfl, bh, _, rfl, .inl ⟨SqL.of e3, fun q hq => k q _ ((s1.trans s3).trans (aE.new hq)) ((s1.trans s3).free hq) aC⟩⟩
end
end Ab
set_option linter.all false
namespace Ab
section
variable {ws : List (List Int)}
def cB (hs : List Int) (ss : List (Nat × Int × Int)) : List Int := ss.foldl (fun h s => h.set s.1 s.2.2) hs
theorem iG : ∀ (ss : List (Nat × Int × Int)) (hs : List Int), (cB hs ss).length = hs.length
  | [], _ => rfl
  | s :: r, hs => by show (cB (hs.set s.1 s.2.2) r).length = _; rw [iG r, List.length_set]
theorem pD : ∀ (hs : List Int) (w : Nat) (g t c : Int), hs[w]? = some g -> (((hs.set w t).count c : Nat) : Int) = ((hs.count c : Nat) : Int) - (if c = g then 1 else 0) + (if c = t then 1 else 0)
  | [], w, g, t, c, h => by simp at h
  | a :: r, 0, g, t, c, h => by
    have e : a = g := by simpa using h
    subst e
    rw [List.set_cons_zero, List.count_cons, List.count_cons]
    by_cases h1 : c = a <;> by_cases h2 : c = t
    · subst h1; subst h2; simp
    · subst h1; have : (t == c) = false := by simpa using fun z => h2 z.symm
      simp [h2, this]
    · subst h2; have : (a == c) = false := by simpa using fun z => h1 z.symm
      simp [h1, this]
    · have e1 : (a == c) = false := by simpa using fun z => h1 z.symm
      have e2 : (t == c) = false := by simpa using fun z => h2 z.symm
      simp [h1, h2, e1, e2]
  | a :: r, w + 1, g, t, c, h => by
    have ih := pD r w g t c (by simpa using h)
    rw [List.set_cons_succ, List.count_cons, List.count_cons]
    omega
theorem uG {hs : List Int} {w : Nat} {g u : Int} (hg : hs[w]? = some g) : ∀ {h x : Int} {r : List (Nat × Int × Int)}, bW ws hs h r x -> (∀ s ∈ r, s.2.1 ≠ g) -> bW ws (hs.set w u) h r x
  | _, _, [], e, _ => e
  | h, _, s :: r, ⟨e1, ⟨e2, e3⟩, e4⟩, hn => by
    refine ⟨e1, ⟨?_, e3⟩, uG hg e4 fun s' hs' => hn s' (List.mem_cons_of_mem _ hs')⟩
    have hne : w ≠ s.1 := fun z => by
      subst z
      rw [hg] at e2
      exact hn s (List.mem_cons_self ..) (e1.trans (Option.some.inj e2).symm)
    rw [List.getElem?_set_ne hne]
    exact e2
theorem uH {hs : List Int} {h x : Int} {ss : List (Nat × Int × Int)} (hp : bW ws hs h ss x) : ∀ s ∈ ss, s.2.1 ∈ h :: ss.map (·.2.2) := fun s hs' => by
  rw [<- kO hp]
  exact List.mem_append_left _ (List.mem_map.mpr ⟨s, hs', rfl⟩)
theorem iY : ∀ (ss : List (Nat × Int × Int)) {hs : List Int} {h x : Int}, bW ws hs h ss x -> (h :: ss.map (·.2.2)).Nodup -> ∀ c : Int, (((cB hs ss).count c : Nat) : Int) = ((hs.count c : Nat) : Int) - (if c = h then 1 else 0) + (if c = x then 1 else 0)
  | [], hs, h, x, hp, _, c => by
    have e : h = x := hp
    subst e
    show ((hs.count c : Nat) : Int) = _
    omega
  | s :: r, hs, h, x, ⟨e1, e2, e3⟩, hn, c => by
    rw [List.map_cons, List.nodup_cons] at hn
    have h1 := uG (u := s.2.2) e2.1 e3 fun s' hs' z => hn.1 (by rw [<- z]; exact uH e3 s' hs')
    have ih := iY r h1 hn.2 c
    have e := pD hs s.1 h s.2.2 c e2.1
    show (((cB (hs.set s.1 s.2.2) r).count c : Nat) : Int) = _
    omega
theorem iH : ∀ (ss : List (Nat × Int × Int)) {hs : List Int}, (∀ s ∈ ss, ∃ l, ws[s.1]? = some l /\ s.2.2 ∈ l) -> (∀ (j : Nat) (h : Int) (l : List Int), hs[j]? = some h -> ws[j]? = some l -> h ∈ l) -> ∀ (j : Nat) (h : Int) (l : List Int), (cB hs ss)[j]? = some h -> ws[j]? = some l -> h ∈ l
  | [], _, _, hd => hd
  | s :: r, hs, hl, hd => iH r (fun s' h' => hl s' (List.mem_cons_of_mem _ h')) fun j h l e1 e2 => by
    obtain ⟨l', z1, z2⟩ := hl s (List.mem_cons_self ..)
    rw [List.getElem?_set] at e1
    by_cases z : s.1 = j
    · subst z
      rw [if_pos rfl] at e1
      split at e1
      · rw [z1] at e2
        rw [<- Option.some.inj e2, <- Option.some.inj e1]; exact z2
      · cases e1
    · rw [if_neg z] at e1
      exact hd j h l e1 e2
def Tri : Nat -> Nat
  | 0 => 0
  | k + 1 => Tri k + k
def Sm (g : Nat -> Nat) : Nat -> Nat
  | 0 => 0
  | n + 1 => Sm g n + g n
theorem xX {g g' : Nat -> Nat} : ∀ n : Nat, (∀ i, i < n -> g' i = g i) -> Sm g' n = Sm g n
  | 0, _ => rfl
  | n + 1, h => by show Sm g' n + g' n = Sm g n + g n; rw [xX n fun i hi => h i (by omega), h n (by omega)]
theorem wB {g g' : Nat -> Nat} {a : Nat} : ∀ n : Nat, a < n -> (∀ i, i < n -> i ≠ a -> g' i = g i) -> Sm g' n + g a = Sm g n + g' a
  | 0, h, _ => by omega
  | n + 1, h, hh => by
    show Sm g' n + g' n + g a = Sm g n + g n + g' a
    by_cases e : a = n
    · subst e
      rw [xX a fun i hi => hh i (by omega) (by omega)]
      omega
    · have ih := wB (g := g) (g' := g') n (by omega) fun i hi hn => hh i (by omega) hn
      rw [hh n (by omega) (fun z => e z.symm)]
      omega
theorem aBl : ∀ k : Nat, k <= 12 -> Tri k <= 12 * k
  | 0, _ => Nat.le_refl _
  | k + 1, h => by have := aBl k (by omega); show Tri k + k <= _; omega
theorem aCz {g : Nat -> Nat} {b : Nat} (h : ∀ i, g i <= b) : ∀ n, Sm g n <= b * n
  | 0 => Nat.zero_le _
  | n + 1 => by have := aCz h n; have := h n; show Sm g n + g n <= _; rw [Nat.mul_succ]; omega
def Phi (n : Nat) (hs : List Int) : Nat := Sm (fun i => Tri (hs.count (i : Int))) n
theorem aDe {n : Nat} {hs : List Int} (h6 : n <= 6) (h : hs.length <= 12) : Phi n hs <= 864 := by
  have := aCz (g := fun i => Tri (hs.count (i : Int))) (b := 144) (fun i => by
    have h1 : hs.count (i : Int) <= hs.length := List.count_le_length
    have h2 := aBl _ (Nat.le_trans h1 h)
    show Tri (hs.count (i : Int)) <= 144
    omega) n
  unfold Phi
  omega
theorem aBm {n : Int} {hs : List Int} {ss : List (Nat × Int × Int)} (W : mP n ws hs ss) (ht : ∀ g w t, eC ws hs g w t -> 0 <= t /\ t < n) : Phi n.toNat (cB hs ss) < Phi n.toNat hs := by
  obtain ⟨h, x, hne, hP, hN, hh0, hh1, hRL, hge⟩ := W
  obtain ⟨s, hs'⟩ : ∃ s, ss[ss.length - 1]? = some s := ⟨_, List.getElem?_eq_getElem (by have := List.length_pos_iff.mpr hne; omega)⟩
  have ex := qT hP s hs'
  have hx := ht _ _ _ (jU hP _ s hs').1
  rw [ex] at hx
  have hc := iY ss hP hN
  have hhx : h ≠ x := fun z => by rw [z] at hge; omega
  have e1 := wB (g := fun i => Tri (hs.count (i : Int))) (g' := fun i => if i = h.toNat then Tri (hs.count h - 1) else Tri (hs.count (i : Int))) (a := h.toNat) n.toNat (by omega) (fun i _ z => if_neg z)
  have e2 := wB (g := fun i => if i = h.toNat then Tri (hs.count h - 1) else Tri (hs.count (i : Int))) (g' := fun i => Tri ((cB hs ss).count (i : Int))) (a := x.toNat) n.toNat (by omega) (fun i hi z => by
    have hci := hc (i : Int)
    by_cases zh : i = h.toNat
    · have zi : (i : Int) = h := by omega
      rw [if_pos zh]
      rw [zi, if_pos rfl, if_neg hhx] at hci
      rw [zi]
      show Tri ((cB hs ss).count h) = _
      congr 1
      omega
    · rw [if_neg zh]
      rw [if_neg (show ¬ (i : Int) = h by omega), if_neg (show ¬ (i : Int) = x by omega)] at hci
      show Tri ((cB hs ss).count (i : Int)) = _
      congr 1
      omega)
  have ch : ((h.toNat : Nat) : Int) = h := by omega
  have cx : ((x.toNat : Nat) : Int) = x := by omega
  simp only [if_pos, ch, cx, if_neg (show ¬ x.toNat = h.toNat by omega)] at e1 e2
  have hcx := hc x
  rw [if_neg (fun z => hhx z.symm), if_pos rfl] at hcx
  have hcx' : (cB hs ss).count x = hs.count x + 1 := by omega
  rw [hcx'] at e2
  have t1 : Tri (hs.count x + 1) = Tri (hs.count x) + hs.count x := rfl
  have t2 : Tri (hs.count h) = Tri (hs.count h - 1) + (hs.count h - 1) := by
    have : hs.count h = (hs.count h - 1) + 1 := by omega
    conv => lhs; rw [this]
    rfl
  unfold Phi
  omega
def lF (n : Int) (ws : List (List Int)) : List Int -> List (List (Nat × Int × Int)) -> List Int -> Prop
  | hs, [], he => hs = he
  | hs, ss :: r, he => mP n ws hs ss /\ lF n ws (cB hs ss) r he
theorem lF.snoc {n : Int} : ∀ {hs : List Int} {W : List (List (Nat × Int × Int))} {hc : List Int} {ss : List (Nat × Int × Int)}, lF n ws hs W hc -> mP n ws hc ss -> lF n ws hs (W ++ [ss]) (cB hc ss)
  | _, [], _, _, e, w => by cases e; exact ⟨w, rfl⟩
  | _, _ :: _, _, _, ⟨a, b⟩, w => ⟨a, lF.snoc b w⟩
end
end Ab
set_option Elab.async false
set_option linter.all false
set_option maxRecDepth 100000
namespace Ab
open PySem L2
theorem xY : ∀ (ss : List (Nat × Int × Int)) (hs : List Int), kF hs (ss.map jC) = cB hs ss
  | [], _ => rfl
  | s :: r, hs => by
    have e : ((jC s).getD 0 0).toNat = s.1 := Int.toNat_natCast _
    show kF (hs.set ((jC s).getD 0 0).toNat (oX (jC s))) (r.map jC) = cB (hs.set s.1 s.2.2) r
    rw [e, xY r]
    rfl
theorem aCh {ws : List (List Int)} {hs : List Int} {h x : Int} {ss : List (Nat × Int × Int)} (hne : ss ≠ []) (hP : bW ws hs h ss x) (hN : (h :: ss.map (·.2.2)).Nodup) : oY ws hs (ss.map jC) = true := by
  have hp : bK (ss.map jC) = h :: ss.map (·.2.2) := by
    cases ss with
    | nil => exact absurd rfl hne
    | cons s r =>
      show iV (jC s) :: ((s :: r).map jC).map oX = _
      rw [List.map_map, show iV (jC s) = h from hP.1]
      rfl
  unfold oY nG
  rw [hp, decide_eq_true hN, Bool.and_true, Bool.and_eq_true, Bool.and_eq_true]
  refine ⟨?_, ?_, ?_⟩
  · cases ss with
    | nil => exact absurd rfl hne
    | cons _ _ => rfl
  · rw [List.all_eq_true]
    intro st hst
    obtain ⟨s, hs', rfl⟩ := List.mem_map.mp hst
    obtain ⟨i, hi⟩ := List.mem_iff_getElem?.mp hs'
    obtain ⟨⟨e1, l, e2, e3, e4⟩, _⟩ := jU hP i s hi
    have hlt := (List.getElem?_eq_some_iff.mp e1).1
    show (decide (0 <= (s.1 : Int)) && (decide ((s.1 : Int) < hs.length) && (hs[(s.1 : Int).toNat]? == some s.2.1 && (!decide (s.2.2 = s.2.1) && decide (s.2.2 ∈ ws.getD (s.1 : Int).toNat []))))) = true
    rw [Int.toNat_natCast, e1, List.getD_eq_getElem?_getD, e2, decide_eq_true (show (0 : Int) <= s.1 by omega), decide_eq_true (show (s.1 : Int) < hs.length by omega), decide_eq_false e4, decide_eq_true (show s.2.2 ∈ (some l).getD [] from e3)]
    simp
  · rw [<- kO hP, List.all_eq_true]
    intro p hp'
    obtain ⟨i, hi⟩ := List.mem_iff_getElem?.mp hp'
    rw [List.getElem?_zip_eq_some] at hi
    obtain ⟨h1, h2⟩ := hi
    rw [List.getElem?_map] at h1
    cases q : ss[i]? with
    | none => rw [q] at h1; cases h1
    | some s =>
      rw [q] at h1
      have hlt := (List.getElem?_eq_some_iff.mp q).1
      rw [List.getElem?_append_left (by rw [List.length_map]; exact hlt), List.getElem?_map, q] at h2
      rw [<- Option.some.inj h1, <- Option.some.inj h2]
      exact beq_self_eq_true _
structure WaysAt (H : Hp) (qs : List Addr) (Ws : List (List (Nat × Int × Int))) : Prop where
  len : qs.length = Ws.length
  at_ : ∀ (i : Nat) q ss, qs[i]? = some q -> Ws[i]? = some ss -> ∃ ps : List Addr, H q = some (.lst (ps.map V.ref)) /\ StepsAt H ps ss
theorem WaysAt.same {H H' : Hp} {qs : List Addr} {Ws : List (List (Nat × Int × Int))} (h : WaysAt H qs Ws) (s : aE H H') : WaysAt H' qs Ws := ⟨h.len, fun i q ss a b => let ⟨ps, h1, h2⟩ := h.at_ i q ss a b; ⟨ps, s _ _ h1, h2.tp (Tp.of s)⟩⟩
theorem Tp.but {H H' : Hp} {t : Addr} {zs : List V} (b : But t H H') (ht : H t = some (.lst zs)) : Tp H H' := fun p xs h => b p _ (fun z => by rw [z, ht] at h; cases h) h
theorem WaysAt.but {H H' : Hp} {qs : List Addr} {Ws : List (List (Nat × Int × Int))} {t : Addr} {zs : List V} (h : WaysAt H qs Ws) (b : But t H H') (ht : H t = some (.lst zs)) (hn : ∀ q ∈ qs, q ≠ t) : WaysAt H' qs Ws := ⟨h.len, fun i q ss a e => let ⟨ps, h1, h2⟩ := h.at_ i q ss a e; ⟨ps, b _ _ (hn q (List.mem_of_getElem? a)) h1, h2.tp (Tp.but b ht)⟩⟩
theorem WaysAt.snoc {H : Hp} {qs : List Addr} {Ws : List (List (Nat × Int × Int))} {q : Addr} {ps : List Addr} {ss : List (Nat × Int × Int)} (h : WaysAt H qs Ws) (h1 : H q = some (.lst (ps.map V.ref))) (h2 : StepsAt H ps ss) : WaysAt H (qs ++ [q]) (Ws ++ [ss]) := by
  refine ⟨by rw [List.length_append, List.length_append, h.len]; rfl, fun i q' ss' a b => ?_⟩
  by_cases hi : i < qs.length
  · rw [List.getElem?_append_left hi] at a
    rw [List.getElem?_append_left (by rw [<- h.len]; exact hi)] at b
    exact h.at_ i q' ss' a b
  · rw [List.getElem?_append_right (by omega)] at a
    rw [List.getElem?_append_right (by rw [<- h.len]; omega)] at b
    have hlt := (List.getElem?_eq_some_iff.mp a).1
    have e0 : i - qs.length = 0 := by simp at hlt; omega
    rw [e0] at a
    rw [<- h.len, e0] at b
    have ea : q = q' := by simpa using a
    have eb : ss = ss' := by simpa using b
    subst ea; subst eb
    exact ⟨ps, h1, h2⟩
def aDf (n : Int) (ws : List (List Int)) (hs : List Int) (H' : Hp) (p : Addr) : Prop :=
  ∃ wl dl qs Ws he lv, H' p = some (.tup [.ref wl, .ref dl]) /\ H' wl = some (.lst (qs.map V.ref)) /\ WaysAt H' qs Ws /\ Ws.length <= 864 /\ H' dl = some (.tup (he.map V.int)) /\ lF n ws hs Ws he /\ bA n ws he lv
section
variable {P : Program} {w : World} {K : PySem.W.Frag} {mg : Str -> Option Value} {base : Heap}
def pE (K : PySem.W.Frag) (Pt : Addr) : Sp := fun vs H Q _ => ∃ x y n ws hs, vs = [x, y] /\ dQ K H x y n ws hs /\ H Pt = some (.tab mV) /\ ∀ p H', aE H H' -> aDf n ws hs H' p -> Q (.ref p) H'
theorem dQ.but {H H' : Hp} {x y : V} {n : Int} {ws : List (List Int)} {hs : List Int} {t : Addr} {zs : List V} (g : dQ K H x y n ws hs) (b : But t H H') (ht : H t = some (.lst zs)) : dQ K H' x y n ws hs := ⟨b.den ht _ _ (tZ n ws) g.1, g.2.1, b.den ht _ _ (tY hs) g.2.2.1, g.2.2.2⟩
theorem dQ.edge {H : Hp} {x y : V} {n : Int} {ws : List (List Int)} {hs : List Int} (g : dQ K H x y n ws hs) : ∀ a w t, eC ws hs a w t -> 0 <= t /\ t < n := fun a w t e => by
  obtain ⟨_, _, hw12, hws⟩ := bJ g.2.1
  obtain ⟨_, l, h1, h2, _⟩ := e
  exact (cG (hws l (List.mem_of_getElem? h1))).2.1 t h2
theorem dQ.short {H : Hp} {x y : V} {n : Int} {ws : List (List Int)} {hs : List Int} {ss : List (Nat × Int × Int)} (g : dQ K H x y n ws hs) (W : mP n ws hs ss) : ss.length <= 12 := by
  obtain ⟨hl12, hn1, hn6⟩ := g.len
  obtain ⟨h, xx, hne, hP, hN, hh0, hh1, hRL, hge⟩ := W
  have := iE n.toNat (h :: ss.map (·.2.2)) hN fun z hz => by
    rcases List.mem_cons.mp hz with rfl | hz
    · omega
    · obtain ⟨s', hs', rfl⟩ := List.mem_map.mp hz
      obtain ⟨i, hi⟩ := List.mem_iff_getElem?.mp hs'
      have := g.edge _ _ _ (jU hP i s' hi).1
      omega
  rw [List.length_cons, List.length_map] at this
  omega
theorem dQ.gone {H : Hp} {x y : V} {n : Int} {ws : List (List Int)} {hs : List Int} {ss : List (Nat × Int × Int)} (g : dQ K H x y n ws hs) (W : mP n ws hs ss) {d : Addr} (hd : SqT K H d ((cB hs ss).map V.int)) : dQ K H x (.ref d) n ws (cB hs ss) := by
  obtain ⟨hdl, hdg⟩ := aJ g.2.2.2
  obtain ⟨h, xx, hne, hP, _⟩ := W
  refine ⟨g.1, g.2.1, aO.mpr ⟨d, rfl, hd⟩, fV (by rw [iG]; exact hdl) (iH ss (fun s hs' => ?_) hdg)⟩
  obtain ⟨i, hi⟩ := List.mem_iff_getElem?.mp hs'
  obtain ⟨⟨_, l, e2, e3, _⟩, _⟩ := jU hP i s hi
  exact ⟨l, e2, e3⟩
theorem eK : FnScope ["book", "deal", "ways", "word", "shown"] ["book", "deal"] (aF iC) := ⟨rfl, rfl, rfl, by decide +kernel, rfl, by decide +kernel, by decide +kernel⟩
theorem uI {f fLw fG Pt : Addr} {fd dLw dG : FuncData} (G : Fn K mg "bettered" iC ["book", "deal"] f fd) (B : Bl mg)
    (GLw : Fn K mg "levels_or_way" aA4 ["book", "deal"] fLw dLw) (OLw : FnOk P w K mg base CX0 8 fLw dLw ["book", "deal"] (xV K Pt))
    (GG : Fn K mg "gone" xJ ["book", "deal", "some"] fG dG) (OG : FnOk P w K mg base CX0 9 fG dG ["book", "deal", "some"] (aBk K)) : FnOk P w K mg base CX0 10 f fd ["book", "deal"] (pE K Pt) := by
  refine G.fn.ok eK (fun vs H Q E h => ?_) (fun cdv A outer s H vs Q E hr h => ?_)
  · obtain ⟨x, y, n, ws, hs, rfl, _⟩ := h
    rfl
  · obtain ⟨x, y, n, ws, hs, rfl, g, hT, k⟩ := h
    have r9 : Room 9 _ := hr
    have r8 : Room 8 _ := hr.mono (by decide)
    refine ⟨_, (aD (aQ (i := 2) eK.nd rfl (Or.inl rfl) (eS aB))
    (aD (iK (aV GLw OLw r8 rfl (aA (pv 0) (aA (pv 1) aB))) (gY rfl (bC (aL (i := 3) eK.nd rfl (Or.inl rfl)) (bC (aL (i := 4) eK.nd rfl (Or.inl rfl)) eF))))
    (aD (nQ PassesOwn.never (bH nU (pv 3) uT (bN _))
      (aD (eQ (mJ PySem.F.plainAttrs_list PySem.F.slot_list_append PySem.F.type_list_append hV (pv 2) (aA (pv 4) aB)))
    (aD (aQ (i := 1) eK.nd rfl (Or.inl rfl) (aV GG OG r9 rfl (aA (pv 0) (aA (pv 1) (aA (pv 4) aB)))))
    (aG (iK (aV GLw OLw r8 rfl (aA (pv 0) (aA (pv 1) aB))) (gY rfl (bC (aL (i := 3) eK.nd rfl (Or.inl rfl)) (bC (aL (i := 4) eK.nd rfl (Or.inl rfl)) eF))))))))
    (aG (aP (gC (aA (pv 2) (aA (cE bS rfl B.tuple cR (aA (cM (own := ["hand"]) (fr := []) (frn := []) (bI (aF iC) ["book", "deal", "ways", "word", "shown"] rfl rfl (by decide +kernel)) rfl (iL (pv 1))
        (fun _ _ _ _ => (aL (i := 0) (show (["hand"] : List Str).Nodup by decide +kernel) rfl (Or.inl rfl))) (fun _ _ _ _ => dJ)
        (fun _ _ _ _ => (pv 0))) aB)) aB)))))))), ?_⟩
    obtain ⟨hl12, hn1, hn6⟩ := g.len
    obtain ⟨c0, rfl, _⟩ := aO.mp g.2.2.1
    refine ⟨eN (Nat.zero_le _), fun wl hwl => ?_⟩
    have s0 := aE.new (o := .lst []) hwl
    have e0 : upd H wl (.lst []) wl = some (.lst []) := aC
    generalize upd H wl (.lst []) = H0 at s0 e0 ⊢
    refine ⟨_, rfl, _, rfl, x, .ref c0, n, ws, hs, rfl, g.same s0, s0 _ _ hT, fun p1 H1 s1 TD => ?_⟩
    obtain ⟨W, hW⟩ : ∃ W : Nat -> St -> Hp -> Prop, W = fun m σ H1 => ∃ (d q : Addr) (hc : List Int) (Ws : List (List (Nat × Int × Int))) (qs : List Addr) (word : Str), σ = [some x, some (.ref d), some (.ref wl), some (.str word), some (.ref q)] /\ aE H H1 /\ dQ K H1 x (.ref d) n ws hc /\ H1 wl = some (.lst (qs.map V.ref)) /\ WaysAt H1 qs Ws /\ (∀ z ∈ qs, z ≠ wl) /\ lF n ws hs Ws hc /\ Ws.length + Phi n.toNat hc <= 864 /\ m = Phi n.toNat hc /\
        ((word = "levels" /\ ∃ lv, bA n ws hc lv) ∨ (word = "way" /\ q ≠ wl /\ ∃ ps ss, H1 q = some (.lst (ps.map V.ref)) /\ StepsAt H1 ps ss /\ mP n ws hc ss)) := ⟨_, rfl⟩
    -- what is told is taken up
    have take : ∀ (d p1 : Addr) (hc : List Int) (Ws : List (List (Nat × Int × Int))) (qs : List Addr) (Ha Hb : Hp), aE H Ha -> aE Ha Hb -> dQ K Ha x (.ref d) n ws hc -> Ha wl = some (.lst (qs.map V.ref)) -> WaysAt Ha qs Ws -> (∀ z ∈ qs, z ≠ wl) -> lF n ws hs Ws hc -> Ws.length + Phi n.toNat hc <= 864 -> aDZ n ws hc Ha Hb p1 ->
        ∃ word q, Hb p1 = some (.tup [.str word, .ref q]) /\ W (Phi n.toNat hc) [some x, some (.ref d), some (.ref wl), some (.str word), some (.ref q)] Hb := by
      intro d p1 hc Ws qs Ha Hb sa sb ga ea wa na ca la TD
      subst hW
      rcases TD with ⟨q, lv, h1, _, h2⟩ | ⟨q, ps, ss, h1, h2, h3, h4, h5⟩
      · exact ⟨_, q, h1, d, q, hc, Ws, qs, _, rfl, sa.trans sb, ga.same sb, sb _ _ ea, wa.same sb, na, ca, la, rfl, .inl ⟨rfl, lv, h2⟩⟩
      · exact ⟨_, q, h1, d, q, hc, Ws, qs, _, rfl, sa.trans sb, ga.same sb, sb _ _ ea, wa.same sb, na, ca, la, rfl, .inr ⟨rfl, (fun z => by rw [z, ea] at h2; cases h2), ps, ss, h3, h4, h5⟩⟩
    obtain ⟨word, q, h1, w1⟩ := take c0 p1 hs [] [] H0 H1 s0 s1 (g.same s0) e0 ⟨rfl, fun i q ss a => by simp at a⟩ (fun _ h => (List.not_mem_nil h).elim) rfl (by have := aDe (n := n.toNat) (hs := hs) (by omega) hl12; simpa using this) TD
    refine ⟨p1, _, rfl, SqT.of h1, rfl, _, _, rfl, _, _, rfl, rfl, ?_⟩
    refine ⟨W, ⟨_, w1⟩, ?_⟩
    intro m σ H2 w2
    have w2' := w2
    rw [hW] at w2'
    obtain ⟨d, q, hc, Ws, qs, word, rfl, s2, g2, e2, wa2, na2, ch2, le2, hm, alt⟩ := w2'
    refine ⟨_, rfl, rfl, _, rfl, ?_⟩
    rcases alt with ⟨rfl, lv, hlv⟩ | ⟨rfl, nq, ps, ss, hq, hS, hWy⟩
    · rw [decide_eq_false (show ¬ V.str "levels" = V.str "way" by intro z; injection z with z; revert z; decide)]
      refine iN ?_
      obtain ⟨c1, ec, hc1⟩ := aO.mp g2.2.2.1
      obtain rfl : d = c1 := by injection ec
      obtain ⟨hlc, _, _⟩ := g2.len
      refine ⟨_, rfl, _, rfl, d, rfl, ⟨_, hc1⟩, aAK (K := K) (a := d) (xs := hc.map V.int) (vs := hc.map V.int) (fun σ => ∃ v, σ = [v]) (by rw [List.length_map]; omega) rfl hc1 ⟨none, rfl⟩ ?_ ?_⟩
      · rintro j xv v σ H3 hx hv ⟨v', rfl⟩ s3 Q' hQ'
        rw [hx] at hv
        obtain rfl := Option.some.inj hv
        exact ⟨_, rfl, hQ' _ _ ⟨_, rfl⟩ (aE.refl _)⟩
      · rintro H3 s3 z hz
        have s4 := aE.new (o := .lst (hc.map V.int)) hz
        refine ⟨z, _, rfl, .inl ⟨SqL.of aC, fun dl hdl => ?_⟩⟩
        have s5 := aE.new (o := .tup (hc.map V.int)) hdl
        refine ⟨sz2 _ _, fun p hp => ?_⟩
        have s6 := aE.new (o := .tup [.ref wl, .ref dl]) hp
        have s36 := ((s3.trans s4).trans s5).trans s6
        exact k p _ (s2.trans s36) ⟨wl, dl, qs, Ws, hc, lv, aC, s36 _ _ e2, wa2.same s36, by omega, s6 _ _ aC, ch2, hlv⟩
    · rw [decide_eq_true rfl]
      refine iO ?_
      refine ⟨fun σ' H' => ∃ m', m' < m /\ W m' σ' H', fun _ _ z => z, ?_⟩
      have hql : (qs.map V.ref).length < sizeLine := by rw [List.length_map, wa2.len]; exact Nat.lt_of_le_of_lt (show Ws.length <= 864 by omega) (by rw [sizeLine_eq]; decide)
      refine ⟨_, rfl, .inl ⟨rfl, _, SqL.of e2⟩, _, rfl, wl, _, _, rfl, rfl, e2, hql, ?_⟩
      have b3 : But wl H2 (upd H2 wl (.lst (qs.map V.ref ++ [.ref q]))) := But.at
      have e3 : upd H2 wl (.lst (qs.map V.ref ++ [.ref q])) wl = some (.lst ((qs ++ [q]).map V.ref)) := by rw [aC, List.map_append]; rfl
      have s3 : aE H (upd H2 wl (.lst (qs.map V.ref ++ [.ref q]))) := s2.wr hwl
      have g3 := g2.but b3 e2
      have hq3 := b3 _ _ nq hq
      have hS3 := hS.tp (Tp.but b3 e2)
      have wa3 := (wa2.but b3 e2 na2).snoc hq3 hS3
      generalize upd H2 wl (.lst (qs.map V.ref ++ [.ref q])) = H3 at b3 e3 s3 g3 hq3 hS3 wa3 ⊢
      obtain ⟨h, xx, hne, hP, hN, hrest⟩ := id hWy
      have hsl := g2.short hWy
      refine ⟨_, rfl, _, rfl, _, rfl, x, .ref d, q, ps.map V.ref, n, ws, hc, ss.map jC, rfl, ⟨g3, SqL.of hq3, hS3.den, by rw [List.length_map]; omega, fun l hl => ?_⟩, aCh hne hP hN, fun d' H4 s4 hd' e4 => ?_⟩
      · obtain ⟨s', _, rfl⟩ := List.mem_map.mp hl
        exact (show 3 <= 1000 by decide)
      rw [xY] at e4
      have g4 := (g3.same s4).gone hWy (SqT.of e4)
      have hless := aBm hWy g2.edge
      refine ⟨_, rfl, _, rfl, x, .ref d', n, ws, cB hc ss, rfl, g4, s4 _ _ (s3 _ _ hT), fun p5 H5 s5 TD5 => ?_⟩
      obtain ⟨word, q', h5, w5⟩ := take d' p5 (cB hc ss) (Ws ++ [ss]) (qs ++ [q]) H4 H5 (s3.trans s4) s5 g4 (s4 _ _ e3) (wa3.same s4) (fun z hz => by
        rcases List.mem_append.mp hz with hz | hz
        · exact na2 z hz
        · rw [List.mem_singleton.mp hz]; exact nq) (ch2.snoc hWy) (by rw [List.length_append]; show Ws.length + 1 + _ <= 864; omega) TD5
      refine ⟨p5, _, rfl, SqT.of h5, rfl, _, _, rfl, _, _, rfl, rfl, ?_⟩
      exact ⟨_, by omega, w5⟩
end
end Ab
set_option Elab.async false
set_option linter.all false
set_option maxRecDepth 100000
namespace Ab
open PySem L2
def iZ (a b : List Int) : Bool := (List.range (a.length + 1)).all fun k => decide (aU (a.take k) <= aU (b.take k))
theorem uJ {a b : List Int} (h : ∀ k, k <= a.length -> aU (a.take k) <= aU (b.take k)) : iZ a b = true := by
  unfold iZ
  rw [List.all_eq_true]
  intro k hk
  have := List.mem_range.mp hk
  exact decide_eq_true (h k (by omega))
section
variable {X : Cx} {K : PySem.W.Frag}
end
section
variable {P : Program} {w : World} {K : PySem.W.Frag} {mg : Str -> Option Value} {base : Heap}
variable {fW fH fK fB fNB fD fND fL : Addr} {dW dH dK dB dNB dD dND dL : FuncData}
def qU (K : PySem.W.Frag) : Sp := fun vs H Q _ => ∃ x y n ws hs, vs = [x, y] /\ dQ K H x y n ws hs /\ ∀ p H' (ms : List Int), aE H H' -> H p = none -> H' p = some (.lst (ms.map V.int)) -> ms.Perm (aI n hs) -> ms.Pairwise (· ≥ ·) -> Q (.ref p) H'
theorem zP : FnScope ["book", "deal"] ["book", "deal"] (aF kZ) := ⟨rfl, rfl, rfl, by decide +kernel, rfl, by decide +kernel, by decide +kernel⟩
theorem wC {f : Addr} {fd : FuncData} (G : Fn K mg "falling" kZ ["book", "deal"] f fd) (B : Bl mg) (R : Pr K mg fW fH fK fB fNB fD fND fL dW dH dK dB dNB dD dND dL) : FnOk P w K mg base CX0 8 f fd ["book", "deal"] (qU K) := by
  have OL : FnOk P w K mg base CX0 7 fL dL ["book", "deal"] (lD K) := lE B R
  refine G.fn.ok zP (fun vs H Q E h => ?_) (fun cdv A outer s H vs Q E hr h => ?_)
  · obtain ⟨x, y, n, ws, hs, rfl, _⟩ := h
    rfl
  · obtain ⟨x, y, n, ws, hs, rfl, g, k⟩ := h
    refine ⟨_, aG (aP (pR rfl B.sorted (aV R.L OL hr rfl (aA (pv 0) (aA (pv 1) aB))))), ?_⟩
    obtain ⟨hl, hn1, hn6⟩ := g.len
    refine ⟨_, rfl, _, rfl, x, y, n, ws, hs, rfl, g, fun p H1 s1 hp => ?_⟩
    refine ⟨p, aI n hs, rfl, .inr (SqT.of hp), by rw [aN]; omega, fun q ms hq hpm hpw => ?_⟩
    exact k q _ ms (s1.trans (aE.new hq)) (s1.free hq) aC hpm hpw
end
end Ab
set_option Elab.async false
set_option linter.all false
set_option maxRecDepth 100000
namespace Ab
open PySem L2
theorem cU : ∀ (a b : List Int), aU (a ++ b) = aU a + aU b
  | [], b => by rw [List.nil_append, show aU ([] : List Int) = 0 from rfl, Int.zero_add]
  | x :: a, b => by
    show x + aU (a ++ b) = x + aU a + aU b
    rw [cU a b]; omega
theorem wD {a b : List Int} (h : a.Perm b) : aU a = aU b := by
  induction h with
  | nil => rfl
  | cons x _ ih => exact congrArg (x + ·) ih
  | swap x y l => show y + (x + aU l) = x + (y + aU l); omega
  | trans _ _ h1 h2 => exact h1.trans h2
theorem lG {α : Type} {f g : α -> Int} : ∀ {l : List α}, (∀ x ∈ l, f x <= g x) -> aU (l.map f) <= aU (l.map g)
  | [], _ => Int.le_refl _
  | x :: l, h => by
    show f x + aU (l.map f) <= g x + aU (l.map g)
    have h1 := h x (List.mem_cons_self ..)
    have h2 := lG (l := l) (f := f) (g := g) fun y hy => h y (List.mem_cons_of_mem _ hy)
    omega
theorem gB {α : Type} {f g : α -> Int} {l : List α} (h : ∀ x ∈ l, f x = g x) : aU (l.map f) = aU (l.map g) := by
  rw [List.map_congr_left h]
theorem dX {α : Type} (f g : α -> Int) : ∀ (l : List α), aU (l.map fun x => f x + g x) = aU (l.map f) + aU (l.map g)
  | [] => rfl
  | x :: l => by
    show f x + g x + aU (l.map fun x => f x + g x) = f x + aU (l.map f) + (g x + aU (l.map g))
    rw [dX f g l]; omega
theorem gR {α : Type} {f : α -> Int} : ∀ {l : List α}, (∀ x ∈ l, f x = 0) -> aU (l.map f) = 0
  | [], _ => rfl
  | x :: l, h => by
    show f x + aU (l.map f) = 0
    rw [h x (List.mem_cons_self ..), gR fun y hy => h y (List.mem_cons_of_mem _ hy)]; rfl
def ex (t : Int) (l : List Int) : Int := aU (l.map fun x => max (x - t) 0)
theorem qV (t : Int) : ∀ l : List Int, 0 <= ex t l
  | [] => Int.le_refl _
  | x :: l => by
    show 0 <= max (x - t) 0 + ex t l
    have := qV t l
    omega
theorem jV {t : Int} {a b : List Int} (h : a.Perm b) : ex t a = ex t b := wD (h.map _)
theorem uK (t : Int) (l : List Int) (k : Nat) : ex t l = ex t (l.take k) + ex t (l.drop k) := by
  unfold ex
  rw [<- cU, <- List.map_append, List.take_append_drop]
theorem aBn (t : Int) : ∀ l : List Int, aU l <= l.length * t + ex t l
  | [] => by show (0 : Int) <= _; rw [List.length_nil]; show (0 : Int) <= 0 * t + 0; omega
  | x :: l => by
    have h := aBn t l
    show x + aU l <= ((l.length + 1 : Nat) : Int) * t + (max (x - t) 0 + ex t l)
    have e : ((l.length + 1 : Nat) : Int) * t = (l.length : Int) * t + t := by rw [Int.natCast_add, Int.add_mul]; simp
    rw [e]
    generalize (l.length : Int) * t = z at h
    omega
theorem aBo {t : Int} : ∀ {l : List Int}, (∀ x ∈ l, t <= x) -> l.length * t + ex t l = aU l
  | [], _ => by show (0 : Int) * t + 0 = 0; omega
  | x :: l, h => by
    have h1 := aBo (t := t) (l := l) fun y hy => h y (List.mem_cons_of_mem _ hy)
    have h2 := h x (List.mem_cons_self ..)
    show ((l.length + 1 : Nat) : Int) * t + (max (x - t) 0 + ex t l) = x + aU l
    have e : ((l.length + 1 : Nat) : Int) * t = (l.length : Int) * t + t := by rw [Int.natCast_add, Int.add_mul]; simp
    rw [e]
    generalize (l.length : Int) * t = z at h1
    omega
theorem aCi {t : Int} {l : List Int} (h : ∀ x ∈ l, x <= t) : ex t l = 0 := gR fun x hx => by have := h x hx; omega
theorem wE {a b ms ys : List Int} (hl : a.length = b.length) (h : ∀ t, ex t a <= ex t b) (hm : ms.Perm a) (hy : ys.Perm b) (sy : ys.Pairwise (· ≥ ·)) (k : Nat) (hk : k <= ms.length) : aU (ms.take k) <= aU (ys.take k) := by
  cases k with
  | zero => rw [List.take_zero, List.take_zero]; exact Int.le_refl _
  | succ k =>
    have hyl : ys.length = ms.length := by rw [hy.length_eq, hm.length_eq, hl]
    have hlt : k < ys.length := by omega
    have hd := List.take_append_drop (k + 1) ys
    have hall : ∀ i j, i <= j -> ∀ x y, ys[i]? = some x -> ys[j]? = some y -> y <= x := fun i j hij x y ea eb => by
      rcases Nat.lt_or_ge i j with h | h
      · obtain ⟨hi, rfl⟩ := List.getElem?_eq_some_iff.mp ea
        obtain ⟨hj, rfl⟩ := List.getElem?_eq_some_iff.mp eb
        exact List.pairwise_iff_getElem.mp sy i j hi hj h
      · have := Nat.le_antisymm hij h
        subst this
        rw [ea] at eb
        rw [Option.some.inj eb]; exact Int.le_refl _
    have et : ys[k]? = some ys[k] := List.getElem?_eq_getElem hlt
    generalize ys[k] = t at et
    have h1 : ∀ x ∈ ys.take (k + 1), t <= x := fun x hx => by
      obtain ⟨i, hi⟩ := List.mem_iff_getElem?.mp hx
      have hik : i < k + 1 := by have := (List.getElem?_eq_some_iff.mp hi).1; rw [List.length_take] at this; omega
      rw [List.getElem?_take, if_pos hik] at hi
      exact hall i k (by omega) x t hi et
    have h2 : ∀ x ∈ ys.drop (k + 1), x <= t := fun x hx => by
      obtain ⟨i, hi⟩ := List.mem_iff_getElem?.mp hx
      rw [List.getElem?_drop] at hi
      exact hall k (k + 1 + i) (by omega) t x et hi
    have e1 := aBn t (ms.take (k + 1))
    have e2 := aBo h1
    have e3 := uK t ms (k + 1)
    have e4 := uK t ys (k + 1)
    have e5 := aCi h2
    have e6 := qV t (ms.drop (k + 1))
    have e7 := h t
    rw [<- jV hm, <- jV hy] at e7
    have l1 : (ms.take (k + 1)).length = (ys.take (k + 1)).length := by rw [List.length_take, List.length_take]; omega
    rw [l1] at e1
    omega
theorem lH {a b ms ys : List Int} (hl : a.length = b.length) (h : ∀ t, ex t a <= ex t b) (hm : ms.Perm a) (hy : ys.Perm b) (sy : ys.Pairwise (· ≥ ·)) : iZ ms ys = true := uJ fun k hk => wE hl h hm hy sy k hk
def inS (p : Int -> Bool) (hs : List Int) : Int := aU (hs.map fun h => if p h then 1 else 0)
theorem sE {p : Int -> Bool} : ∀ {hs hs' : List Int}, hs.length = hs'.length -> (∀ (i : Nat) g t, hs[i]? = some g -> hs'[i]? = some t -> p g = true -> p t = true) -> inS p hs <= inS p hs'
  | [], [], _, _ => Int.le_refl _
  | g :: hs, t :: hs', hl, h => by
    have h1 := sE (p := p) (hs := hs) (hs' := hs') (by simpa using hl) fun i a b ha hb => h (i + 1) a b (by simpa using ha) (by simpa using hb)
    have h2 := h 0 g t rfl rfl
    show (if p g then (1 : Int) else 0) + inS p hs <= (if p t then (1 : Int) else 0) + inS p hs'
    cases hg : p g with
    | false =>
      simp only [Bool.false_eq_true, if_false]
      split <;> omega
    | true =>
      rw [h2 hg]
      simp only [if_true]
      omega
  | [], _ :: _, hl, _ => by simp at hl
  | _ :: _, [], hl, _ => by simp at hl
theorem aCj {m : Nat} {h : Int} (p : Int -> Bool) (h0 : 0 <= h) (h1 : h < m) : aU ((bY m).map fun i => if p i then (if h = i then 1 else 0) else 0) = if p h then 1 else 0 := by
  induction m with
  | zero => omega
  | succ m ih =>
    have e : bY (m + 1) = bY m ++ [(m : Int)] := by unfold bY; rw [List.range_succ, List.map_append]; rfl
    rw [e, List.map_append, cU]
    show _ + ((if p (m : Int) then (if h = (m : Int) then (1 : Int) else 0) else 0) + 0) = _
    by_cases hm : h = (m : Int)
    · rw [gR (l := bY m) (f := fun i => if p i then (if h = i then 1 else 0) else 0) fun x hx => by
        unfold bY at hx
        obtain ⟨i, hi, rfl⟩ := List.mem_map.mp hx
        have hi' := List.mem_range.mp hi
        rw [if_neg (show ¬ h = ((i : Nat) : Int) by omega)]
        split <;> rfl]
      rw [if_pos hm, hm]
      omega
    · rw [ih (by omega), if_neg hm]
      have : (if p (m : Int) = true then (0 : Int) else 0) = 0 := by split <;> rfl
      rw [this]
      omega
theorem fO {n : Int} (p : Int -> Bool) : ∀ {hs : List Int}, (∀ h ∈ hs, 0 <= h /\ h < n) -> aU ((bY n.toNat).map fun h => if p h then ((hs.count h : Nat) : Int) else 0) = inS p hs
  | [], _ => by
    show _ = (0 : Int)
    exact gR fun x _ => by
      rw [List.count_nil]
      split <;> rfl
  | h :: hs, hh => by
    have ih := fO (n := n) p (hs := hs) fun x hx => hh x (List.mem_cons_of_mem _ hx)
    have hb := hh h (List.mem_cons_self ..)
    have e1 := aCj (m := n.toNat) p hb.1 (by omega)
    show _ = (if p h then (1 : Int) else 0) + inS p hs
    rw [<- ih, <- e1, <- dX]
    refine gB fun i _ => ?_
    rw [List.count_cons]
    by_cases hp : p i = true
    · rw [if_pos hp, if_pos hp, if_pos hp]
      by_cases hi : h = i
      · rw [if_pos hi, if_pos (by rw [hi]; simp)]; omega
      · rw [if_neg hi, if_neg (by simpa using hi)]; omega
    · rw [if_neg hp, if_neg hp, if_neg hp]; rfl
theorem qW {n : Int} {ws : List (List Int)} {hs hs' lv : List Int} (L : bA n ws hs lv) (hr : ∀ h ∈ hs, 0 <= h /\ h < n) (hr' : ∀ h ∈ hs', 0 <= h /\ h < n) (hl : hs.length = hs'.length)
    (ha : ∀ (i : Nat) t, hs'[i]? = some t -> ∃ l, ws[i]? = some l /\ t ∈ l) (t : Int) : ex t (aI n hs) <= ex t (aI n hs') := by
  obtain ⟨hlv, hL⟩ := L
  have at_ : ∀ h : Int, 0 <= h -> h < n -> ∃ v, lv[h.toNat]? = some v /\ kE ws hs n.toNat h v /\ ((hs.count h : Nat) : Int) - v < 2 := fun h h0 h1 => by
    have hlt : h.toNat < lv.length := by omega
    have e := List.getElem?_eq_getElem hlt
    obtain ⟨m1, m2⟩ := hL _ _ e
    rw [show ((h.toNat : Nat) : Int) = h by omega] at m1 m2
    exact ⟨_, e, m1, m2⟩
  let p : Int -> Bool := fun h => decide (t <= lv.getD h.toNat 0)
  have pv : ∀ h v, lv[h.toNat]? = some v -> p h = decide (t <= v) := fun h v e => by
    show decide (t <= lv.getD h.toNat 0) = _
    rw [List.getD_eq_getElem?_getD, e]; rfl
  have up : ∀ x ∈ bY n.toNat, 0 <= x /\ x < n := fun x hx => by
    unfold bY at hx
    obtain ⟨i, hi, rfl⟩ := List.mem_map.mp hx
    have := List.mem_range.mp hi
    omega
  have e1 : ex t (aI n hs) = aU ((bY n.toNat).map fun h => if p h then ((hs.count h : Nat) : Int) else 0) + aU ((bY n.toNat).map fun h => if p h then -t else 0) := by
    unfold ex aI
    rw [List.map_map, <- dX]
    refine gB fun h hh => ?_
    obtain ⟨h0, h1⟩ := up h hh
    obtain ⟨v, ev, mv, dv⟩ := at_ h h0 h1
    have lev := mv.le
    show max (((hs.count h : Nat) : Int) - t) 0 = _
    rw [pv h v ev]
    by_cases hp : t <= v
    · rw [decide_eq_true hp, if_pos rfl, if_pos rfl]; omega
    · rw [decide_eq_false hp, if_neg Bool.false_ne_true, if_neg Bool.false_ne_true]; omega
  have e2 : aU ((bY n.toNat).map fun h => if p h then ((hs'.count h : Nat) : Int) else 0) + aU ((bY n.toNat).map fun h => if p h then -t else 0) <= ex t (aI n hs') := by
    unfold ex aI
    rw [List.map_map, <- dX]
    refine lG fun h hh => ?_
    show _ <= max (((hs'.count h : Nat) : Int) - t) 0
    split <;> omega
  have e3 : inS p hs <= inS p hs' := by
    refine sE hl fun i g u hg hu hpg => ?_
    obtain ⟨l, el, hul⟩ := ha i u hu
    have gb := hr g (List.mem_of_getElem? hg)
    have ub := hr' u (List.mem_of_getElem? hu)
    obtain ⟨vg, evg, mg, _⟩ := at_ g gb.1 gb.2
    obtain ⟨vu, evu, mu, _⟩ := at_ u ub.1 ub.2
    rw [pv g vg evg] at hpg
    rw [pv u vu evu]
    have hle : vg <= vu := by
      by_cases hgu : u = g
      · subst hgu
        rw [evg] at evu
        rw [Option.some.inj evu]; exact Int.le_refl _
      · exact mg.edge mu (w := i) ⟨hg, l, el, hul, hgu⟩
    exact decide_eq_true (Int.le_trans (of_decide_eq_true hpg) hle)
  rw [fO p hr] at e1
  rw [fO p hr'] at e2
  omega
end Ab
set_option Elab.async false
set_option linter.all false
namespace Ab
open L2
theorem lI {n : Int} {ws : List (List Int)} {hs : List Int} (hb : bQ (bO n ws) = true) (hd : aZ ws (aY hs) = true) : ∀ h ∈ hs, 0 <= h /\ h < n := fun h hh => by
  obtain ⟨_, _, _, hws⟩ := bJ hb
  obtain ⟨hl, hm⟩ := aJ hd
  obtain ⟨i, hi⟩ := List.mem_iff_getElem?.mp hh
  have hlt : i < ws.length := by rw [<- hl]; exact (List.getElem?_eq_some_iff.mp hi).1
  have e := List.getElem?_eq_getElem hlt
  exact (cG (hws _ (List.mem_of_getElem? e))).2.1 h (hm i h _ hi e)
theorem pF {n : Int} {ws : List (List Int)} {hs hs' lv : List Int} (hb : bQ (bO n ws) = true) (hd : aZ ws (aY hs) = true) (hd' : aZ ws (aY hs') = true) (L : bA n ws hs lv) (t : Int) : ex t (aI n hs) <= ex t (aI n hs') := by
  obtain ⟨hl, hm⟩ := aJ hd
  obtain ⟨hl', hm'⟩ := aJ hd'
  refine qW L (lI hb hd) (lI hb hd') (by omega) (fun i u hu => ?_) t
  have hlt : i < ws.length := by rw [<- hl']; exact (List.getElem?_eq_some_iff.mp hu).1
  have e := List.getElem?_eq_getElem hlt
  exact ⟨_, e, hm' i u _ hu e⟩
theorem pG : ∀ {a b : List Int}, a.length = b.length -> (∀ k, k <= a.length -> aU (a.take k) = aU (b.take k)) -> a = b
  | [], [], _, _ => rfl
  | [], _ :: _, hl, _ => by simp at hl
  | _ :: _, [], hl, _ => by simp at hl
  | x :: a, y :: b, hl, h => by
    have h1 : x + 0 = y + 0 := h 1 (by simp)
    have e : x = y := by omega
    subst e
    refine congrArg _ (pG (by simpa using hl) fun k hk => ?_)
    have h2 : x + aU (a.take k) = x + aU (b.take k) := h (k + 1) (by simpa using hk)
    omega
theorem pH {a b : List Int} (h : iZ a b = true) (k : Nat) (hk : k <= a.length) : aU (a.take k) <= aU (b.take k) := by
  unfold iZ at h
  exact of_decide_eq_true (List.all_eq_true.mp h k (List.mem_range.mpr (by omega)))
theorem zQ {a b : List Int} (hl : a.length = b.length) (h1 : iZ a b = true) (h2 : iZ b a = true) : a = b :=
  pG hl fun k hk => Int.le_antisymm (pH h1 k hk) (pH h2 k (by omega))
theorem kP {a b ms ys : List Int} (hl : a.length = b.length) (h1 : ∀ t, ex t a <= ex t b) (h2 : ∀ t, ex t b <= ex t a) (hm : ms.Perm a) (hy : ys.Perm b) (sm : ms.Pairwise (· ≥ ·)) (sy : ys.Pairwise (· ≥ ·)) : ms = ys :=
  zQ (by rw [hm.length_eq, hy.length_eq, hl]) (lH hl h1 hm hy sy) (lH hl.symm h2 hy hm sm)
theorem mE {α β : Type} {f : α -> β} {us ys : List β} (h : us.Perm ys) : ∀ xs : List α, xs.map f = us -> ∃ zs : List α, zs.Perm xs /\ zs.map f = ys := by
  induction h with
  | nil => intro xs e; exact ⟨xs, .refl _, e⟩
  | cons u _ ih =>
    intro xs e
    cases xs with
    | nil => cases e
    | cons x xs =>
      injection e with e1 e2
      obtain ⟨zs, h1, h2⟩ := ih xs e2
      exact ⟨x :: zs, h1.cons x, by rw [List.map_cons, h2, e1]⟩
  | swap u v l =>
    intro xs e
    match xs, e with
    | x :: y :: xs, e =>
      injection e with e1 e2
      injection e2 with e2 e3
      exact ⟨y :: x :: xs, .swap x y xs, by rw [List.map_cons, List.map_cons, e1, e2, e3]⟩
  | trans _ _ ih1 ih2 =>
    intro xs e
    obtain ⟨zs, h1, h2⟩ := ih1 xs e
    obtain ⟨ws, h3, h4⟩ := ih2 zs h2
    exact ⟨ws, h3.trans h1, h4⟩
theorem wF (n : Nat) : (bY n).Nodup := by
  unfold bY
  exact List.Pairwise.map _ (fun a b h z => h (by omega)) List.nodup_range
theorem lJ {p : Int -> Int} {h : Int} : ∀ {hs : List Int}, (∀ x ∈ hs, p x = p h -> x = h) -> (hs.map p).count (p h) = hs.count h
  | [], _ => rfl
  | x :: hs, hi => by
    rw [List.map_cons, List.count_cons, List.count_cons, lJ fun y hy => hi y (List.mem_cons_of_mem _ hy)]
    by_cases e : x = h
    · rw [e]; simp
    · have : ¬ p x = p h := fun z => e (hi x (List.mem_cons_self ..) z)
      simp [e, this]
theorem lK {n : Int} {p : Int -> Int} {hs hs' : List Int} (hp : ((bY n.toNat).map p).Perm (bY n.toNat)) (hr : ∀ h ∈ hs, 0 <= h /\ h < n) (he : hs'.Perm (hs.map p)) : (aI n hs').Perm (aI n hs) := by
  have hmem : ∀ x : Int, 0 <= x -> x < n -> x ∈ bY n.toNat := fun x h0 h1 => by
    unfold bY
    exact List.mem_map.mpr ⟨x.toNat, List.mem_range.mpr (by omega), by omega⟩
  have hinj : ∀ x ∈ bY n.toNat, ∀ y ∈ bY n.toNat, p x = p y -> x = y := by
    have hn : ((bY n.toNat).map p).Nodup := hp.nodup_iff.mpr (wF _)
    intro x hx y hy e
    obtain ⟨i, hi⟩ := List.mem_iff_getElem?.mp hx
    obtain ⟨j, hj⟩ := List.mem_iff_getElem?.mp hy
    have ei : ((bY n.toNat).map p)[i]? = some (p x) := by rw [List.getElem?_map, hi]; rfl
    have ej : ((bY n.toNat).map p)[j]? = some (p x) := by rw [List.getElem?_map, hj, e]; rfl
    have hli := (List.getElem?_eq_some_iff.mp ei).1
    have : i = j := (List.getElem?_inj hli hn).mp (by rw [ei, ej])
    subst this
    rw [hi] at hj
    exact Option.some.inj hj
  unfold aI
  have h1 : ((bY n.toNat).map fun h => ((hs'.count h : Nat) : Int)).Perm (((bY n.toNat).map p).map fun h => ((hs'.count h : Nat) : Int)) := (hp.map _).symm
  refine h1.trans (List.Perm.of_eq ?_)
  rw [List.map_map]
  refine List.map_congr_left fun h hh => ?_
  show ((hs'.count (p h) : Nat) : Int) = _
  rw [he.count_eq, lJ fun x hx e => hinj x (hmem x (hr x hx).1 (hr x hx).2) h hh e]
structure Called (n : Int) (p : Int -> Int) (g : List Int -> List Int) (ws ws' : List (List Int)) : Prop where
  perm : ((bY n.toNat).map p).Perm (bY n.toNat)
  mem : ∀ l ∈ ws, ∀ x, x ∈ g l ↔ ∃ h ∈ l, p h = x
  works : ws'.Perm (ws.map g)
theorem lL {α β : Type} : ∀ {a : List α} {b : List β}, a.length = b.length -> (a.zip b).map Prod.fst = a
  | [], [], _ => rfl
  | x :: a, y :: b, h => congrArg (x :: ·) (lL (by simpa using h))
  | [], _ :: _, h => by simp at h
  | _ :: _, [], h => by simp at h
theorem nJ {α β : Type} : ∀ {a : List α} {b : List β}, a.length = b.length -> (a.zip b).map Prod.snd = b
  | [], [], _ => rfl
  | x :: a, y :: b, h => congrArg (y :: ·) (nJ (by simpa using h))
  | [], _ :: _, h => by simp at h
  | _ :: _, [], h => by simp at h
theorem hG {ws : List (List Int)} {hs : List Int} (hl : hs.length = ws.length) (h : ∀ q ∈ ws.zip hs, q.2 ∈ q.1) : aZ ws (aY hs) = true :=
  fV hl fun j x l e1 e2 => h (l, x) (List.mem_of_getElem? (i := j) (by rw [List.getElem?_zip_eq_some]; exact ⟨e2, e1⟩))
theorem hJ {ws : List (List Int)} {hs : List Int} (h : aZ ws (aY hs) = true) : ∀ q ∈ ws.zip hs, q.2 ∈ q.1 := fun q hq => by
  obtain ⟨j, hj⟩ := List.mem_iff_getElem?.mp hq
  rw [List.getElem?_zip_eq_some] at hj
  exact (aJ h).2 j q.2 q.1 hj.2 hj.1
theorem wG {α β : Type} : ∀ zs : List (α × β), (zs.map Prod.fst).zip (zs.map Prod.snd) = zs
  | [] => rfl
  | z :: zs => congrArg (z :: ·) (wG zs)
theorem Called.there {n : Int} {p : Int -> Int} {g : List Int -> List Int} {ws ws' : List (List Int)} {hs : List Int} (c : Called n p g ws ws') (h : aZ ws (aY hs) = true) : ∃ hs', aZ ws' (aY hs') = true /\ hs'.Perm (hs.map p) := by
  have hl := (aJ h).1
  have hz := hJ h
  have e1 : ((ws.zip hs).map fun q => (g q.1, p q.2)).map Prod.fst = ws.map g := by
    rw [List.map_map]
    show (ws.zip hs).map (g ∘ Prod.fst) = _
    rw [<- List.map_map, lL hl.symm]
  obtain ⟨zs, h1, h2⟩ := mE (c.works.symm) ((ws.zip hs).map fun q => (g q.1, p q.2)) e1
  refine ⟨zs.map Prod.snd, hG (by rw [<- h2, List.length_map, List.length_map]) fun q hq => ?_, ?_⟩
  · rw [<- h2, wG] at hq
    obtain ⟨r, hr, rfl⟩ := List.mem_map.mp (h1.mem_iff.mp hq)
    have hrm : r.1 ∈ ws := by rw [<- lL hl.symm]; exact List.mem_map.mpr ⟨r, hr, rfl⟩
    exact (c.mem r.1 hrm _).mpr ⟨r.2, hz r hr, rfl⟩
  · refine (h1.map Prod.snd).trans (List.Perm.of_eq ?_)
    rw [List.map_map]
    show (ws.zip hs).map (p ∘ Prod.snd) = _
    rw [<- List.map_map, nJ hl.symm]
theorem xZ {n : Int} {p : Int -> Int} {g : List Int -> List Int} : ∀ {ws : List (List Int)} {zs : List (List Int × Int)}, (∀ l ∈ ws, ∀ x, x ∈ g l ↔ ∃ h ∈ l, p h = x) -> zs.map Prod.fst = ws.map g -> (∀ q ∈ zs, q.2 ∈ q.1) -> ∃ hs : List Int, hs.length = ws.length /\ (∀ q ∈ ws.zip hs, q.2 ∈ q.1) /\ hs.map p = zs.map Prod.snd
  | [], [], _, _, _ => ⟨[], rfl, fun _ h => (List.not_mem_nil h).elim, rfl⟩
  | [], _ :: _, _, e, _ => by cases e
  | _ :: _, [], _, e, _ => by cases e
  | l :: ws, z :: zs, hm, e, hq => by
    injection e with e1 e2
    obtain ⟨hs, h1, h2, h3⟩ := xZ (n := n) (p := p) (g := g) (ws := ws) (zs := zs) (fun l' hl' => hm l' (List.mem_cons_of_mem _ hl')) e2 fun q h => hq q (List.mem_cons_of_mem _ h)
    have hz := hq z (List.mem_cons_self ..)
    rw [e1] at hz
    obtain ⟨h, hh, eh⟩ := (hm l (List.mem_cons_self ..) z.2).mp hz
    refine ⟨h :: hs, by rw [List.length_cons, List.length_cons, h1], fun q hq' => ?_, by rw [List.map_cons, List.map_cons, eh, h3]⟩
    rcases List.mem_cons.mp hq' with rfl | hq'
    · exact hh
    · exact h2 q hq'
theorem Called.back {n : Int} {p : Int -> Int} {g : List Int -> List Int} {ws ws' : List (List Int)} {hs' : List Int} (c : Called n p g ws ws') (h : aZ ws' (aY hs') = true) : ∃ hs, aZ ws (aY hs) = true /\ hs'.Perm (hs.map p) := by
  have hl := (aJ h).1
  obtain ⟨zs, h1, h2⟩ := mE c.works (ws'.zip hs') (lL hl.symm)
  obtain ⟨hs, k1, k2, k3⟩ := xZ (n := n) c.mem h2 fun q hq => hJ h q (h1.mem_iff.mp hq)
  refine ⟨hs, hG k1 k2, ?_⟩
  rw [k3]
  have := (h1.map Prod.snd).symm
  rwa [nJ hl.symm] at this
theorem Called.falling {n : Int} {p : Int -> Int} {g : List Int -> List Int} {ws ws' : List (List Int)} {hs hs' lv lv' ms ms' : List Int} (c : Called n p g ws ws') (hb : bQ (bO n ws) = true) (hb' : bQ (bO n ws') = true) (hd : aZ ws (aY hs) = true) (hd' : aZ ws' (aY hs') = true)
    (L : bA n ws hs lv) (L' : bA n ws' hs' lv') (hm : ms.Perm (aI n hs)) (hm' : ms'.Perm (aI n hs')) (sm : ms.Pairwise (· ≥ ·)) (sm' : ms'.Pairwise (· ≥ ·)) : ms' = ms := by
  obtain ⟨h1, d1, p1⟩ := c.there hd
  obtain ⟨h2, d2, p2⟩ := c.back hd'
  refine kP (by rw [aN, aN]) (fun t => ?_) (fun t => ?_) hm' hm sm' sm
  · have := pF hb' hd' d1 L' t
    rwa [jV (lK c.perm (lI hb hd) p1)] at this
  · have := pF hb hd d2 L t
    rwa [<- jV (lK c.perm (lI hb d2) p2)] at this
end Ab
set_option Elab.async false
set_option linter.all false
set_option maxRecDepth 100000
namespace Ab
open PySem L2
theorem pI {n : Int} {ws : List (List Int)} : ∀ {Ws : List (List (Nat × Int × Int))} {hs he : List Int}, lF n ws hs Ws he -> aZ ws (aY hs) = true -> aZ ws (aY he) = true
  | [], hs, he, c, h => by
    have e : hs = he := c
    rw [<- e]; exact h
  | ss :: Ws, hs, he, ⟨W, c⟩, h => by
    refine pI c ?_
    obtain ⟨hdl, hdg⟩ := aJ h
    obtain ⟨h0, xx, hne, hP, _⟩ := W
    refine fV (by rw [iG]; exact hdl) (iH ss (fun s hs' => ?_) hdg)
    obtain ⟨i, hi⟩ := List.mem_iff_getElem?.mp hs'
    obtain ⟨⟨_, l, e2, e3, _⟩, _⟩ := jU hP i s hi
    exact ⟨l, e2, e3⟩
theorem qB {n : Int} {ws : List (List Int)} {hs lv : List Int} {ss : List (Nat × Int × Int)} (L : bA n ws hs lv) (W : mP n ws hs ss) : False := by
  obtain ⟨h, x, hne, hP, hN, h0, h1, hRL, hge⟩ := W
  have hlt : h.toNat < lv.length := by rw [L.1]; omega
  obtain ⟨m1, m2⟩ := L.2 h.toNat _ (List.getElem?_eq_getElem hlt)
  rw [show ((h.toNat : Nat) : Int) = h by omega] at m1 m2
  have := m1.2 _ x hRL
  omega
section
variable {P : Program} {w : World} {K : PySem.W.Frag} {mg : Str -> Option Value} {base : Heap}
variable {fW fH fK fB fNB fD fND fL : Addr} {dW dH dK dB dNB dD dND dL : FuncData}
def gG (K : PySem.W.Frag) (Pt : Addr) : Sp := fun vs H Q _ => ∃ (x : V) (n : Int) (ws : List (List Int)), vs = [x] /\ Den K H (bO n ws) x /\ bQ (bO n ws) = true /\ H Pt = some (.tab mV) /\
  ∀ (p dp lp : Addr) (hs lv : List Int) H', aE H H' -> H' p = some (.tup [.ref dp, .ref lp]) -> H' dp = some (.tup (hs.map V.int)) -> aZ ws (aY hs) = true -> H' lp = some (.tup (lv.map V.int)) -> bA n ws hs lv -> Q (.ref p) H'
theorem mF : FnScope ["book", "ways", "deal"] ["book"] (aF fZ) := ⟨rfl, rfl, rfl, by decide +kernel, rfl, by decide +kernel, by decide +kernel⟩
theorem wH {f fBt fLw Pt : Addr} {fd dBt dLw : FuncData} (G : Fn K mg "evenest" fZ ["book"] f fd) (B : Bl mg) (R : Pr K mg fW fH fK fB fNB fD fND fL dW dH dK dB dNB dD dND dL)
    (GBt : Fn K mg "bettered" iC ["book", "deal"] fBt dBt) (OBt : FnOk P w K mg base CX0 10 fBt dBt ["book", "deal"] (pE K Pt)) (GLw : Fn K mg "levels_or_way" aA4 ["book", "deal"] fLw dLw) (OLw : FnOk P w K mg base CX0 8 fLw dLw ["book", "deal"] (xV K Pt)) : FnOk P w K mg base CX0 11 f fd ["book"] (gG K Pt) := by
  have ONB : FnOk P w K mg base CX0 4 fNB dNB ["book"] (rX K) := tV B R
  refine G.fn.ok mF (fun vs H Q E h => ?_) (fun cdv A outer s H vs Q E hr h => ?_)
  · obtain ⟨x, n, ws, rfl, _⟩ := h
    rfl
  · obtain ⟨x, n, ws, rfl, hx, hbk, hT, k⟩ := h
    have r4 : Room 4 _ := hr.mono (by decide)
    have r8 : Room 8 _ := hr.mono (by decide)
    have r10 : Room 10 _ := hr
    refine ⟨_, (aD (eQ (aV R.NB ONB r4 rfl (aA (pv 0) aB)))
    (aD (iK (aV GBt OBt r10 rfl (aA (pv 0) (aA (cE bS rfl B.tuple cR (aA (cM (own := ["able"]) (fr := []) (frn := []) (bI (aF fZ) ["book", "ways", "deal"] rfl rfl (by decide +kernel)) rfl (iL (bD bF (pv 0) aK (fun _ _ => rfl)))
        (fun _ _ _ _ => (aL (i := 0) (show (["able"] : List Str).Nodup by decide +kernel) rfl (Or.inl rfl))) (fun _ _ _ _ => dJ)
        (fun _ _ _ _ => (bD (nE (K := K) rfl) (pv 0) aK (fun _ _ => rfl)))) aB)) aB))) (gY rfl (bC (aL (i := 1) mF.nd rfl (Or.inl rfl)) (bC (aL (i := 2) mF.nd rfl (Or.inl rfl)) eF))))
    (aG (aP (gC (aA (pv 2) (aA (bD bF (aV GLw OLw r8 rfl (aA (pv 0) (aA (pv 2) aB))) aK (fun _ _ => rfl)) aB))))))), ?_⟩
    obtain ⟨hn1, hn6, hw12, hws⟩ := bJ hbk
    refine ⟨_, rfl, x, bO n ws, rfl, hx, hbk, fun H1 s1 => ?_⟩
    have hx1 := s1.den _ _ hx
    obtain ⟨a, b, ys, rfl, ha, hb2, hys⟩ := cW hx1
    have hlw := aW hys
    rw [List.length_map] at hlw
    refine ⟨_, rfl, _, rfl, a, _, 1, .ref b, rfl, rfl, ha, rfl, b, rfl, ⟨_, hb2⟩, hX (K := K) (a := b) (xs := ys) (fun σ => ∃ v, σ = [v]) (fun i zs H2 => H2 = H1 /\ zs = ((ws.take i).map fun l => l.headD 0).map V.int) (eN (by omega)) ⟨none, rfl⟩ ⟨rfl, rfl⟩ (fun i zs H2 z => by rw [z.2, List.length_map, List.length_map, List.length_take]; omega) (fun i zs H2 z => by rw [z.1]; exact hb2) ?_ ?_⟩
    · rintro i zs σ u H2 hu ⟨v, rfl⟩ ⟨rfl, rfl⟩ hz
      obtain ⟨dv, hdv, denv⟩ := fJ hys hu
      rw [List.getElem?_map] at hdv
      obtain ⟨l, hl, rfl⟩ : ∃ l, ws[i]? = some l /\ cH l = dv := by
        cases q : ws[i]? with
        | none => rw [q] at hdv; cases hdv
        | some l => rw [q] at hdv; exact ⟨l, rfl, Option.some.inj hdv⟩
      obtain ⟨aw, rfl, haw⟩ := aO.mp denv
      obtain ⟨l0, _, _⟩ := cG (hws l (List.mem_of_getElem? hl))
      have hat : atI (l.map V.int) 0 = some (.int (l.headD 0)) := by
        cases l with
        | nil => exact absurd rfl l0
        | cons y l => exact cQ (j := 0) rfl
      refine bU ?_
      refine ⟨_, rfl, aw, _, 0, _, rfl, rfl, haw, hat, hz, ⟨_, rfl⟩, rfl, ?_⟩
      rw [List.take_succ, hl, List.map_append, List.map_append]
      rfl
    · rintro zs H2 ⟨rfl, rfl⟩ lq hlq
      rw [List.take_of_length_le (show ws.length <= ys.length by omega)]
      refine ⟨lq, _, rfl, .inl ⟨SqL.of aC, fun dq hdq => ?_⟩⟩
      have s3 := (aE.new (o := .lst ((ws.map fun l => l.headD 0).map V.int)) hlq).trans (aE.new (o := .tup ((ws.map fun l => l.headD 0).map V.int)) hdq)
      have d3 : upd (upd H2 lq (.lst ((ws.map fun l => l.headD 0).map V.int))) dq (.tup ((ws.map fun l => l.headD 0).map V.int)) dq = some (.tup ((ws.map fun l => l.headD 0).map V.int)) := aC
      generalize upd (upd H2 lq (.lst ((ws.map fun l => l.headD 0).map V.int))) dq (.tup ((ws.map fun l => l.headD 0).map V.int)) = H3 at s3 d3 ⊢
      have hd0 : aZ ws (aY (ws.map fun l => l.headD 0)) = true := fV (by rw [List.length_map]) fun j h l e1 e2 => by
        rw [List.getElem?_map, e2] at e1
        have e : l.headD 0 = h := Option.some.inj e1
        obtain ⟨l0, _, _⟩ := cG (hws l (List.mem_of_getElem? e2))
        cases l with
        | nil => exact absurd rfl l0
        | cons y l => rw [<- e]; exact List.mem_cons_self ..
      have s13 := s1.trans s3
      have g3 : dQ K H3 (.ref a) (.ref dq) n ws (ws.map fun l => l.headD 0) := ⟨s3.den _ _ hx1, hbk, aO.mpr ⟨dq, rfl, SqT.of d3⟩, hd0⟩
      refine ⟨.ref a, .ref dq, n, ws, _, rfl, g3, s13 _ _ hT, fun p H4 s4 hp => ?_⟩
      obtain ⟨wl, dl, qs, Ws, he, lv, hp4, _, _, _, hdl, hch, hlv⟩ := hp
      refine ⟨p, _, rfl, SqT.of hp4, rfl, _, _, rfl, _, _, rfl, rfl, ?_⟩
      have hde := pI hch hd0
      have s14 := s13.trans s4
      have g4 : dQ K H4 (.ref a) (.ref dl) n ws he := ⟨(s3.trans s4).den _ _ hx1, hbk, aO.mpr ⟨dl, rfl, SqT.of hdl⟩, hde⟩
      refine ⟨_, rfl, _, rfl, _, rfl, .ref a, .ref dl, n, ws, he, rfl, g4, s14 _ _ hT, fun p2 H5 s5 hp2 => ?_⟩
      rcases hp2 with ⟨lq2, lv2, e1, e2, e3⟩ | ⟨_, _, ss, _, _, _, _, hW⟩
      · refine ⟨p2, _, 1, .ref lq2, rfl, rfl, SqT.of e1, rfl, sz2 _ _, fun r hr' => ?_⟩
        have s6 := aE.new (o := .tup [.ref dl, .ref lq2]) hr'
        exact k r dl lq2 he lv2 _ (s14.trans (s5.trans s6)) aC ((s5.trans s6) _ _ hdl) hde (s6 _ _ e2) e3
      · exact (qB hlv hW).elim
end
end Ab
set_option Elab.async false
set_option linter.all false
set_option maxRecDepth 100000
namespace Ab
open PySem L2
section
variable {P : Program} {w : World} {K : PySem.W.Frag} {mg : Str -> Option Value} {base : Heap}
def uL (K : PySem.W.Frag) : Sp := fun vs H Q _ => ∃ (x y : V) (wp : Addr) (n : Int) (ws : List (List Int)) (hs : List Int), vs = [x, .ref wp, y] /\ dQ K H x y n ws hs /\ SqT K H wp ((List.replicate hs.length (1 : Int)).map V.int) /\ ∀ p H', aE H H' -> H p = none -> H' p = some (.lst ((aI n hs).map V.int)) -> Q (.ref p) H'
theorem pJ : FnScope ["book", "weights", "deal", "found", "at"] ["book", "weights", "deal"] (aF nC) := ⟨rfl, rfl, rfl, by decide +kernel, rfl, by decide +kernel, by decide +kernel⟩
theorem zR {f : Addr} {fd : FuncData} (G : Fn K mg "_law_aheaps" nC ["book", "weights", "deal"] f fd) (B : Bl mg) : FnOk P w K mg base CX0 1 f fd ["book", "weights", "deal"] (uL K) := by
  refine G.fn.ok pJ (fun vs H Q E h => ?_) (fun cdv A outer s H vs Q E hr h => ?_)
  · obtain ⟨x, y, wp, n, ws, hs, rfl, _⟩ := h
    rfl
  · obtain ⟨x, y, wp, n, ws, hs, rfl, g, hwp, k⟩ := h
    refine ⟨_, (aD (aQ (i := 3) pJ.nd rfl (Or.inl rfl) (bX aCZ (eS (aA aK aB)) (bD bF (pv 0) aK (fun _ _ => rfl))))
    (aD (eR PassesOwn.never rfl (bT rfl B.range (aA (aM aT rfl B.len eM (aA (pv 2) aB)) aB)) (aL (i := 4) pJ.nd rfl (Or.inl rfl))
      (aG (iK (bX gI (bD fP (pv 3) (bD bF (pv 2) (pv 4) (fun _ _ => rfl)) (fun _ _ => rfl)) (bD bF (pv 1) (pv 4) (fun _ _ => rfl))) (uV (pv 3) (bD bF (pv 2) (pv 4) (fun _ _ => rfl)) nY))))
    (aG (aP (pv 3))))), ?_⟩
    obtain ⟨hl, hn1, hn6⟩ := g.len
    obtain ⟨a, b, ys, rfl, ha, hb2, hys⟩ := cW g.1
    obtain ⟨c, rfl, hc⟩ := aO.mp g.2.2.1
    refine ⟨sz1 _, fun z hz => ⟨_, rfl, a, _, 0, .int n, rfl, rfl, (aE.new hz).seqT ha, rfl, z, n, _, rfl, rfl, aC, by omega, by omega, eN (by simp; omega), fun fl hfl => ?_⟩⟩
    have s1 := aE.new (o := .lst [V.int 0]) hz
    generalize hH1 : upd H z (.lst [V.int 0]) = H1 at s1 hfl ⊢
    have hfl0 : H fl = none := s1.free hfl
    have hcfl : ∀ u, SqT K (upd H1 fl u) c (hs.map V.int) := fun u => (aE.new hfl).seqT (s1.seqT hc)
    have hwfl : ∀ u, SqT K (upd H1 fl u) wp ((List.replicate hs.length (1 : Int)).map V.int) := fun u => (aE.new hfl).seqT (s1.seqT hwp)
    refine ⟨_, rfl, c, _, rfl, .inr (hcfl _), ?_⟩
    rw [List.length_map]
    refine ⟨hs.length, rfl, by omega, by omega, dP (lo := 0) (n := ((hs.length : Int)).toNat) (fun i σ H3 => ∃ v, σ = [some (.ref a), some (.ref wp), some (.ref c), some (.ref fl), v] /\ H3 = upd H1 fl (.lst ((aI n (hs.take i)).map V.int)))
      ⟨none, rfl, by rw [vY]; rfl⟩ ?_ ?_⟩
    · rintro i σ H3 hi ⟨v, rfl, rfl⟩
      have hi' : i < hs.length := by omega
      have hh : hs[i]? = some hs[i] := List.getElem?_eq_getElem hi'
      obtain ⟨b0, b1⟩ := g.hand hh
      have hci : atI (hs.map V.int) (0 + (i : Int)) = some (.int hs[i]) := by
        rw [Int.zero_add]; exact cQ (by rw [List.getElem?_map, hh]; rfl)
      have hwi : atI ((List.replicate hs.length (1 : Int)).map V.int) (0 + (i : Int)) = some (.int 1) := by
        rw [Int.zero_add]; exact cQ (by rw [List.getElem?_map, List.getElem?_replicate, if_pos hi']; rfl)
      generalize hs[i] = h at hh hci b0 b1
      have hlt : h.toNat < n.toNat := by omega
      have hcast : ((h.toNat : Nat) : Int) = h := by omega
      have hat : atI ((aI n (hs.take i)).map V.int) h = some (.int (((hs.take i).count h : Nat) : Int)) := by
        have h1 : ((aI n (hs.take i)).map V.int)[h.toNat]? = some (.int (((hs.take i).count h : Nat) : Int)) := by rw [List.getElem?_map, bV hlt, hcast]; rfl
        have h2 := cQ h1
        rwa [hcast] at h2
      have hix : ixN ((aI n (hs.take i)).map V.int).length h = some h.toNat := by
        rw [List.length_map, aN]
        unfold ixN
        rw [if_pos b0, if_pos (by omega)]
      refine ⟨_, rfl, _, rfl, _, rfl, c, _, _, _, rfl, rfl, hcfl _, hci, fl, _, h, _, rfl, rfl, SqL.of aC, hat, _, rfl, _, rfl, wp, _, _, _, rfl, rfl, hwfl _, hwi, _, _, rfl, rfl, ?_⟩
      refine ⟨_, rfl, _, rfl, _, rfl, c, _, _, _, rfl, rfl, hcfl _, hci, fl, _, h, h.toNat, rfl, rfl, aC, hix, ?_⟩
      refine ⟨_, rfl, ?_⟩
      rw [rB, uE b0 b1, List.take_succ, hh]
      rfl
    · rintro σ H3 ⟨v, rfl, rfl⟩
      refine ⟨_, rfl, k fl _ (s1.trans (aE.new hfl)) hfl0 ?_⟩
      rw [aC, Int.toNat_natCast, List.take_length]
end
end Ab
set_option Elab.async false
set_option linter.all false
set_option maxRecDepth 100000
namespace Ab
open L2
def Rng (n : Int) (ws : List (List Int)) : Prop := ∀ l ∈ ws, ∀ x ∈ l, 0 <= x /\ x < n
theorem Rng.deal {n : Int} {ws : List (List Int)} (R : Rng n ws) {hs : List Int} (hd : aZ ws (aY hs) = true) : ∀ h ∈ hs, 0 <= h /\ h < n := fun h hh => by
  obtain ⟨hl, hm⟩ := aJ hd
  obtain ⟨i, hi⟩ := List.mem_iff_getElem?.mp hh
  have hlt : i < ws.length := by rw [<- hl]; exact (List.getElem?_eq_some_iff.mp hi).1
  have e := List.getElem?_eq_getElem hlt
  exact R _ (List.mem_of_getElem? e) h (hm i h _ hi e)
theorem Rng.book {n : Int} {ws : List (List Int)} (hb : bQ (bO n ws) = true) : Rng n ws := fun l hl x hx => by
  obtain ⟨_, _, _, hws⟩ := bJ hb
  exact (cG (hws l hl)).2.1 x hx
theorem Rng.snoc {n h : Int} {ws : List (List Int)} (R : Rng n ws) (h0 : 0 <= h) (h1 : h < n) : Rng n (ws ++ [[h]]) := fun l hl x hx => by
  rcases List.mem_append.mp hl with hl | hl
  · exact R l hl x hx
  · rw [List.mem_singleton.mp hl] at hx
    rw [List.mem_singleton.mp hx]; exact ⟨h0, h1⟩
theorem Rng.perm {n : Int} {ws ws2 : List (List Int)} (R : Rng n ws) (p : ws.Perm ws2) : Rng n ws2 := fun l hl => R l (p.mem_iff.mpr hl)
theorem Rng.edge {n : Int} {ws : List (List Int)} (R : Rng n ws) {hs : List Int} {g t : Int} {w : Nat} (e : eC ws hs g w t) : 0 <= t /\ t < n := by
  obtain ⟨_, l, h1, h2, _⟩ := e
  exact R l (List.mem_of_getElem? h1) t h2
def Lst (n : Int) (ws : List (List Int)) (hs : List Int) : Prop := aZ ws (aY hs) = true /\ ∀ hs', aZ ws (aY hs') = true -> ∀ t, ex t (aI n hs) <= ex t (aI n hs')
theorem Lst.of {n : Int} {ws : List (List Int)} {hs lv : List Int} (R : Rng n ws) (hd : aZ ws (aY hs) = true) (L : bA n ws hs lv) : Lst n ws hs := ⟨hd, fun hs' hd' t => by
  obtain ⟨hl, hm⟩ := aJ hd
  obtain ⟨hl', hm'⟩ := aJ hd'
  refine qW L (R.deal hd) (R.deal hd') (by omega) (fun i u hu => ?_) t
  have hlt : i < ws.length := by rw [<- hl']; exact (List.getElem?_eq_some_iff.mp hu).1
  have e := List.getElem?_eq_getElem hlt
  exact ⟨_, e, hm' i u _ hu e⟩⟩
theorem Lst.eq {n : Int} {ws : List (List Int)} {hs hs' : List Int} (a : Lst n ws hs) (b : Lst n ws hs') (t : Int) : ex t (aI n hs) = ex t (aI n hs') := by
  have h1 := a.2 _ b.1 t
  have h2 := b.2 _ a.1 t
  omega
theorem qX {ws ws2 : List (List Int)} {hs : List Int} (p : ws.Perm ws2) (hd : aZ ws (aY hs) = true) : ∃ hs2, aZ ws2 (aY hs2) = true /\ hs2.Perm hs := by
  obtain ⟨hl, _⟩ := aJ hd
  obtain ⟨zs, z2, z1⟩ := mE (f := Prod.fst) p (ws.zip hs) (lL hl.symm)
  refine ⟨zs.map Prod.snd, ?_, by rw [<- nJ hl.symm]; exact z2.map _⟩
  rw [<- z1]
  refine hG (by rw [List.length_map, List.length_map]) fun q hq => ?_
  rw [wG] at hq
  exact hJ hd q (z2.mem_iff.mp hq)
theorem pK {n : Int} {hs hs2 : List Int} (p : hs2.Perm hs) : aI n hs2 = aI n hs := by
  unfold aI
  exact List.map_congr_left fun h _ => by rw [p.count_eq]
theorem Lst.perm {n : Int} {ws ws2 : List (List Int)} {hs hs2 : List Int} (p : ws.Perm ws2) (a : Lst n ws hs) (b : Lst n ws2 hs2) (t : Int) : ex t (aI n hs) = ex t (aI n hs2) := by
  obtain ⟨x, x1, x2⟩ := qX p a.1
  obtain ⟨y, y1, y2⟩ := qX p.symm b.1
  have h1 := a.2 _ y1 t
  have h2 := b.2 _ x1 t
  rw [pK y2] at h1
  rw [pK x2] at h2
  omega
theorem qY {ws : List (List Int)} {hs : List Int} : ∀ {ss : List (Nat × Int × Int)} {o x h : Int}, bW ws hs o ss x -> (o :: ss.map (·.2.2)).Nodup -> h ∈ o :: ss.map (·.2.2) -> ∃ ss', bW ws hs h ss' x /\ (h :: ss'.map (·.2.2)).Nodup
  | [], o, x, h, P, N, m => by
    have e : h = o := by simpa using m
    subst e
    exact ⟨[], P, N⟩
  | s :: r, o, x, h, P, N, m => by
    rcases List.mem_cons.mp m with rfl | m
    · exact ⟨_, P, N⟩
    · obtain ⟨e1, e2, e3⟩ := P
      exact qY (o := s.2.2) e3 (List.nodup_cons.mp N).2 m
theorem sF {ws : List (List Int)} {hs : List Int} : ∀ {k : Nat} {h x : Int}, RL ws hs k h x -> ∃ ss, bW ws hs h ss x /\ (h :: ss.map (·.2.2)).Nodup
  | 0, h, x, e => ⟨[], e, by simp⟩
  | k + 1, h, x, .inl e => ⟨[], e, by simp⟩
  | k + 1, h, x, .inr ⟨w, o, e, r⟩ => by
    obtain ⟨ss, P, N⟩ := sF r
    by_cases hm : h ∈ o :: ss.map (·.2.2)
    · exact qY P N hm
    · exact ⟨(w, h, o) :: ss, ⟨rfl, e, P⟩, List.nodup_cons.mpr ⟨hm, N⟩⟩
theorem jW {ws : List (List Int)} {hs : List Int} : ∀ {ss : List (Nat × Int × Int)} {h x : Int}, bW ws hs h ss x -> ∀ s ∈ ss, eC ws hs s.2.1 s.1 s.2.2
  | [], _, _, _, _, m => (List.not_mem_nil m).elim
  | s :: r, h, x, ⟨e1, e2, e3⟩, s', m => by
    rcases List.mem_cons.mp m with rfl | m
    · rw [e1]; exact e2
    · exact jW e3 s' m
theorem uM {ws ws2 : List (List Int)} {hs hs2 : List Int} (f : ∀ g w t, eC ws hs g w t -> eC ws2 hs2 g w t) : ∀ {ss : List (Nat × Int × Int)} {h x : Int}, bW ws hs h ss x -> bW ws2 hs2 h ss x
  | [], _, _, e => e
  | s :: r, h, x, ⟨e1, e2, e3⟩ => ⟨e1, f _ _ _ e2, uM f e3⟩
theorem yA {ws : List (List Int)} {hs : List Int} : ∀ {ss : List (Nat × Int × Int)} {h x : Int}, bW ws hs h ss x -> x ∈ h :: ss.map (·.2.2)
  | [], _, _, e => by cases e; exact List.mem_cons_self ..
  | s :: r, h, x, ⟨_, _, e3⟩ => List.mem_cons_of_mem _ (yA e3)
theorem qZ {ws : List (List Int)} {hs : List Int} : ∀ {ss : List (Nat × Int × Int)} {h x : Int}, bW ws hs h ss x -> (h :: ss.map (·.2.2)).Nodup -> ∀ s ∈ ss, s.2.1 ≠ x
  | [], _, _, _, _, s, m => (List.not_mem_nil m).elim
  | s :: r, h, x, ⟨e1, e2, e3⟩, N, s', m => by
    obtain ⟨n1, n2⟩ := List.nodup_cons.mp N
    rcases List.mem_cons.mp m with rfl | m
    · intro z
      rw [e1] at z
      subst z
      exact n1 (yA e3)
    · exact qZ e3 n2 s' m
theorem rA : ∀ (ss : List (Nat × Int × Int)) (hs : List Int) (i : Nat), (∀ s ∈ ss, s.1 ≠ i) -> (cB hs ss)[i]? = hs[i]?
  | [], _, _, _ => rfl
  | s :: r, hs, i, h => by
    show (cB (hs.set s.1 s.2.2) r)[i]? = _
    rw [rA r _ i fun s' m => h s' (List.mem_cons_of_mem _ m), List.getElem?_set, if_neg (h s (List.mem_cons_self ..))]
theorem aDg {m : Nat} {h : Int} (f : Int -> Int) (h0 : 0 <= h) (h1 : h < m) : aU ((bY m).map fun i => if h = i then f i else 0) = f h := by
  induction m with
  | zero => omega
  | succ m ih =>
    have e : bY (m + 1) = bY m ++ [(m : Int)] := by unfold bY; rw [List.range_succ, List.map_append]; rfl
    rw [e, List.map_append, cU]
    show _ + ((if h = (m : Int) then f (m : Int) else 0) + 0) = _
    by_cases hm : h = (m : Int)
    · rw [gR (l := bY m) (f := fun i => if h = i then f i else 0) fun x hx => by
        unfold bY at hx
        obtain ⟨i, hi, rfl⟩ := List.mem_map.mp hx
        have hi' := List.mem_range.mp hi
        exact if_neg (show ¬ h = ((i : Nat) : Int) by omega)]
      rw [if_pos hm, hm]
      omega
    · rw [ih (by omega), if_neg hm]
      omega
theorem pL {n : Int} {x : Int} (hx : x ∈ bY n.toNat) : 0 <= x /\ x < n := by
  unfold bY at hx
  obtain ⟨i, hi, rfl⟩ := List.mem_map.mp hx
  have := List.mem_range.mp hi
  omega
theorem wI {n : Int} {hs D : List Int} {y : Int} (y0 : 0 <= y) (y1 : y < n) (hc : ∀ c, 0 <= c -> c < n -> ((D.count c : Nat) : Int) = ((hs.count c : Nat) : Int) + (if c = y then 1 else 0)) (t : Int) :
    ex t (aI n D) = ex t (aI n hs) + (if t <= ((hs.count y : Nat) : Int) then 1 else 0) := by
  unfold ex aI
  rw [List.map_map, List.map_map, <- aDg (m := n.toNat) (fun c => if t <= ((hs.count c : Nat) : Int) then 1 else 0) y0 (by omega), <- dX]
  refine gB fun c hcm => ?_
  obtain ⟨c0, c1⟩ := pL hcm
  have := hc c c0 c1
  show max (((D.count c : Nat) : Int) - t) 0 = max (((hs.count c : Nat) : Int) - t) 0 + (if y = c then (if t <= ((hs.count c : Nat) : Int) then 1 else 0) else 0)
  by_cases e : c = y
  · rw [if_pos e] at this
    rw [if_pos e.symm]
    split <;> omega
  · rw [if_neg e] at this
    rw [if_neg (Ne.symm e)]
    omega
theorem zS {ws : List (List Int)} {hs l : List Int} {g0 : Int} (hl : hs.length = ws.length) (g : Int) (w : Nat) (t : Int) (e : eC ws hs g w t) : eC (ws ++ [l]) (hs ++ [g0]) g w t := by
  obtain ⟨e1, l', e2, e3⟩ := e
  have h1 := (List.getElem?_eq_some_iff.mp e1).1
  exact ⟨by rw [List.getElem?_append_left h1]; exact e1, l', by rw [List.getElem?_append_left (by omega)]; exact e2, e3⟩
theorem zT {ws : List (List Int)} {hs : List Int} {h : Int} (hd : aZ ws (aY hs) = true) : aZ (ws ++ [[h]]) (aY (hs ++ [h])) = true := by
  obtain ⟨hl, hm⟩ := aJ hd
  refine fV (by rw [List.length_append, List.length_append, hl]; rfl) fun j g l e1 e2 => ?_
  by_cases hj : j < hs.length
  · rw [List.getElem?_append_left hj] at e1
    rw [List.getElem?_append_left (by omega)] at e2
    exact hm j g l e1 e2
  · rw [List.getElem?_append_right (by omega)] at e1
    rw [List.getElem?_append_right (by omega), <- hl] at e2
    match q : j - hs.length, e1, e2 with
    | 0, e1, e2 =>
      have a : h = g := by simpa [q] using e1
      have b : [h] = l := by simpa [q] using e2
      rw [<- a, <- b]; exact List.mem_singleton_self _
    | k + 1, e1, e2 => simp [q] at e1
theorem uN {ws : List (List Int)} {hs : List Int} {h : Int} (hd : aZ (ws ++ [[h]]) (aY hs) = true) : ∃ hs', hs = hs' ++ [h] /\ aZ ws (aY hs') = true := by
  obtain ⟨hl, hm⟩ := aJ hd
  rw [List.length_append] at hl
  have hl : hs.length = ws.length + 1 := hl
  have e0 : hs[ws.length]? = some hs[ws.length] := List.getElem?_eq_getElem (by omega)
  have := hm ws.length _ [h] e0 (by rw [List.getElem?_append_right (Nat.le_refl _), Nat.sub_self]; rfl)
  have e1 : hs[ws.length] = h := List.mem_singleton.mp this
  refine ⟨hs.take ws.length, ?_, fV (by rw [List.length_take]; omega) fun j g l a b => ?_⟩
  · have := List.take_append_drop ws.length hs
    rw [List.drop_eq_getElem_cons (by omega), e1, List.drop_of_length_le (by omega)] at this
    exact this.symm
  · have hj : j < ws.length := (List.getElem?_eq_some_iff.mp b).1
    rw [List.getElem?_take, if_pos hj] at a
    exact hm j g l a (by rw [List.getElem?_append_left hj]; exact b)
theorem aBp {n : Int} {ws : List (List Int)} {hs hs' lv : List Int} {h v : Int} (R : Rng n ws) (hd : aZ ws (aY hs) = true) (hd' : aZ ws (aY hs') = true) (L : bA n ws hs lv) (h0 : 0 <= h) (h1 : h < n) (hv : lv[h.toNat]? = some v) (t : Int) :
    ex t (aI n hs) + (if t <= v then 1 else 0) <= ex t (aI n (hs' ++ [h])) := by
  obtain ⟨hlv, hL⟩ := L
  have hr := R.deal hd
  have hr' := R.deal hd'
  have at_ : ∀ h : Int, 0 <= h -> h < n -> ∃ v, lv[h.toNat]? = some v /\ kE ws hs n.toNat h v /\ ((hs.count h : Nat) : Int) - v < 2 := fun h h0 h1 => by
    have hlt : h.toNat < lv.length := by omega
    have e := List.getElem?_eq_getElem hlt
    obtain ⟨m1, m2⟩ := hL _ _ e
    rw [show ((h.toNat : Nat) : Int) = h by omega] at m1 m2
    exact ⟨_, e, m1, m2⟩
  let p : Int -> Bool := fun h => decide (t <= lv.getD h.toNat 0)
  have pv : ∀ h v, lv[h.toNat]? = some v -> p h = decide (t <= v) := fun h v e => by
    show decide (t <= lv.getD h.toNat 0) = _
    rw [List.getD_eq_getElem?_getD, e]; rfl
  have e1 : ex t (aI n hs) = aU ((bY n.toNat).map fun h => if p h then ((hs.count h : Nat) : Int) else 0) + aU ((bY n.toNat).map fun h => if p h then -t else 0) := by
    unfold ex aI
    rw [List.map_map, <- dX]
    refine gB fun h hh => ?_
    obtain ⟨h0, h1⟩ := pL hh
    obtain ⟨v, ev, mv, dv⟩ := at_ h h0 h1
    have lev := mv.le
    show max (((hs.count h : Nat) : Int) - t) 0 = _
    rw [pv h v ev]
    by_cases hp : t <= v
    · rw [decide_eq_true hp, if_pos rfl, if_pos rfl]; omega
    · rw [decide_eq_false hp, if_neg Bool.false_ne_true, if_neg Bool.false_ne_true]; omega
  have hr2 : ∀ x ∈ hs' ++ [h], 0 <= x /\ x < n := fun x hx => by
    rcases List.mem_append.mp hx with hx | hx
    · exact hr' x hx
    · rw [List.mem_singleton.mp hx]; exact ⟨h0, h1⟩
  have e2 : aU ((bY n.toNat).map fun g => if p g then (((hs' ++ [h]).count g : Nat) : Int) else 0) + aU ((bY n.toNat).map fun h => if p h then -t else 0) <= ex t (aI n (hs' ++ [h])) := by
    unfold ex aI
    rw [List.map_map, <- dX]
    refine lG fun g hh => ?_
    show _ <= max ((((hs' ++ [h]).count g : Nat) : Int) - t) 0
    split <;> omega
  have e3 : inS p hs <= inS p hs' := by
    refine sE (by rw [(aJ hd).1, (aJ hd').1]) fun i g u hg hu hpg => ?_
    have hlt : i < ws.length := by rw [<- (aJ hd').1]; exact (List.getElem?_eq_some_iff.mp hu).1
    have el := List.getElem?_eq_getElem hlt
    have hul := (aJ hd').2 i u _ hu el
    have gb := hr g (List.mem_of_getElem? hg)
    have ub := hr' u (List.mem_of_getElem? hu)
    obtain ⟨vg, evg, mg, _⟩ := at_ g gb.1 gb.2
    obtain ⟨vu, evu, mu, _⟩ := at_ u ub.1 ub.2
    rw [pv g vg evg] at hpg
    rw [pv u vu evu]
    have hle : vg <= vu := by
      by_cases hgu : u = g
      · subst hgu
        rw [evg] at evu
        rw [Option.some.inj evu]; exact Int.le_refl _
      · exact mg.edge mu (w := i) ⟨hg, _, el, hul, hgu⟩
    exact decide_eq_true (Int.le_trans (of_decide_eq_true hpg) hle)
  have e4 : inS p (hs' ++ [h]) = inS p hs' + (if t <= v then 1 else 0) := by
    unfold inS
    rw [List.map_append, cU]
    show _ + ((if p h = true then (1 : Int) else 0) + 0) = _
    rw [pv h v hv]
    by_cases hp : t <= v
    · rw [decide_eq_true hp, if_pos rfl, if_pos hp]; omega
    · rw [decide_eq_false hp, if_neg Bool.false_ne_true, if_neg hp]; omega
  rw [fO p hr] at e1
  rw [fO p hr2] at e2
  omega
theorem mG {n : Int} {ws : List (List Int)} {hs lv : List Int} {h v : Int} (R : Rng n ws) (hd : aZ ws (aY hs) = true) (L : bA n ws hs lv) (h0 : 0 <= h) (h1 : h < n) (hv : lv[h.toNat]? = some v) :
    ∃ D, Lst n (ws ++ [[h]]) D /\ (∀ t, ex t (aI n D) = ex t (aI n hs) + (if t <= v then 1 else 0)) /\ v ∈ aI n hs := by
  obtain ⟨hl, hm⟩ := aJ hd
  obtain ⟨m1, m2⟩ := L.2 _ _ hv
  rw [show ((h.toNat : Nat) : Int) = h by omega] at m1 m2
  obtain ⟨y, ry, ey⟩ := m1.1
  have hy : 0 <= y /\ y < n := RL.closed (S := fun x => 0 <= x /\ x < n) (fun g w t _ e => R.edge e) ⟨h0, h1⟩ ry
  obtain ⟨ss, P, N⟩ := sF ry
  have P2 := uM (zS (l := [h]) (g0 := h) hl) P
  have hdD : aZ (ws ++ [[h]]) (aY (cB (hs ++ [h]) ss)) = true := by
    obtain ⟨a1, a2⟩ := aJ (zT (h := h) hd)
    refine fV (by rw [iG]; exact a1) (iH ss (fun s hs' => ?_) a2)
    obtain ⟨_, l, b1, b2, _⟩ := jW P2 s hs'
    exact ⟨l, b1, b2⟩
  have hE : ∀ t, ex t (aI n (cB (hs ++ [h]) ss)) = ex t (aI n hs) + (if t <= v then 1 else 0) := fun t => by
    rw [ey]
    refine wI hy.1 hy.2 (fun c c0 c1 => ?_) t
    rw [iY ss P2 N c, List.count_append, List.count_cons, List.count_nil]
    by_cases e : c = h
    · subst e
      rw [if_pos rfl, if_pos (by simp)]
      split <;> omega
    · rw [if_neg e, if_neg (by simpa using Ne.symm e)]
      split <;> omega
  refine ⟨_, ⟨hdD, fun hs'' hd'' t => ?_⟩, hE, ?_⟩
  · obtain ⟨hs', rfl, hd'⟩ := uN hd''
    rw [hE]
    exact aBp R hd hd' L h0 h1 hv t
  · rw [ey]
    have := bV (n := n) (hs := hs) (j := y.toNat) (by omega)
    rw [show ((y.toNat : Nat) : Int) = y by omega] at this
    exact List.mem_of_getElem? this
theorem yB {n : Int} {ws ws2 : List (List Int)} {hs lv hs2 lv2 : List Int} {h v v2 : Int} (p : ws.Perm ws2) (R : Rng n ws) (hd : aZ ws (aY hs) = true) (L : bA n ws hs lv) (hd2 : aZ ws2 (aY hs2) = true) (L2 : bA n ws2 hs2 lv2) (h0 : 0 <= h) (h1 : h < n) (hv : lv[h.toNat]? = some v) (hv2 : lv2[h.toNat]? = some v2) : v = v2 := by
  have R2 := R.perm p
  obtain ⟨D, d1, d2, _⟩ := mG R hd L h0 h1 hv
  obtain ⟨D2, e1, e2, _⟩ := mG R2 hd2 L2 h0 h1 hv2
  have key : ∀ t, (if t <= v then (1 : Int) else 0) = if t <= v2 then 1 else 0 := fun t => by
    have a := d2 t
    have b := e2 t
    have c := Lst.perm (p.append_right [[h]]) d1 e1 t
    have d := Lst.perm p (Lst.of R hd L) (Lst.of R2 hd2 L2) t
    omega
  have k1 := key v
  have k2 := key v2
  rw [if_pos (Int.le_refl v)] at k1
  rw [if_pos (Int.le_refl v2)] at k2
  split at k1 <;> split at k2 <;> omega
def kG (n : Int) (ws : List (List Int)) (hs : List Int) (g v : Int) : Prop := (∃ k z, 0 <= z /\ z < n /\ RL ws hs k z g /\ v = ((hs.count z : Nat) : Int)) /\ ∀ k z, 0 <= z -> z < n -> RL ws hs k z g -> ((hs.count z : Nat) : Int) <= v
def cP {α : Type} (i : Nat) (l : List α) : List α := l.take i ++ l.drop (i + 1)
theorem aBq {α : Type} {l : List α} {i : Nat} {x : α} (h : l[i]? = some x) : l = l.take i ++ x :: l.drop (i + 1) := by
  have hi := (List.getElem?_eq_some_iff.mp h).1
  have e := (List.getElem?_eq_some_iff.mp h).2
  have := List.take_append_drop i l
  rw [List.drop_eq_getElem_cons hi, e] at this
  exact this.symm
theorem sG {α : Type} {l : List α} {i : Nat} (h : i < l.length) : (cP i l).length + 1 = l.length := by
  unfold cP
  rw [List.length_append, List.length_take, List.length_drop]; omega
theorem nK {α : Type} {l : List α} {i j : Nat} (h : i < l.length) : (cP i l)[j]? = if j < i then l[j]? else l[j + 1]? := by
  unfold cP
  by_cases hj : j < i
  · rw [if_pos hj, List.getElem?_append_left (by rw [List.length_take]; omega), List.getElem?_take, if_pos hj]
  · rw [if_neg hj, List.getElem?_append_right (by rw [List.length_take]; omega), List.length_take, List.getElem?_drop, Nat.min_eq_left (by omega)]
    congr 1; omega
theorem aBr {ws : List (List Int)} {hs : List Int} {i : Nat} (hi : i < ws.length) (hd : aZ ws (aY hs) = true) : aZ (cP i ws) (aY (cP i hs)) = true := by
  obtain ⟨hl, hm⟩ := aJ hd
  refine fV ?_ fun j g l e1 e2 => ?_
  · have := sG hi
    have := sG (l := hs) (i := i) (by omega)
    omega
  · rw [nK (by omega)] at e1
    rw [nK hi] at e2
    by_cases hj : j < i
    · rw [if_pos hj] at e1 e2; exact hm j g l e1 e2
    · rw [if_neg hj] at e1 e2; exact hm _ g l e1 e2
def gS (i : Nat) (g : Int) (l : List Int) : List Int := l.take i ++ g :: l.drop i
theorem aCk {l : List Int} {i j : Nat} {g : Int} (h : i <= l.length) : (gS i g l)[j]? = if j < i then l[j]? else if j = i then some g else l[j - 1]? := by
  unfold gS
  by_cases hj : j < i
  · rw [if_pos hj, List.getElem?_append_left (by rw [List.length_take]; omega), List.getElem?_take, if_pos hj]
  · rw [if_neg hj, List.getElem?_append_right (by rw [List.length_take]; omega), List.length_take, Nat.min_eq_left h]
    by_cases e : j = i
    · rw [if_pos e, e, Nat.sub_self]; rfl
    · rw [if_neg e, show j - i = (j - i - 1) + 1 by omega, List.getElem?_cons_succ, List.getElem?_drop]
      congr 1; omega
theorem zU {l : List Int} {i : Nat} {g c : Int} : (((gS i g l).count c : Nat) : Int) = ((l.count c : Nat) : Int) + (if c = g then 1 else 0) := by
  unfold gS
  have e : l.count c = (l.take i).count c + (l.drop i).count c := by rw [<- List.count_append, List.take_append_drop]
  rw [List.count_append, List.count_cons, e]
  by_cases h : c = g
  · rw [if_pos h, if_pos (by simp [h])]; omega
  · rw [if_neg h, if_neg (by simpa using Ne.symm h)]; omega
theorem aBs {ws : List (List Int)} {hs : List Int} {i : Nat} {g : Int} {l : List Int} (hi : ws[i]? = some l) (hg : g ∈ l) (hd : aZ (cP i ws) (aY hs) = true) : aZ ws (aY (gS i g hs)) = true := by
  have hiw := (List.getElem?_eq_some_iff.mp hi).1
  obtain ⟨hl, hm⟩ := aJ hd
  have hc := sG hiw
  have hil : i <= hs.length := by omega
  refine fV ?_ fun j g' l' e1 e2 => ?_
  · unfold gS
    rw [List.length_append, List.length_take, List.length_cons, List.length_drop]; omega
  · rw [aCk hil] at e1
    by_cases hj : j < i
    · rw [if_pos hj] at e1
      exact hm j g' l' e1 (by rw [nK hiw, if_pos hj]; exact e2)
    · rw [if_neg hj] at e1
      by_cases e : j = i
      · rw [if_pos e] at e1
        subst e
        rw [hi] at e2
        rw [<- Option.some.inj e1, <- Option.some.inj e2]; exact hg
      · rw [if_neg e] at e1
        refine hm (j - 1) g' l' e1 ?_
        rw [nK hiw, if_neg (by omega), show j - 1 + 1 = j by omega]
        exact e2
theorem aBt {n : Int} {ws : List (List Int)} {hs hs' lv : List Int} {i : Nat} {g v : Int} (R : Rng n ws) (hd : aZ ws (aY hs) = true) (L : bA n ws hs lv) (hi : hs[i]? = some g) (T : kG n ws hs g v) (hd' : aZ (cP i ws) (aY hs') = true) (t : Int) :
    ex t (aI n hs) <= ex t (aI n hs') + (if t <= v - 1 then 1 else 0) := by
  obtain ⟨hl, hm⟩ := aJ hd
  have hih := (List.getElem?_eq_some_iff.mp hi).1
  have hiw : i < ws.length := by omega
  have ew := List.getElem?_eq_getElem hiw
  have hgl := hm i g _ hi ew
  have hp := aBs ew hgl hd'
  have hg := R.deal hd g (List.mem_of_getElem? hi)
  have hEp := wI (n := n) (hs := hs') (D := gS i g hs') hg.1 hg.2 (fun c _ _ => zU) t
  by_cases ht : t <= v - 1
  · rw [if_pos ht]
    have := (Lst.of R hd L).2 _ hp t
    rw [hEp] at this
    split at this <;> omega
  · rw [if_neg ht]
    have hr := R.deal hd
    have hr' := R.deal hp
    let S : Int -> Prop := fun c => ∃ k z, 0 <= z /\ z < n /\ t < ((hs.count z : Nat) : Int) /\ RL ws hs k z c
    have Sc : ∀ a w b, S a -> eC ws hs a w b -> S b := fun a w b ⟨k, z, z0, z1, z2, r⟩ e => ⟨k + 1, z, z0, z1, z2, r.snoc e⟩
    have Sg : ¬ S g := fun ⟨k, z, z0, z1, z2, r⟩ => by have := T.2 k z z0 z1 r; omega
    have Slo : ∀ c, S c -> t <= ((hs.count c : Nat) : Int) := fun c ⟨k, z, z0, z1, z2, r⟩ => by
      have hlt : z.toNat < lv.length := by rw [L.1]; omega
      obtain ⟨m1, m2⟩ := L.2 z.toNat _ (List.getElem?_eq_getElem hlt)
      rw [show ((z.toNat : Nat) : Int) = z by omega] at m1 m2
      have := m1.2 k c r
      omega
    have Sup : ∀ c, 0 <= c -> c < n -> ¬ S c -> ((hs.count c : Nat) : Int) <= t := fun c c0 c1 h => by
      rcases Int.lt_or_le t ((hs.count c : Nat) : Int) with h2 | h2
      · exact absurd ⟨0, c, c0, c1, h2, rfl⟩ h
      · exact h2
    classical
    let p : Int -> Bool := fun c => decide (S c)
    have pt : ∀ c, p c = true ↔ S c := fun c => decide_eq_true_iff
    have e1 : ex t (aI n hs) = aU ((bY n.toNat).map fun h => if p h then ((hs.count h : Nat) : Int) else 0) + aU ((bY n.toNat).map fun h => if p h then -t else 0) := by
      unfold ex aI
      rw [List.map_map, <- dX]
      refine gB fun c hh => ?_
      obtain ⟨c0, c1⟩ := pL hh
      show max (((hs.count c : Nat) : Int) - t) 0 = _
      by_cases h : S c
      · have := Slo c h
        rw [if_pos ((pt c).mpr h), if_pos ((pt c).mpr h)]; omega
      · have := Sup c c0 c1 h
        rw [if_neg (fun z => h ((pt c).mp z)), if_neg (fun z => h ((pt c).mp z))]; omega
    have hr2 : ∀ x ∈ hs', 0 <= x /\ x < n := fun x hx => by
      refine hr' x ?_
      unfold gS
      rw [<- List.take_append_drop i hs'] at hx
      rcases List.mem_append.mp hx with hx | hx
      · exact List.mem_append_left _ hx
      · exact List.mem_append_right _ (List.mem_cons_of_mem _ hx)
    have e2 : aU ((bY n.toNat).map fun c => if p c then ((hs'.count c : Nat) : Int) else 0) + aU ((bY n.toNat).map fun h => if p h then -t else 0) <= ex t (aI n hs') := by
      unfold ex aI
      rw [List.map_map, <- dX]
      refine lG fun c hh => ?_
      show _ <= max (((hs'.count c : Nat) : Int) - t) 0
      split <;> omega
    have e3 : inS p hs <= inS p (gS i g hs') := by
      refine sE (by rw [hl, (aJ hp).1]) fun j a u ha hu hpa => ?_
      have hlt : j < ws.length := by rw [<- (aJ hp).1]; exact (List.getElem?_eq_some_iff.mp hu).1
      have el := List.getElem?_eq_getElem hlt
      have hul := (aJ hp).2 j u _ hu el
      have sa := (pt a).mp hpa
      refine (pt u).mpr ?_
      by_cases hau : u = a
      · rw [hau]; exact sa
      · exact Sc a j u sa ⟨ha, _, el, hul, hau⟩
    have e4 : inS p (gS i g hs') = inS p hs' := by
      unfold inS gS
      have e5 : aU (hs'.map fun h => if p h then (1 : Int) else 0) = aU ((hs'.take i).map fun h => if p h then (1 : Int) else 0) + aU ((hs'.drop i).map fun h => if p h then (1 : Int) else 0) := by
        rw [<- cU, <- List.map_append, List.take_append_drop]
      rw [e5, List.map_append, cU, List.map_cons, show ∀ (a : Int) (l : List Int), aU (a :: l) = a + aU l from fun _ _ => rfl, if_neg (fun z => Sg ((pt g).mp z))]
      omega
    rw [fO p hr] at e1
    rw [fO p hr2] at e2
    omega
theorem mH {n : Int} {ws : List (List Int)} {hs lv : List Int} {i : Nat} {g v : Int} (R : Rng n ws) (hd : aZ ws (aY hs) = true) (L : bA n ws hs lv) (hi : hs[i]? = some g) (T : kG n ws hs g v) :
    ∃ D, Lst n (cP i ws) D /\ (∀ t, ex t (aI n hs) = ex t (aI n D) + (if t <= v - 1 then 1 else 0)) /\ v - 1 ∈ aI n D := by
  obtain ⟨hl, hm⟩ := aJ hd
  have hih := (List.getElem?_eq_some_iff.mp hi).1
  have hiw : i < ws.length := by omega
  obtain ⟨k, z, z0, z1, rz, ev⟩ := T.1
  obtain ⟨ss, P, N⟩ := sF rz
  have hk : ∀ s ∈ ss, s.1 ≠ i := fun s hs' e => by
    have h1 := (jW P s hs').1
    rw [e, hi] at h1
    exact qZ P N s hs' (Option.some.inj h1).symm
  have hd0 : aZ ws (aY (cB hs ss)) = true := by
    refine fV (by rw [iG]; exact hl) (iH ss (fun s hs' => ?_) hm)
    obtain ⟨_, l, b1, b2, _⟩ := jW P s hs'
    exact ⟨l, b1, b2⟩
  have hgi : (cB hs ss)[i]? = some g := by rw [rA ss hs i hk]; exact hi
  have hcnt : ∀ c, 0 <= c -> c < n -> ((hs.count c : Nat) : Int) = (((cP i (cB hs ss)).count c : Nat) : Int) + (if c = z then 1 else 0) := fun c _ _ => by
    have h1 := iY ss P N c
    have h2 := congrArg (List.count c) (aBq hgi)
    rw [List.count_append, List.count_cons] at h2
    have h3 : (cP i (cB hs ss)).count c = ((cB hs ss).take i).count c + ((cB hs ss).drop (i + 1)).count c := by unfold cP; rw [List.count_append]
    by_cases e : c = g
    · rw [if_pos e] at h1
      rw [if_pos (by simp [e])] at h2
      omega
    · rw [if_neg e] at h1
      rw [if_neg (by simpa using Ne.symm e)] at h2
      omega
  have hcz := hcnt z z0 z1
  rw [if_pos rfl] at hcz
  have hE : ∀ t, ex t (aI n hs) = ex t (aI n (cP i (cB hs ss))) + (if t <= v - 1 then 1 else 0) := fun t => by
    have := wI z0 z1 hcnt t
    rw [show ((((cP i (cB hs ss)).count z : Nat) : Int)) = v - 1 by omega] at this
    exact this
  refine ⟨_, ⟨aBr hiw hd0, fun hs' hd' t => ?_⟩, hE, ?_⟩
  · have h1 := aBt R hd L hi T hd' t
    have h2 := hE t
    omega
  · have := bV (n := n) (hs := cP i (cB hs ss)) (j := z.toNat) (by omega)
    rw [show ((z.toNat : Nat) : Int) = z by omega, show ((((cP i (cB hs ss)).count z : Nat) : Int)) = v - 1 by omega] at this
    exact List.mem_of_getElem? this
theorem yC {n : Int} {ws ws2 : List (List Int)} {hs lv hs2 lv2 : List Int} {i j : Nat} {g g2 v v2 : Int} (p : ws.Perm ws2) (pc : (cP i ws).Perm (cP j ws2)) (R : Rng n ws) (hd : aZ ws (aY hs) = true) (L : bA n ws hs lv) (hd2 : aZ ws2 (aY hs2) = true) (L2 : bA n ws2 hs2 lv2)
    (hi : hs[i]? = some g) (hj : hs2[j]? = some g2) (T : kG n ws hs g v) (T2 : kG n ws2 hs2 g2 v2) : v = v2 := by
  have R2 := R.perm p
  obtain ⟨D, d1, d2, _⟩ := mH R hd L hi T
  obtain ⟨D2, e1, e2, _⟩ := mH R2 hd2 L2 hj T2
  have key : ∀ t, (if t <= v - 1 then (1 : Int) else 0) = if t <= v2 - 1 then 1 else 0 := fun t => by
    have a := d2 t
    have b := e2 t
    have c := Lst.perm pc d1 e1 t
    have d := Lst.perm p (Lst.of R hd L) (Lst.of R2 hd2 L2) t
    omega
  have k1 := key (v - 1)
  have k2 := key (v2 - 1)
  rw [if_pos (Int.le_refl _)] at k1 k2
  split at k1 <;> split at k2 <;> omega
theorem pM (l : List Int) : ∃ ms : List Int, ms.Perm l /\ ms.Pairwise (· ≥ ·) := ⟨l.mergeSort (fun a b => decide (a ≥ b)), List.mergeSort_perm _ _, (List.pairwise_mergeSort (le := fun a b => decide (a ≥ b)) (by intro a b c h1 h2; simp at *; omega) (by intro a b; simp; omega) l).imp fun h => by simpa using h⟩
theorem yD (t x : Int) (l : List Int) : ex t (x :: l) = max (x - t) 0 + ex t l := rfl
theorem zV {n : Int} {ws ws2 : List (List Int)} {hs hs2 ms ys : List Int} (p : ws.Perm ws2) (a : Lst n ws hs) (b : Lst n ws2 hs2) (hm : ms.Perm (aI n hs)) (hy : ys.Perm (aI n hs2)) (sm : ms.Pairwise (· ≥ ·)) (sy : ys.Pairwise (· ≥ ·)) : ms = ys :=
  kP (by rw [aN, aN]) (fun t => by rw [Lst.perm p a b t]; exact Int.le_refl _) (fun t => by rw [Lst.perm p a b t]; exact Int.le_refl _) hm hy sm sy
theorem aCA {n : Int} {plain gH ms : List Int} {a b : List Int} {x : Int} (hl : a.length = b.length) (hE : ∀ t, ex t b = ex t a + (if t <= x then 1 else 0)) (hp : plain.Perm a) (hr : plain.Perm (x :: gH)) (hm : ms.Perm b) (sm : ms.Pairwise (· ≥ ·)) {out : List Int} (ho : out.Perm ((x + 1) :: gH)) (so : out.Pairwise (· ≥ ·)) : out = ms := by
  have hlen : ((x + 1) :: gH).length = b.length := by
    have h1 := hp.length_eq
    have h2 := hr.length_eq
    rw [List.length_cons] at h2 ⊢
    omega
  have e : ∀ t, ex t ((x + 1) :: gH) = ex t b := fun t => by
    rw [hE t, <- jV hp, jV hr, yD, yD]
    split <;> omega
  exact kP hlen (fun t => by rw [e t]; exact Int.le_refl _) (fun t => by rw [e t]; exact Int.le_refl _) ho hm so sm
end Ab
set_option Elab.async false
set_option linter.all false
set_option maxRecDepth 100000
namespace L2
open PySem
theorem aCl {X : Cx} {K : PySem.W.Frag} (k1 k2 : Sk) {es : List Expr} {x1 : Nat} {tpos : Pos} {a b : Expr} {ta : TA} {p pos : Pos} (hK : X.K = K) (hg : Gl X "zip") (hm : X.mg "zip" = none) (ha : PA X [a, b] ta) (hs : starEach [a, b] X.env = [(false, eval a X.env), (false, eval b X.env)] := by rfl) (hs2 : starEach [b] X.env = [(false, eval b X.env)] := by rfl) :
    PI X (.Tuple es x1 tpos) (.Call (.Name "zip" p) [a, b] [] pos) (aDK K k1 k2 ta) := by subst hK; exact vK k1 k2 hg hm ha hs hs2
theorem wJ {X : Cx} {K : PySem.W.Frag} (hK : X.K = K) (hc : X.calm = true) : eY X (.builtin "min") (fun xs H Q => ∃ (p : Addr) (ns : List Int), xs = [.ref p] /\ SqL K H p (ns.map V.int) /\ 0 < ns.length /\ ∀ M, M ∈ ns -> (∀ a ∈ ns, M <= a) -> Q (.int M) H) := by
  subst hK; exact qK hc
theorem aCB : bootBuiltins "max" = some (.builtin "max") := by decide +kernel
end L2
namespace Ab
open PySem L2
def aD0 : Scope := aDN (match (eG iR).getD 3 (.Pass ⟨0, 0, 0, 0⟩) with
  | .Return (some (.Call _ [.ListComp _ _ sc _] _ _)) _ => sc
  | _ => aF iR) (aF iR)
def aDh : Scope := match (eG gN).getD 4 (.Pass ⟨0, 0, 0, 0⟩) with
  | .Assign _ (.ListComp _ _ sc _) _ => sc
  | _ => aF gN
def lM (n : Int) (ws : List (List Int)) (hs : List Int) (H : Hp) (zs : List V) (i : Nat) : Prop := ∀ j : Nat, j < i -> ∃ (q : Addr) (fs : List (Key × V)) (os : List Int), zs[j]? = some (.ref q) /\ H q = some (.dK fs) /\ fs.map (·.1) = os.map Sum.inl /\ aBh ws hs os /\ os[0]? = some (j : Int) /\ ∀ (m : Nat) (t : Int), os[m]? = some t -> RL ws hs m j t
theorem lM.same {n : Int} {ws : List (List Int)} {hs : List Int} {H H' : Hp} {zs : List V} {i : Nat} (h : lM n ws hs H zs i) (s : aE H H') : lM n ws hs H' zs i := fun j hj => let ⟨q, fs, os, a, b, c⟩ := h j hj; ⟨q, fs, os, a, s _ _ b, c⟩
section
variable {P : Program} {w : World} {K : PySem.W.Frag} {mg : Str -> Option Value} {base : Heap}
variable {fW fH fK fB fNB fD fND fL : Addr} {dW dH dK dB dNB dD dND dL : FuncData}
def nM (K : PySem.W.Frag) (Pt : Addr) : Sp := fun vs H Q _ => ∃ (x : V) (n : Int) (ws : List (List Int)), vs = [x] /\ Den K H (bO n ws) x /\ bQ (bO n ws) = true /\ H Pt = some (.tab mV) /\
  ∀ (p : Addr) (hs lv : List Int) H', aE H H' -> aZ ws (aY hs) = true -> bA n ws hs lv -> H' p = some (.tup (lv.map V.int)) -> Q (.ref p) H'
theorem nN : FnScope ["book", "deal", "many", "rows"] ["book"] (aF iR) := ⟨rfl, rfl, rfl, by decide +kernel, rfl, by decide +kernel, by decide +kernel⟩
set_option maxHeartbeats 2000000 in
theorem aBu {f fE fHd fR Pt : Addr} {fd dE dHd dR : FuncData} (G : Fn K mg "grows" iR ["book"] f fd) (B : Bl mg) (R : Pr K mg fW fH fK fB fNB fD fND fL dW dH dK dB dNB dD dND dL)
    (GEv : Fn K mg "evenest" fZ ["book"] fE dE) (OEv : FnOk P w K mg base CX0 11 fE dE ["book"] (gG K Pt)) (GH : Fn K mg "handing" gM ["book", "deal"] fHd dHd) (GR : Fn K mg "reached" iB ["rows", "first"] fR dR) : FnOk P w K mg base CX0 12 f fd ["book"] (nM K Pt) := by
  have OL : FnOk P w K mg base CX0 7 fL dL ["book", "deal"] (lD K) := lE B R
  have OH : FnOk P w K mg base CX0 1 fHd dHd ["book", "deal"] (jS K) := kM GH B
  have OR : FnOk P w K mg base CX0 1 fR dR ["rows", "first"] (jT K) := kN GR B
  refine G.fn.ok nN (fun vs H Q E h => ?_) (fun cdv A outer s H vs Q E hr h => ?_)
  · obtain ⟨x, n, ws, rfl, _⟩ := h
    rfl
  · obtain ⟨x, n, ws, rfl, hx, hbk, hT, k⟩ := h
    have r1 : Room 1 _ := hr.mono (by decide)
    have r7 : Room 7 _ := hr.mono (by decide)
    have r11 : Room 11 _ := hr
    refine ⟨_, (aD (aQ (i := 1) nN.nd rfl (Or.inl rfl) (bD bF (aV GEv OEv r11 rfl (aA (pv 0) aB)) aK (fun _ _ => rfl)))
    (aD (aQ (i := 2) nN.nd rfl (Or.inr rfl) (aV R.L OL r7 rfl (aA (pv 0) (aA (pv 1) aB))))
    (aD (aQ (i := 3) nN.nd rfl (Or.inr rfl) (aV GH OH r1 rfl (aA (pv 0) (aA (pv 1) aB))))
    (aG (aP (cE bS rfl B.tuple cR (aA (cM (own := ["hand"]) (fr := [2, 3]) (frn := ["many", "rows"]) (bI (aF iR) ["book", "deal", "many", "rows"] rfl rfl (by decide +kernel)) rfl (bT rfl B.range (aA (bD bF (pv 0) aK (fun _ _ => rfl)) aB))
        (fun _ _ _ _ => (aL (i := 0) (show (["hand", "many", "rows"] : List Str).Nodup by decide +kernel) rfl (Or.inl rfl))) (fun _ _ _ _ => dJ)
        (fun _ _ _ _ => (aM (wJ (K := K) rfl rfl) rfl B.min aAH (aA (aA1 (own := ["other"]) (fr := [1]) (frn := ["many"]) (bI aD0 ["hand", "many", "rows"] rfl rfl (by decide +kernel)) rfl (aV GR OR r1 rfl (aA (pv 2) (aA (pv 0) aB)))
        (fun _ _ _ _ => (aL (i := 0) (show (["other", "many"] : List Str).Nodup by decide +kernel) rfl (Or.inl rfl))) (fun _ _ _ _ => dJ)
        (fun _ _ _ _ => (bD (nE (K := K) rfl) (pv 1) (pv 0) (fun _ _ => rfl)))) aB)))) aB))))))), ?_⟩
    obtain ⟨hn1, hn6, hw12, hws⟩ := bJ hbk
    refine ⟨_, rfl, x, n, ws, rfl, hx, hbk, hT, fun pe dp le hs lv H1 s1 hpe hdp hd hle hlv => ⟨pe, _, 0, .ref dp, rfl, rfl, SqT.of hpe, rfl, ?_⟩⟩
    obtain ⟨a, b, ys, rfl, ha, hb2, hys⟩ := cW (s1.den _ _ hx)
    have g1 : dQ K H1 (.ref a) (.ref dp) n ws hs := ⟨s1.den _ _ hx, hbk, aO.mpr ⟨dp, rfl, SqT.of hdp⟩, hd⟩
    refine ⟨_, rfl, _, rfl, .ref a, .ref dp, n, ws, hs, rfl, g1, fun mp H2 s2 hmp => ?_⟩
    refine ⟨_, rfl, _, rfl, .ref a, .ref dp, n, ws, hs, rfl, g1.same s2, fun rp H5 qs rs s5 hrp hqs R5 hlr ER => ?_⟩
    have s25 := s2.trans s5
    have nx5 := s5 _ _ hmp
    have hedge : ∀ g w t, eC ws hs g w t -> 0 <= t /\ t < n := fun g w t e => by
      obtain ⟨_, l, h1, h2, _⟩ := e
      exact (cG (hws l (List.mem_of_getElem? h1))).2.1 t h2
    have hlvl := hlv.1
    have lat : ∀ o : Int, 0 <= o -> o < n -> (aI n hs).getD o.toNat 0 = ((hs.count o : Nat) : Int) := fun o o0 o1 => by
      have := bV (n := n) (hs := hs) (j := o.toNat) (by omega)
      rw [List.getD_eq_getElem?_getD, this, show ((o.toNat : Nat) : Int) = o by omega]; rfl
    refine ⟨_, rfl, a, _, 0, .int n, rfl, rfl, s25.seqT ha, rfl, n, rfl, by omega, by omega, fM (lo := 0) (n := n.toNat) (fun σ => ∃ v, σ = [v, some (.ref mp), some (.ref rp)]) (fun i zs H6 => aE H5 H6 /\ zs = (lv.take i).map V.int) (eN (by omega)) ⟨none, rfl⟩ ⟨aE.refl _, rfl⟩ ?_ ?_ ?_⟩
    · rintro i zs H6 ⟨_, rfl⟩
      rw [List.length_map, List.length_take]; omega
    · rintro i zs σ H6 hi ⟨v, rfl⟩ ⟨s6, rfl⟩ hz
      refine bU ?_
      refine ⟨_, rfl, _, rfl, rp, 0 + (i : Int), qs, rs, n, ws, hs, rfl, R5.same s6, hlr, ER, hedge, by omega, by omega, by omega, fun fdp H7 fs os s7 hfd e7 T7 C7 => ?_⟩
      have T7l := T7.len
      have hfl := T7.flen
      have s57 := s6.trans s7
      have hpos : 0 < os.length := (List.getElem?_eq_some_iff.mp T7.head).1
      refine ⟨fdp, fs, rfl, e7, fun o => zK (a := fdp) (o := o) (kvs := fs) (fun σ => ∃ v, σ = [v, some (.ref mp)]) (fun j zs H8 => H8 = upd H7 fdp (.frz o (.dK fs)) /\ zs = ((os.take j).map fun o => (aI n hs).getD o.toNat 0).map V.int) (eN (by omega)) ⟨_, rfl⟩ ⟨rfl, rfl⟩ (fun j zs H8 z => ?_) (fun j zs H8 z => by rw [z.1]; exact aC) ?_ ?_⟩
      · rw [z.2, List.length_map, List.length_map, List.length_take]
        omega
      · rintro j zs' σ p H8 hp ⟨v', rfl⟩ ⟨rfl, rfl⟩ hsz
        obtain ⟨ov, hov, hpe'⟩ : ∃ ov, os[j]? = some ov /\ p.1 = .inl ov := by
          have e := congrArg (fun l => l[j]?) T7.keys
          simp only [List.getElem?_map] at e
          rw [hp] at e
          cases q : os[j]? with
          | none => rw [q] at e; cases e
          | some ov => rw [q] at e; exact ⟨ov, rfl, Option.some.inj e⟩
        obtain ⟨o0, o1⟩ := T7.rng ov (List.mem_of_getElem? hov)
        have nfx : mp ≠ fdp := fun z => by have := s6 _ _ nx5; rw [z, hfd] at this; cases this
        have nx8 : upd H7 fdp (.frz o (.dK fs)) mp = some (.tup ((aI n hs).map V.int)) := by rw [aH nfx]; exact s57 _ _ nx5
        rw [hpe']
        refine bU ?_
        refine ⟨_, rfl, _, rfl, mp, _, ov, _, rfl, rfl, SqT.of nx8, oZ o0 (by rw [aN]; omega), hsz, ⟨_, rfl⟩, rfl, ?_⟩
        rw [List.take_succ, hov, List.map_append, List.map_append]
        rfl
      · rintro zs' H8 ⟨rfl, rfl⟩ lp hlp
        rw [hfl, List.take_length] at *
        have nlf : fdp ≠ lp := fun z => by rw [<- z, aC] at hlp; cases hlp
        have hlp7 : H7 lp = none := by rw [aH (Ne.symm nlf)] at hlp; exact hlp
        have s8 : aE H7 (upd (upd (upd H7 fdp (.frz o (.dK fs))) lp (.lst ((os.map fun o => (aI n hs).getD o.toNat 0).map V.int))) fdp (.dK fs)) := fun b u hb => by
          by_cases hbf : b = fdp
          · rw [hbf] at hb ⊢
            rw [aC, <- e7]; exact hb
          · rw [aH hbf, aH (fun z => by rw [z, hlp7] at hb; cases hb), aH hbf]
            exact hb
        have l8 : (upd (upd (upd H7 fdp (.frz o (.dK fs))) lp (.lst ((os.map fun o => (aI n hs).getD o.toNat 0).map V.int))) fdp (.dK fs)) lp = some (.lst ((os.map fun o => (aI n hs).getD o.toNat 0).map V.int)) := by
          rw [aH (Ne.symm nlf), aC]
        generalize upd (upd (upd H7 fdp (.frz o (.dK fs))) lp (.lst ((os.map fun o => (aI n hs).getD o.toNat 0).map V.int))) fdp (.dK fs) = H8 at s8 l8 ⊢
        refine ⟨lp, _, rfl, SqL.of l8, by rw [List.length_map]; exact hpos, fun M hM1 hM2 => ⟨hz, ⟨_, rfl⟩, s57.trans s8, ?_⟩⟩
        have e0 : (0 : Int) + (i : Int) = i := by omega
        rw [e0] at T7
        have hil : i < lv.length := by omega
        have ev := List.getElem?_eq_getElem hil
        obtain ⟨m1, m2⟩ := hlv.2 i _ ev
        obtain ⟨ov, ho, rfl⟩ := List.mem_map.mp hM1
        obtain ⟨jj, hjj⟩ := List.mem_iff_getElem?.mp ho
        have hor := T7.rng ov ho
        have h1 := m1.2 _ _ (T7.rl jj ov hjj)
        obtain ⟨xx, rx, ex⟩ := m1.1
        have hxx : xx ∈ os := RL.closed (S := fun x => x ∈ os) (fun g w t hg e => C7 g hg w t e) (List.mem_of_getElem? T7.head) rx
        have hxr := T7.rng xx hxx
        have h2 := hM2 _ (List.mem_map.mpr ⟨xx, hxx, rfl⟩)
        rw [lat xx hxr.1 hxr.2] at h2
        rw [lat ov hor.1 hor.2] at h2 ⊢
        rw [List.take_succ, ev, List.map_append]
        show _ = _ ++ [V.int lv[i]]
        congr 2
        congr 1
        omega
    · rintro zs H6 ⟨s6, rfl⟩ lq hlq
      refine ⟨lq, _, rfl, .inl ⟨SqL.of aC, fun pp hpp => ?_⟩⟩
      rw [List.take_of_length_le (by omega)] at *
      have s7 := (aE.new (o := .lst (lv.map V.int)) hlq).trans (aE.new (o := .tup (lv.map V.int)) hpp)
      exact k pp hs lv _ (s1.trans (s25.trans (s6.trans s7))) hd hlv aC
def nO (K : PySem.W.Frag) (Pt : Addr) : Sp := fun vs H Q _ => ∃ (x : V) (n : Int) (ws : List (List Int)), vs = [x] /\ Den K H (bO n ws) x /\ bQ (bO n ws) = true /\ H Pt = some (.tab mV) /\
  ∀ (p : Addr) (hs lv vs : List Int) H', aE H H' -> aZ ws (aY hs) = true -> bA n ws hs lv -> H' p = some (.tup (vs.map V.int)) -> vs.length = hs.length -> (∀ (i : Nat) g v, hs[i]? = some g -> vs[i]? = some v -> kG n ws hs g v) -> Q (.ref p) H'
theorem jX : FnScope ["book", "deal", "many", "rows", "found", "tops"] ["book"] (aF gN) := ⟨rfl, rfl, rfl, by decide +kernel, rfl, by decide +kernel, by decide +kernel⟩
set_option maxHeartbeats 2000000 in
theorem aBv {f fE fHd fR Pt : Addr} {fd dE dHd dR : FuncData} (G : Fn K mg "falls" gN ["book"] f fd) (B : Bl mg) (R : Pr K mg fW fH fK fB fNB fD fND fL dW dH dK dB dNB dD dND dL)
    (GEv : Fn K mg "evenest" fZ ["book"] fE dE) (OEv : FnOk P w K mg base CX0 11 fE dE ["book"] (gG K Pt)) (GH : Fn K mg "handing" gM ["book", "deal"] fHd dHd) (GR : Fn K mg "reached" iB ["rows", "first"] fR dR) : FnOk P w K mg base CX0 12 f fd ["book"] (nO K Pt) := by
  have OL : FnOk P w K mg base CX0 7 fL dL ["book", "deal"] (lD K) := lE B R
  have OH : FnOk P w K mg base CX0 1 fHd dHd ["book", "deal"] (jS K) := kM GH B
  have OR : FnOk P w K mg base CX0 1 fR dR ["rows", "first"] (jT K) := kN GR B
  refine G.fn.ok jX (fun vs H Q E h => ?_) (fun cdv A outer s H vs Q E hr h => ?_)
  · obtain ⟨x, n, ws, rfl, _⟩ := h
    rfl
  · obtain ⟨x, n, ws, rfl, hx, hbk, hT, k⟩ := h
    have r1 : Room 1 _ := hr.mono (by decide)
    have r7 : Room 7 _ := hr.mono (by decide)
    have r11 : Room 11 _ := hr
    refine ⟨_, (aD (aQ (i := 1) jX.nd rfl (Or.inl rfl) (bD bF (aV GEv OEv r11 rfl (aA (pv 0) aB)) aK (fun _ _ => rfl)))
    (aD (aQ (i := 2) jX.nd rfl (Or.inr rfl) (aV R.L OL r7 rfl (aA (pv 0) (aA (pv 1) aB))))
    (aD (aQ (i := 3) jX.nd rfl (Or.inr rfl) (aV GH OH r1 rfl (aA (pv 0) (aA (pv 1) aB))))
    (aD (aQ (i := 4) jX.nd rfl (Or.inr rfl) (cM (own := ["hand"]) (fr := [3]) (frn := ["rows"]) (bI (aF gN) ["book", "deal", "many", "rows", "found", "tops"] rfl rfl (by decide +kernel)) rfl (bT rfl B.range (aA (bD bF (pv 0) aK (fun _ _ => rfl)) aB))
        (fun _ _ _ _ => (aL (i := 0) (show (["hand", "rows"] : List Str).Nodup by decide +kernel) rfl (Or.inl rfl))) (fun _ _ _ _ => dJ)
        (fun _ _ _ _ => (aV GR OR r1 rfl (aA (pv 1) (aA (pv 0) aB))))))
    (aD (aQ (i := 5) jX.nd rfl (Or.inr rfl) (aAG (z0 := "hand") (own := ["hand"]) (fr := [4, 2]) (frn := ["found", "many"]) (vL (aF gN) ["book", "deal", "many", "rows", "found", "tops"] rfl rfl (fun _ _ => rfl) (fun _ => rfl) (by decide +kernel)) rfl (bT rfl B.range (aA (bD bF (pv 0) aK (fun _ _ => rfl)) aB))
        (fun _ _ _ _ => (aL (i := 0) (show (["hand", "found", "many"] : List Str).Nodup by decide +kernel) rfl (Or.inr rfl))) (fun _ _ _ _ => dJ)
        (fun _ _ _ _ => (aM (vQ (K := K) rfl rfl) rfl B.max aCB (aA (cM (own := ["load", "leads"]) (fr := [0]) (frn := ["hand"]) (bI (aDN aDh (aF gN)) ["hand", "found", "many"] rfl rfl (by decide +kernel)) rfl (aCl (K := K) .t .l rfl rfl B.zip (aA (pv 2) (aA (pv 1) aB)))
        (fun _ _ _ _ => (rW (K := K) (n := 2) rfl rfl (bC (aL (i := 0) (show (["load", "leads", "hand"] : List Str).Nodup by decide +kernel) rfl (Or.inl rfl)) (bC (aL (i := 1) (show (["load", "leads", "hand"] : List Str).Nodup by decide +kernel) rfl (Or.inl rfl)) eF)))) (fun _ _ _ _ => vI (uU (aC1 (nZ hr) (pv 2) (pv 1)) (by with_unfolding_all rfl)))
        (fun _ _ _ _ => (pv 0))) aB)))))
    (aG (aP (cE bS rfl B.tuple cR (aA (cM (own := ["hand"]) (fr := [5]) (frn := ["tops"]) (bI (aF gN) ["book", "deal", "many", "rows", "found", "tops"] rfl rfl (by decide +kernel)) rfl (iL (pv 1))
        (fun _ _ _ _ => (aL (i := 0) (show (["hand", "tops"] : List Str).Nodup by decide +kernel) rfl (Or.inl rfl))) (fun _ _ _ _ => dJ)
        (fun _ _ _ _ => (bD (tI (K := K) rfl) (pv 1) (pv 0) (fun _ _ => rfl)))) aB))))))))), ?_⟩
    obtain ⟨hn1, hn6, hw12, hws⟩ := bJ hbk
    refine ⟨_, rfl, x, n, ws, rfl, hx, hbk, hT, fun pe dp le hs lv H1 s1 hpe hdp hd hle hlv => ⟨pe, _, 0, .ref dp, rfl, rfl, SqT.of hpe, rfl, ?_⟩⟩
    obtain ⟨a, b, ys, rfl, ha, hb2, hys⟩ := cW (s1.den _ _ hx)
    have g1 : dQ K H1 (.ref a) (.ref dp) n ws hs := ⟨s1.den _ _ hx, hbk, aO.mpr ⟨dp, rfl, SqT.of hdp⟩, hd⟩
    refine ⟨_, rfl, _, rfl, .ref a, .ref dp, n, ws, hs, rfl, g1, fun mp H2 s2 hmp => ?_⟩
    refine ⟨_, rfl, _, rfl, .ref a, .ref dp, n, ws, hs, rfl, g1.same s2, fun rp H5 qs rs s5 hrp hqs R5 hlr ER => ?_⟩
    have s25 := s2.trans s5
    have nx5 := s5 _ _ hmp
    have hedge : ∀ g w t, eC ws hs g w t -> 0 <= t /\ t < n := fun g w t e => by
      obtain ⟨_, l, h1, h2, _⟩ := e
      exact (cG (hws l (List.mem_of_getElem? h1))).2.1 t h2
    have hlvl := hlv.1
    have lat : ∀ o : Int, 0 <= o -> o < n -> (aI n hs).getD o.toNat 0 = ((hs.count o : Nat) : Int) := fun o o0 o1 => by
      have := bV (n := n) (hs := hs) (j := o.toNat) (by omega)
      rw [List.getD_eq_getElem?_getD, this, show ((o.toNat : Nat) : Int) = o by omega]; rfl
    refine ⟨_, rfl, a, _, 0, .int n, rfl, rfl, s25.seqT ha, rfl, n, rfl, by omega, by omega, fM (lo := 0) (n := n.toNat) (fun σ => ∃ v, σ = [v, some (.ref rp)]) (fun i zs H6 => aE H5 H6 /\ zs.length = i /\ lM n ws hs H6 zs i) (eN (by omega)) ⟨none, rfl⟩ ⟨aE.refl _, rfl, fun j z => by omega⟩ ?_ ?_ ?_⟩
    · rintro i zs H6 ⟨_, h, _⟩
      exact Nat.le_of_eq h
    · rintro i zs σ H6 hi ⟨v, rfl⟩ ⟨s6, hzl, hF⟩ hz
      refine bU ?_
      refine ⟨_, rfl, _, rfl, rp, 0 + (i : Int), qs, rs, n, ws, hs, rfl, R5.same s6, hlr, ER, hedge, by omega, by omega, by omega, fun fdp H7 fs os s7 hfd e7 T7 C7 => ?_⟩
      have e0 : (0 : Int) + (i : Int) = i := by omega
      rw [e0] at T7
      refine ⟨hz, ⟨_, rfl⟩, s6.trans s7, by rw [List.length_append, hzl]; rfl, fun j hj => ?_⟩
      by_cases hji : j < i
      · obtain ⟨q1, fs1, os1, a1, a2, a3⟩ := hF j hji
        exact ⟨q1, fs1, os1, by rw [List.getElem?_append_left (by omega)]; exact a1, s7 _ _ a2, a3⟩
      · obtain rfl : j = i := by omega
        exact ⟨fdp, fs, os, by rw [List.getElem?_append_right (by omega), hzl, Nat.sub_self]; rfl, e7, T7.keys, C7, T7.head, T7.rl⟩
    · rintro zs H6 ⟨s6, hzl, hF⟩ fl hfl
      have sf := aE.new (o := .lst zs) hfl
      have f7 : upd H6 fl (.lst zs) fl = some (.lst zs) := aC
      have F7 : lM n ws hs (upd H6 fl (.lst zs)) zs n.toNat := hF.same sf
      generalize upd H6 fl (.lst zs) = H7 at sf f7 F7 ⊢
      have s57 := s6.trans sf
      have mp7 := s57 _ _ nx5
      have s27 := s25.trans s57
      refine ⟨_, rfl, a, _, 0, .int n, rfl, rfl, s27.seqT ha, rfl, n, rfl, by omega, by omega, fM (lo := 0) (n := n.toNat) (fun σ => ∃ v, σ = [v, some (.ref fl), some (.ref mp)]) (fun i us H8 => aE H7 H8 /\ ∃ ts : List Int, us = ts.map V.int /\ ts.length = i /\ ∀ j : Nat, j < i -> kG n ws hs j (ts.getD j 0)) (eN (by omega)) ⟨none, rfl⟩ ⟨aE.refl _, [], rfl, rfl, fun j z => by omega⟩ ?_ ?_ ?_⟩
      · rintro i us H8 ⟨_, ts, rfl, h, _⟩
        rw [List.length_map, h]; exact Nat.le_refl _
      · rintro i us σ H8 hi ⟨v, rfl⟩ ⟨s8, ts, rfl, htl, hts⟩ hz
        have F8 := F7.same s8
        have e0 : (0 : Int) + (i : Int) = i := by omega
        rw [e0]
        refine bU ?_
        refine ⟨_, rfl, _, rfl, mp, fl, _, _, rfl, SqT.of (s8 _ _ mp7), SqL.of (s8 _ _ f7), sY (K := K) (k1 := .t) (k2 := .l) (a := mp) (b := fl) (xs := (aI n hs).map V.int) (ys := zs) (fun σ => ∃ v0 v1, σ = [v0, v1, some (.int i)]) (fun j us H9 => aE H8 H9 /\ ∃ L : List Int, us = L.map V.int /\ L.length <= j /\ (∀ x ∈ L, ∃ k z, 0 <= z /\ z < n /\ RL ws hs k z i /\ x = ((hs.count z : Nat) : Int)) /\ ∀ z : Nat, z < j -> ∀ k, RL ws hs k z i -> ((hs.count (z : Int) : Nat) : Int) ∈ L) (eN (by rw [List.length_map, aN]; omega)) (by rw [List.length_map, aN]; omega) ⟨none, none, rfl⟩ ⟨aE.refl _, [], rfl, Nat.le_refl _, fun x h => (List.not_mem_nil h).elim, fun z h => by omega⟩ ?_ ?_ ?_ ?_⟩
        · rintro j us H9 ⟨_, L, rfl, h, _⟩
          rw [List.length_map]; exact h
        · rintro j us H9 ⟨s9, _⟩
          exact ⟨s9.seqT (SqT.of (s8 _ _ mp7)), s9.seqL (SqL.of (s8 _ _ f7))⟩
        · rintro j us σ xv yv pr H9 hxv hyv ⟨v0, v1, rfl⟩ ⟨s9, L, rfl, hLl, hL1, hL2⟩ hpr hzz
          obtain ⟨ld, hld, rfl⟩ := iX hxv
          have hjn : j < n.toNat := by have := (List.getElem?_eq_some_iff.mp hld).1; rwa [aN] at this
          rw [bV hjn] at hld
          have hldv := Option.some.inj hld
          obtain ⟨q1, fs1, os1, a1, a2, a3, a4, a5, a6⟩ := F8 j hjn
          rw [a1] at hyv
          obtain rfl : V.ref q1 = yv := Option.some.inj hyv
          have sp := aE.new (o := .tup [.int ld, .ref q1]) hpr
          have s10 := s9.trans sp
          refine ⟨pr, _, rfl, SqT.of aC, rfl, _, _, rfl, _, _, rfl, rfl, ?_⟩
          generalize upd H9 pr (.tup [.int ld, .ref q1]) = H10 at sp s10 ⊢
          refine ⟨_, rfl, _, rfl, q1, _, rfl, lZ.k (k := .inl (i : Int)) (s10 _ _ a2), _, rfl, ?_⟩
          rw [nH a3]
          refine eP (fun c => ?_) (fun c => ?_)
          · have him : (i : Int) ∈ os1 := of_decide_eq_true c
            obtain ⟨m, hm⟩ := List.mem_iff_getElem?.mp him
            refine ⟨_, rfl, hzz, ⟨_, _, rfl⟩, s10, L ++ [ld], by rw [List.map_append]; rfl, by rw [List.length_append]; exact Nat.succ_le_succ hLl, fun x hx => ?_, fun z hzj k r => ?_⟩
            · rcases List.mem_append.mp hx with hx | hx
              · exact hL1 x hx
              · rw [List.mem_singleton.mp hx]
                exact ⟨m, j, by omega, by omega, a6 m _ hm, hldv.symm⟩
            · by_cases e : z = j
              · subst e
                rw [hldv]
                exact List.mem_append_right _ (List.mem_singleton_self _)
              · exact List.mem_append_left _ (hL2 z (by omega) k r)
          · have him : (i : Int) ∉ os1 := fun h => c (decide_eq_true h)
            refine ⟨⟨_, _, rfl⟩, s10, L, rfl, by omega, hL1, fun z hzj k r => ?_⟩
            by_cases e : z = j
            · subst e
              exact absurd (RL.closed (S := fun x => x ∈ os1) (fun g w t hg e => a4 g hg w t e) (List.mem_of_getElem? a5) r) him
            · exact hL2 z (by omega) k r
        · rintro us H9 ⟨s9, L, rfl, hLl, hL1, hL2⟩ lp hlp
          rw [List.length_map, aN] at hL2
          have hself := hL2 i hi 0 rfl
          refine ⟨lp, L, rfl, SqL.of aC, List.length_pos_of_mem hself, fun M hM1 hM2 => ⟨hz, ⟨_, rfl⟩, s8.trans (s9.trans (aE.new hlp)), ts ++ [M], by rw [List.map_append]; rfl, by rw [List.length_append, htl]; rfl, fun j hj => ?_⟩⟩
          by_cases hji : j < i
          · rw [List.getD_eq_getElem?_getD, List.getElem?_append_left (by omega), <- List.getD_eq_getElem?_getD]
            exact hts j hji
          · obtain rfl : j = i := by omega
            rw [List.getD_eq_getElem?_getD, List.getElem?_append_right (by omega), htl, Nat.sub_self]
            refine ⟨hL1 M hM1, fun k z z0 z1 r => ?_⟩
            have := hL2 z.toNat (by omega) k (by rw [show ((z.toNat : Nat) : Int) = z by omega]; exact r)
            rw [show ((z.toNat : Nat) : Int) = z by omega] at this
            exact hM2 _ this
      · rintro us H8 ⟨s8, ts, rfl, htl, hts⟩ tl htl0
        have st := aE.new (o := .lst (ts.map V.int)) htl0
        have t9 : upd H8 tl (.lst (ts.map V.int)) tl = some (.lst (ts.map V.int)) := aC
        generalize upd H8 tl (.lst (ts.map V.int)) = H9 at st t9 ⊢
        have s29 := s27.trans (s8.trans st)
        have dp9 := s29 _ _ hdp
        have hl12 : hs.length <= 12 := g1.len.1
        refine ⟨_, rfl, dp, rfl, ⟨_, SqT.of dp9⟩, hX (K := K) (a := dp) (xs := hs.map V.int) (fun σ => ∃ v, σ = [v, some (.ref tl)]) (fun i us H10 => H10 = H9 /\ us = ((hs.take i).map fun g => ts.getD g.toNat 0).map V.int) (eN (by rw [List.length_map]; omega)) ⟨none, rfl⟩ ⟨rfl, rfl⟩ (fun i us H10 z => by rw [z.2, List.length_map, List.length_map, List.length_take]; omega) (fun i us H10 z => by rw [z.1]; exact SqT.of dp9) ?_ ?_⟩
        · rintro i us σ u H10 hu ⟨v, rfl⟩ ⟨rfl, rfl⟩ hzz
          obtain ⟨g, hg, rfl⟩ := iX hu
          have hgb := g1.hand hg
          refine bU ?_
          refine ⟨_, rfl, _, rfl, tl, _, g, _, rfl, rfl, SqL.of t9, oZ hgb.1 (by omega), hzz, ⟨_, rfl⟩, rfl, ?_⟩
          rw [List.take_succ, hg, List.map_append, List.map_append]
          rfl
        · rintro us H10 ⟨rfl, rfl⟩ lq hlq
          refine ⟨lq, _, rfl, .inl ⟨SqL.of aC, fun pp hpp => ?_⟩⟩
          rw [List.length_map, List.take_length] at *
          have s7' := (aE.new (o := .lst ((hs.map fun g => ts.getD g.toNat 0).map V.int)) hlq).trans (aE.new (o := .tup ((hs.map fun g => ts.getD g.toNat 0).map V.int)) hpp)
          refine k pp hs lv _ _ (s1.trans (s29.trans s7')) hd hlv aC (by rw [List.length_map]) fun i g v e1 e2 => ?_
          rw [List.getElem?_map, e1] at e2
          have e3 : ts.getD g.toNat 0 = v := Option.some.inj e2
          have hgb := g1.hand e1
          have := hts g.toNat (by omega)
          rw [show ((g.toNat : Nat) : Int) = g by omega, e3] at this
          exact this
end
end Ab
set_option Elab.async false
set_option linter.all false
set_option maxRecDepth 100000
namespace Ab
open PySem L2
theorem uO {n : Int} : ∀ {l : List Int}, n ∈ l -> ∃ j : Nat, l[j]? = some n /\ ∀ m, m < j -> l[m]? ≠ some n
  | [], h => (List.not_mem_nil h).elim
  | x :: r, h => by
    by_cases e : x = n
    · exact ⟨0, by rw [e]; rfl, fun m hm => by omega⟩
    · rcases List.mem_cons.mp h with h | h
      · exact absurd h.symm e
      · obtain ⟨j, h1, h2⟩ := uO h
        refine ⟨j + 1, by simpa using h1, fun m hm => ?_⟩
        cases m with
        | zero => simpa using e
        | succ m => have := h2 m (by omega); simpa using this
theorem lN {b : Bool} {A B : Prop} (e : b = false) (h : B) : if b = true then A else B := by subst e; exact iN h
theorem sH (v : V) : (!decide (v = v)) = false := by simp
theorem yE {ws : List (List Int)} {hs : List Int} : ∀ {k : Nat} {h x : Int}, RL ws hs (k + 1) h x -> RL ws hs k h x ∨ ∃ y w, RL ws hs k h y /\ eC ws hs y w x
  | 0, h, x, .inl e => .inl e
  | 0, h, x, .inr ⟨w, o, e, r⟩ => .inr ⟨h, w, rfl, (show o = x from r) ▸ e⟩
  | k + 1, h, x, .inl e => .inl (.inl e)
  | k + 1, h, x, .inr ⟨w, o, e, r⟩ => by
    rcases yE r with r | ⟨y, w2, r, e2⟩
    · exact .inl (.inr ⟨w, o, e, r⟩)
    · exact .inr ⟨y, w2, .inr ⟨w, o, e, r⟩, e2⟩
theorem lO {x : Int} {l : List Int} : l.any (· == x) = true ↔ x ∈ l := by
  rw [List.any_eq_true]
  exact ⟨fun ⟨y, h1, h2⟩ => by have : y = x := by simpa using h2
                               rw [<- this]; exact h1, fun h => ⟨x, h, by simp⟩⟩
section
variable {P : Program} {w : World} {K : PySem.W.Frag} {mg : Str -> Option Value} {base : Heap}
variable {fW fH fK fB fNB fD fND fL : Addr} {dW dH dK dB dNB dD dND dL : FuncData}
def uP : Sp := fun vs H Q _ => ∃ i : Int, vs = [.int i] /\ Q (.bl true) H
theorem aBw : FnScope ["found"] ["found"] (aF nB) := ⟨rfl, rfl, rfl, by decide +kernel, rfl, by decide +kernel, by decide +kernel⟩
theorem zW {f : Addr} {fd : FuncData} (G : Fn K mg "_law_awhole" nB ["found"] f fd) (B : Bl mg) : FnOk P w K mg base CX0 1 f fd ["found"] uP := by
  refine G.fn.ok aBw (fun vs H Q E h => ?_) (fun cdv A outer s H vs Q E hr h => ?_)
  · obtain ⟨i, rfl, _⟩ := h
    rfl
  · obtain ⟨i, rfl, k⟩ := h
    refine ⟨_, (aG (aP (jF (aM kT rfl B.isinstance jB (aA (pv 0) (aA (eE (v := .ty "int") rfl B.int aCx rfl) aB))) (kH (aAf (aM kA rfl B.isinstance jB (aA (pv 0) (aA (eE (v := .ty "bool") rfl B.bool aA2 rfl) aB)))))))), ?_⟩
    refine ⟨_, rfl, .int i, .int, rfl, rfl, _, rfl, ?_⟩
    refine iO ?_
    exact ⟨_, rfl, .int i, .int, rfl, rfl, _, rfl, k⟩
def aBx (K : PySem.W.Frag) (Pt : Addr) : Sp := fun vs H Q _ => ∃ (x : V) (n : Int) (ws : List (List Int)), vs = [x] /\ Den K H (bO n ws) x /\ bQ (bO n ws) = true /\ H Pt = some (.tab mV) /\
  ∀ (p : Addr) (hs lv ms : List Int) H', aE H H' -> aZ ws (aY hs) = true -> bA n ws hs lv -> ms.Perm (aI n hs) -> ms.Pairwise (· ≥ ·) -> H' p = some (.lst (ms.map V.int)) -> Q (.ref p) H'
theorem aDi : FnScope ["book"] ["book"] (aF xM) := ⟨rfl, rfl, rfl, by decide +kernel, rfl, by decide +kernel, by decide +kernel⟩
theorem aCm {f fE fF Pt : Addr} {fd dE dF : FuncData} (G : Fn K mg "_law_afalling" xM ["book"] f fd) (B : Bl mg) (R : Pr K mg fW fH fK fB fNB fD fND fL dW dH dK dB dNB dD dND dL)
    (GEv : Fn K mg "evenest" fZ ["book"] fE dE) (OEv : FnOk P w K mg base CX0 11 fE dE ["book"] (gG K Pt)) (GFa : Fn K mg "falling" kZ ["book", "deal"] fF dF) : FnOk P w K mg base CX0 12 f fd ["book"] (aBx K Pt) := by
  have OFa : FnOk P w K mg base CX0 8 fF dF ["book", "deal"] (qU K) := wC GFa B R
  refine G.fn.ok aDi (fun vs H Q E h => ?_) (fun cdv A outer s H vs Q E hr h => ?_)
  · obtain ⟨x, n, ws, rfl, _⟩ := h
    rfl
  · obtain ⟨x, n, ws, rfl, hx, hbk, hT, k⟩ := h
    have r8 : Room 8 _ := hr.mono (by decide)
    have r11 : Room 11 _ := hr
    refine ⟨_, (aG (aP (cE iM rfl B.list rQ (aA (aV GFa OFa r8 rfl (aA (pv 0) (aA (bD bF (aV GEv OEv r11 rfl (aA (pv 0) aB)) aK (fun _ _ => rfl)) aB))) aB)))), ?_⟩
    refine ⟨_, rfl, _, rfl, x, n, ws, rfl, hx, hbk, hT, fun pe dp le hs lv H1 s1 hpe hdp hd hle hlv => ⟨pe, _, 0, .ref dp, rfl, rfl, SqT.of hpe, rfl, ?_⟩⟩
    refine ⟨x, .ref dp, n, ws, hs, rfl, ⟨s1.den _ _ hx, hbk, aO.mpr ⟨dp, rfl, SqT.of hdp⟩, hd⟩, fun fp H2 ms s2 hf0 hf m1 m2 => ⟨fp, _, rfl, .inl (SqL.of hf), fun l hl => ?_⟩⟩
    exact k l hs lv ms _ (s1.trans (s2.trans (aE.new hl))) hd hlv m1 m2 aC
def aCC (K : PySem.W.Frag) : Sp := fun vs H Q _ => ∃ (a : Addr) (x : Int) (ms : List Int), vs = [.ref a, .int x] /\ SqL K H a (ms.map V.int) /\ x ∈ ms /\ ms.length <= 6 /\
  ∀ (p : Addr) (out gH : List Int) H', aE H H' -> ms.Perm (x :: gH) -> out.Perm ((x + 1) :: gH) -> out.Pairwise (· ≥ ·) -> H' p = some (.lst (out.map V.int)) -> Q (.ref p) H'
theorem aCD : FnScope ["heaps", "load", "found"] ["heaps", "load"] (aF aB5) := ⟨rfl, rfl, rfl, by decide +kernel, rfl, by decide +kernel, by decide +kernel⟩
theorem aDj {f : Addr} {fd : FuncData} (G : Fn K mg "_law_aup" aB5 ["heaps", "load"] f fd) (B : Bl mg) : FnOk P w K mg base CX0 1 f fd ["heaps", "load"] (aCC K) := by
  refine G.fn.ok aCD (fun vs H Q E h => ?_) (fun cdv A outer s H vs Q E hr h => ?_)
  · obtain ⟨a, x, ms, rfl, _⟩ := h
    rfl
  · obtain ⟨a, x, ms, rfl, ha, hx, hl6, k⟩ := h
    refine ⟨_, (aD (cL (bH kS (pv 1) (pv 0) (by with_unfolding_all rfl))
      (aG (aP aAd))
      bE)
    (aD (aQ (i := 2) aCD.nd rfl (Or.inl rfl) (cE iM rfl B.list rQ (aA (pv 0) aB)))
    (aD (eQ (mJ PySem.F.plainAttrs_list PySem.F.slot_list_remove PySem.F.type_list_remove zL (pv 2) (aA (pv 1) aB)))
    (aG (aP (xD (aM sV rfl B.sorted aA3 (aA (bX vE (pv 2) (eS (aA (bX gI (pv 1) aK) aB))) aB)) (sN nT aK))))))), ?_⟩
    refine ⟨_, rfl, _, rfl, a, _, rfl, .inl ha, rfl, iD ms, _, rfl, ?_⟩
    refine lN (show (!inV (.int x) (ms.map V.int)) = false by rw [iS, lO.mpr hx]; rfl) ?_
    refine ⟨_, rfl, a, _, rfl, .inl ha, fun l hl => ?_⟩
    have s1 := aE.new (o := .lst (ms.map V.int)) hl
    have l1 : upd H l (.lst (ms.map V.int)) l = some (.lst (ms.map V.int)) := aC
    obtain ⟨j, hj, hno⟩ := uO hx
    refine ⟨_, rfl, .inl ⟨rfl, _, SqL.of l1⟩, _, rfl, l, ms, x, j, rfl, rfl, l1, hj, hno, ?_⟩
    rw [rB]
    have s2 := aE.new (o := .lst ((ms.take j ++ ms.drop (j + 1)).map V.int)) hl
    have l2 : upd H l (.lst ((ms.take j ++ ms.drop (j + 1)).map V.int)) l = some (.lst ((ms.take j ++ ms.drop (j + 1)).map V.int)) := aC
    generalize upd H l (.lst ((ms.take j ++ ms.drop (j + 1)).map V.int)) = H2 at s2 l2 ⊢
    refine ⟨_, rfl, _, rfl, _, _, rfl, rfl, sz1 _, fun o ho => ?_⟩
    have s3 := aE.new (o := .lst [.int (x + 1)]) ho
    have o3 : upd H2 o (.lst [.int (x + 1)]) o = some (.lst [.int (x + 1)]) := aC
    have l3 := s3 _ _ l2
    generalize upd H2 o (.lst [.int (x + 1)]) = H3 at s3 o3 l3 ⊢
    have hrl : (ms.take j ++ ms.drop (j + 1)).length <= 6 := by rw [List.length_append, List.length_take, List.length_drop]; omega
    refine ⟨l, o, _, _, rfl, rfl, l3, o3, by rw [List.length_map, sizeLine_eq]; show _ + 1 <= _; omega, fun c hc => ?_⟩
    have s4 := aE.new (o := .lst ((ms.take j ++ ms.drop (j + 1)).map V.int ++ [V.int (x + 1)])) hc
    have c4 : upd H3 c (.lst ((ms.take j ++ ms.drop (j + 1)).map V.int ++ [V.int (x + 1)])) c = some (.lst ((ms.take j ++ ms.drop (j + 1) ++ [x + 1]).map V.int)) := by rw [aC, List.map_append (l₂ := [x + 1])]; rfl
    generalize upd H3 c (.lst ((ms.take j ++ ms.drop (j + 1)).map V.int ++ [V.int (x + 1)])) = H4 at s4 c4 ⊢
    refine ⟨c, _, rfl, .inl (SqL.of c4), by rw [List.length_append]; show _ + 1 < _; omega, fun p out hp po so => ?_⟩
    have s5 := aE.new (o := .lst (out.map V.int)) hp
    refine ⟨_, rfl, rfl, p, _, rfl, SqL.of aC, fun r hr' => ?_⟩
    have s6 := aE.new (o := .lst (out.map V.int).reverse) hr'
    refine k r out.reverse (ms.take j ++ ms.drop (j + 1)) _ (s2.trans (s3.trans (s4.trans (s5.trans s6)))) ?_ ?_ ?_ ?_
    · have e := aBq hj
      have : ms.Perm (ms.take j ++ x :: ms.drop (j + 1)) := by rw [<- e]
      exact this.trans List.perm_middle
    · refine (List.reverse_perm out).trans (po.trans ?_)
      exact List.perm_append_singleton _ _
    · rw [List.pairwise_reverse]
      exact so
    · rw [aC, List.map_reverse]
def uQ (K : PySem.W.Frag) : Sp := fun vs H Q _ => ∃ (x y : V) (n : Int) (ws : List (List Int)) (hs lv : List Int) (h v : Int), vs = [x, y, .int h] /\ dQ K H x y n ws hs /\ bA n ws hs lv /\ 0 <= h /\ h < n /\ lv[h.toNat]? = some v /\ ∀ H', aE H H' -> Q (.int v) H'
theorem iI : FnScope ["book", "deal", "hand", "heaps", "there", "turn", "at"] ["book", "deal", "hand"] (aF jP) := ⟨rfl, rfl, rfl, by decide +kernel, rfl, by decide +kernel, by decide +kernel⟩
set_option maxHeartbeats 2000000 in
theorem zX {f fH : Addr} {fd dH : FuncData} (G : Fn K mg "_law_aleast" jP ["book", "deal", "hand"] f fd) (B : Bl mg) (GHp : Fn K mg "_law_aheaps" nC ["book", "weights", "deal"] fH dH) : FnOk P w K mg base CX0 2 f fd ["book", "deal", "hand"] (uQ K) := by
  have OHp : FnOk P w K mg base CX0 1 fH dH ["book", "weights", "deal"] (uL K) := zR GHp B
  refine G.fn.ok iI (fun vs H Q E h => ?_) (fun cdv A outer s H vs Q E hr h => ?_)
  · obtain ⟨x, y, n, ws, hs, lv, hd, v, rfl, _⟩ := h
    rfl
  · obtain ⟨x, y, n, ws, hs, lv, hd, v, rfl, g, hlv, h0, h1, hv, k⟩ := h
    have r1 : Room 1 _ := hr
    refine ⟨_, (aD (aQ (i := 3) iI.nd rfl (Or.inr rfl) (aV GHp OHp r1 rfl (aA (pv 0) (aA (bX (aB2 (K := K) rfl) (gC (aA aK aB)) (aM aT rfl B.len eM (aA (pv 1) aB))) (aA (pv 1) aB)))))
    (aD (aQ (i := 4) iI.nd rfl (Or.inr rfl) (eS (aA (pv 2) aB)))
    (aD (eR PassesOwn.never rfl (bT rfl B.range (aA (bD bF (pv 0) aK (fun _ _ => rfl)) aB)) (aL (i := 5) iI.nd rfl (Or.inl rfl))
      (aG (eR PassesOwn.never rfl (bT rfl B.range (aA (aM aT rfl B.len eM (aA (pv 1) aB)) aB)) (aL (i := 6) iI.nd rfl (Or.inl rfl))
      (aG (cL (bH hU (bD bF (pv 1) (pv 6) (fun _ _ => rfl)) (pv 4) (by with_unfolding_all rfl))
      (aG (aQ (i := 4) iI.nd rfl (Or.inr rfl) (bX vE (pv 4) (cM (own := ["other"]) (fr := [4]) (frn := ["there"]) (bI (aF jP) ["book", "deal", "hand", "heaps", "there", "turn", "at"] rfl rfl (by decide +kernel)) rfl (iL (bD bF (bD bF (pv 0) aK (fun _ _ => rfl)) (pv 6) (fun _ _ => rfl)))
        (fun _ _ _ _ => (aL (i := 0) (show (["other", "there"] : List Str).Nodup by decide +kernel) rfl (Or.inl rfl))) (fun _ _ _ _ => vI (bH (pV (K := K) rfl) (pv 0) (pv 1) (by with_unfolding_all rfl)))
        (fun _ _ _ _ => (pv 0))))))
      bE)))))
    (aG (aP (aM (qK rfl) rfl B.min aAH (aA (cM (own := ["other"]) (fr := [3]) (frn := ["heaps"]) (bI (aF jP) ["book", "deal", "hand", "heaps", "there", "turn", "at"] rfl rfl (by decide +kernel)) rfl (mW (pv 4))
        (fun _ _ _ _ => (aL (i := 0) (show (["other", "heaps"] : List Str).Nodup by decide +kernel) rfl (Or.inl rfl))) (fun _ _ _ _ => dJ)
        (fun _ _ _ _ => (bD (tI (K := K) rfl) (pv 1) (pv 0) (fun _ _ => rfl)))) aB))))))), ?_⟩
    obtain ⟨hn1, hn6, hw12, hws⟩ := bJ g.2.1
    have hlen := (aJ g.2.2.2).1
    have hdm := (aJ g.2.2.2).2
    obtain ⟨a, b, ys, rfl, ha, hb2, hys⟩ := cW g.1
    have hlw := aW hys
    rw [List.length_map] at hlw
    obtain ⟨dp, rfl, hdp⟩ := aO.mp g.2.2.1
    refine ⟨_, rfl, sz1 _, fun o1 ho1 => ?_⟩
    have s1 := aE.new (o := .tup [.int 1]) ho1
    refine ⟨_, rfl, dp, _, rfl, .inr (s1.seqT hdp), o1, (hs.map V.int).length, [.int 1], rfl, rfl, SqT.of aC, by rw [List.length_map]; omega, (show 1 <= 1000 by decide), fun o2 H2 s2 ho2 => ?_⟩
    have s12 := s1.trans s2
    have ho2' : SqT K H2 o2 ((List.replicate hs.length (1 : Int)).map V.int) := by
      rw [List.flatten_replicate_singleton, List.length_map] at ho2
      rw [List.map_replicate]
      exact ho2
    refine ⟨_, rfl, .ref a, .ref dp, o2, n, ws, hs, rfl, g.same s12, ho2', fun hpp H3 s3 hfr hhp => ?_⟩
    have s03 := s12.trans s3
    refine ⟨_, rfl, sz1 _, fun t0 ht0 => ?_⟩
    have s4 := aE.new (o := .lst [.int hd]) ht0
    have t4 : upd H3 t0 (.lst [.int hd]) t0 = some (.lst (([hd] : List Int).map V.int)) := aC
    generalize upd H3 t0 (.lst [.int hd]) = H4 at s4 t4 ⊢
    have s04 := s03.trans s4
    have hh4 := s4 _ _ hhp
    let OkL : List Int -> Prop := fun L => L.Nodup /\ ∀ x ∈ L, (0 <= x /\ x < n) /\ ∃ k, RL ws hs k hd x
    have okl : ∀ L, OkL L -> L.length <= 6 := fun L h => by
      have := iE n.toNat L h.1 fun x hx => by have := (h.2 x hx).1; omega
      omega
    refine ⟨_, rfl, a, _, 0, .int n, rfl, rfl, s04.seqT ha, rfl, n, rfl, by omega, by omega, dP (lo := 0) (n := n.toNat) (fun r σ H5 => ∃ (tl : Addr) (L : List Int) (v5 v6 : Option V), σ = [some (.ref a), some (.ref dp), some (.int hd), some (.ref hpp), some (.ref tl), v5, v6] /\ aE H4 H5 /\ H5 tl = some (.lst (L.map V.int)) /\ OkL L /\ ∀ x, RL ws hs r hd x -> x ∈ L)
      ⟨t0, [hd], none, none, rfl, aE.refl _, t4, ⟨by simp, fun x hx => by rw [List.mem_singleton.mp hx]; exact ⟨⟨h0, h1⟩, 0, rfl⟩⟩, fun x r => List.mem_singleton.mpr (show hd = x from r).symm⟩ ?_ ?_⟩
    · rintro r σ H5 hr5 ⟨tl0, L0, v5, v6, rfl, s5, t5, ok0, hR⟩
      have s05 := s04.trans s5
      refine ⟨_, rfl, dp, _, rfl, .inr (s05.seqT hdp), ?_⟩
      rw [List.length_map]
      refine ⟨hs.length, rfl, by omega, by omega, dP (lo := 0) (n := ((hs.length : Int)).toNat) (fun i σ H6 => ∃ (tl : Addr) (L : List Int) (v6 : Option V), σ = [some (.ref a), some (.ref dp), some (.int hd), some (.ref hpp), some (.ref tl), some (.int (0 + (r : Int))), v6] /\ aE H5 H6 /\ H6 tl = some (.lst (L.map V.int)) /\ OkL L /\ (∀ x ∈ L0, x ∈ L) /\ ∀ (j : Nat), j < i -> ∀ gg l, hs[j]? = some gg -> ws[j]? = some l -> gg ∈ L0 -> ∀ t ∈ l, t ∈ L)
        ⟨tl0, L0, _, rfl, aE.refl _, t5, ok0, fun x h => h, fun j hj => by omega⟩ ?_ ?_⟩
      · rintro i σ H6 hi ⟨tl, L, v6', rfl, s6, t6, okL, hsub, hcl⟩
        have s06 := s05.trans s6
        have hi' : i < hs.length := by omega
        have hg : hs[i]? = some hs[i] := List.getElem?_eq_getElem hi'
        have hiw : i < ws.length := by omega
        have hw : ws[i]? = some ws[i] := List.getElem?_eq_getElem hiw
        have hm := hdm i _ _ hg hw
        generalize hs[i] = gg at hg hm
        generalize ws[i] = l at hw hm
        obtain ⟨xv, hx1, hx2⟩ := kI hys (show (ws.map cH)[i]? = some (cH l) by rw [List.getElem?_map, hw]; rfl)
        obtain ⟨aw, rfl, haw⟩ := aO.mp hx2
        obtain ⟨wl0, wl1, wl2⟩ := cG (hws l (List.mem_of_getElem? hw))
        have hat : atI (hs.map V.int) (0 + (i : Int)) = some (.int gg) := by rw [Int.zero_add]; exact cQ (by rw [List.getElem?_map, hg]; rfl)
        have hat2 : atI ys (0 + (i : Int)) = some (.ref aw) := by rw [Int.zero_add]; exact cQ hx1
        have hL6 := okl L okL
        refine ⟨_, rfl, _, rfl, dp, _, _, _, rfl, rfl, s06.seqT hdp, hat, _, rfl, tl, _, rfl, .inl (SqL.of t6), rfl, iD L, _, rfl, ?_⟩
        refine eP (fun c => ?_) (fun c => ?_)
        · have hgL : gg ∈ L := lO.mp (by rw [<- iS]; exact c)
          obtain ⟨_, kg, rg⟩ := okL.2 gg hgL
          refine ⟨_, rfl, _, rfl, a, _, 1, .ref b, rfl, rfl, s06.seqT ha, rfl, _, rfl, b, _, _, _, rfl, rfl, s06.seqT hb2, hat2, aw, rfl, ⟨_, s06.seqT haw⟩, hX (K := K) (a := aw) (xs := l.map V.int) (fun σ => ∃ v, σ = [v, some (.ref tl)]) (fun j zs H7 => H7 = H6 /\ zs = ((l.take j).filter fun o => !L.any (· == o)).map V.int) (eN (by rw [List.length_map]; have := iT (by omega) wl1 wl2; omega)) ⟨none, rfl⟩ ⟨rfl, rfl⟩ (fun j zs H7 z => by rw [z.2, List.length_map]; exact Nat.le_trans (List.length_filter_le _ _) (by rw [List.length_take]; omega)) (fun j zs H7 z => by rw [z.1]; exact s06.seqT haw) ?_ ?_⟩
          · rintro j zs σ u H7 hu ⟨v, rfl⟩ ⟨rfl, rfl⟩ hz
            obtain ⟨o, ho, rfl⟩ := iX hu
            have etake : l.take (j + 1) = l.take j ++ [o] := by rw [List.take_succ, ho]; rfl
            refine ⟨_, rfl, _, rfl, tl, _, rfl, .inl (SqL.of t6), rfl, iD L, _, rfl, ?_⟩
            refine eP (fun c => ?_) (fun c => ?_)
            · have c' : (!L.any (· == o)) = true := by rw [<- iS]; exact c
              refine ⟨_, rfl, hz, ⟨_, rfl⟩, rfl, ?_⟩
              rw [etake, List.filter_append, List.map_append, List.filter_cons_of_pos (p := fun o => !L.any (· == o)) (a := o) c']
              rfl
            · have c' : ¬ (!L.any (· == o)) = true := by rw [<- iS]; exact c
              refine ⟨⟨_, rfl⟩, rfl, ?_⟩
              rw [etake, List.filter_append, List.filter_cons_of_neg (p := fun o => !L.any (· == o)) (a := o) c', List.filter_nil, List.append_nil]
          · rintro zs H7 ⟨rfl, rfl⟩ nl hnl
            rw [List.length_map, List.take_length] at *
            have s7 := aE.new (o := .lst ((l.filter fun o => !L.any (· == o)).map V.int)) hnl
            have n7 : upd H7 nl (.lst ((l.filter fun o => !L.any (· == o)).map V.int)) nl = some (.lst ((l.filter fun o => !L.any (· == o)).map V.int)) := aC
            have t7 := s7 _ _ t6
            generalize upd H7 nl (.lst ((l.filter fun o => !L.any (· == o)).map V.int)) = H8 at s7 n7 t7 ⊢
            have hfl : (l.filter fun o => !L.any (· == o)).length <= 6 := Nat.le_trans (List.length_filter_le _ _) (by have := iT (by omega) wl1 wl2; omega)
            refine ⟨tl, nl, _, _, rfl, rfl, t7, n7, by rw [List.length_map, List.length_map, sizeLine_eq]; omega, fun c2 hc2 => ?_⟩
            have s8 := aE.new (o := .lst (L.map V.int ++ (l.filter fun o => !L.any (· == o)).map V.int)) hc2
            have hmem : ∀ x, x ∈ L ++ l.filter (fun o => !L.any (· == o)) ↔ x ∈ L ∨ x ∈ l := fun x => by
              rw [List.mem_append, List.mem_filter]
              constructor
              · rintro (h | h)
                · exact .inl h
                · exact .inr h.1
              · rintro (h | h)
                · exact .inl h
                · by_cases hxL : x ∈ L
                  · exact .inl hxL
                  · refine .inr ⟨h, ?_⟩
                    rw [Bool.not_eq_true', <- Bool.not_eq_true]
                    exact fun z => hxL (lO.mp z)
            refine ⟨c2, L ++ l.filter (fun o => !L.any (· == o)), _, rfl, s6.trans (s7.trans s8), by rw [aC, List.map_append], ⟨?_, fun x hx => ?_⟩, fun x hx => (hmem x).mpr (.inl (hsub x hx)), fun j hj g2 l2 e1 e2 hg2 t ht => ?_⟩
            · rw [List.nodup_append]
              refine ⟨okL.1, (wl2.imp fun h => Int.ne_of_lt h).filter _, fun x hx y hy e => ?_⟩
              subst e
              have := (List.mem_filter.mp hy).2
              rw [lO.mpr hx] at this
              cases this
            · rcases (hmem x).mp hx with hx | hx
              · exact okL.2 x hx
              · refine ⟨wl1 x hx, ?_⟩
                by_cases e : x = gg
                · rw [e]; exact ⟨kg, rg⟩
                · exact ⟨kg + 1, rg.snoc ⟨hg, l, hw, hx, e⟩⟩
            · by_cases e : j = i
              · subst e
                rw [hw] at e2
                obtain rfl : l = l2 := Option.some.inj e2
                exact (hmem t).mpr (.inr ht)
              · exact (hmem t).mpr (.inl (hcl j (by omega) g2 l2 e1 e2 hg2 t ht))
        · have hgL : gg ∉ L := fun z => c (by show inV _ _ = true; rw [iS]; exact lO.mpr z)
          refine ⟨tl, L, _, rfl, s6, t6, okL, hsub, fun j hj g2 l2 e1 e2 hg2 t ht => ?_⟩
          by_cases e : j = i
          · subst e
            rw [hg] at e1
            exact absurd (hsub _ hg2) (by rw [<- Option.some.inj e1]; exact hgL)
          · exact hcl j (by omega) g2 l2 e1 e2 hg2 t ht
      · rintro σ H6 ⟨tl, L, v6', rfl, s6, t6, okL, hsub, hcl⟩
        rw [Int.toNat_natCast] at hcl
        refine ⟨tl, L, _, _, rfl, s5.trans s6, t6, okL, fun x hx => ?_⟩
        rcases yE hx with h | ⟨y, wk, ry, e⟩
        · exact hsub _ (hR _ h)
        · obtain ⟨q1, l2, q2, q3, _⟩ := e
          exact hcl wk (List.getElem?_eq_some_iff.mp q1).1 y l2 q1 q2 (hR _ ry) x q3
    · rintro σ H5 ⟨tl, L, v5, v6, rfl, s5, t5, okL, hR⟩
      have hL6 := okl L okL
      have s05 := s04.trans s5
      have hh5 := s5 _ _ hh4
      have lat : ∀ o : Int, 0 <= o -> o < n -> (aI n hs).getD o.toNat 0 = ((hs.count o : Nat) : Int) := fun o o0 o1 => by
        have := bV (n := n) (hs := hs) (j := o.toNat) (by omega)
        rw [List.getD_eq_getElem?_getD, this, show ((o.toNat : Nat) : Int) = o by omega]; rfl
      refine ⟨_, rfl, tl, rfl, ⟨_, SqL.of t5⟩, yX (K := K) (a := tl) (xs := L.map V.int) (fun σ => ∃ v, σ = [v, some (.ref hpp)]) (fun i zs H6 => H6 = H5 /\ zs = ((L.take i).map fun o => (aI n hs).getD o.toNat 0).map V.int) (eN (by rw [List.length_map]; omega)) ⟨none, rfl⟩ ⟨rfl, rfl⟩ (fun i zs H6 z => by rw [z.2, List.length_map, List.length_map, List.length_take]; omega) (fun i zs H6 z => by rw [z.1]; exact SqL.of t5) ?_ ?_⟩
      · rintro i zs σ u H6 hu ⟨v', rfl⟩ ⟨rfl, rfl⟩ hz
        obtain ⟨o, ho, rfl⟩ := iX hu
        obtain ⟨⟨o0, o1⟩, _⟩ := okL.2 o (List.mem_of_getElem? ho)
        refine bU ?_
        refine ⟨_, rfl, _, rfl, hpp, _, o, _, rfl, rfl, SqL.of hh5, oZ o0 (by rw [aN]; omega), hz, ⟨_, rfl⟩, rfl, ?_⟩
        rw [List.take_succ, ho, List.map_append, List.map_append]
        rfl
      · rintro zs H6 ⟨rfl, rfl⟩ lp hlp
        rw [List.length_map, List.take_length] at *
        have hself : hd ∈ L := hR hd (RL.refl _ _)
        refine ⟨lp, _, rfl, SqL.of aC, by rw [List.length_map]; exact List.length_pos_of_mem hself, fun M hM1 hM2 => ?_⟩
        obtain ⟨m1, m2⟩ := hlv.2 _ _ hv
        rw [show ((hd.toNat : Nat) : Int) = hd by omega] at m1 m2
        obtain ⟨o, ho, rfl⟩ := List.mem_map.mp hM1
        obtain ⟨⟨o0, o1⟩, ko, ro⟩ := okL.2 o ho
        obtain ⟨xx, rx, exx⟩ := m1.1
        have hxL := hR xx rx
        obtain ⟨⟨x0, x1⟩, _⟩ := okL.2 xx hxL
        have q1 := m1.2 _ _ ro
        have q2 := hM2 _ (List.mem_map.mpr ⟨xx, hxL, rfl⟩)
        rw [lat xx x0 x1] at q2
        rw [lat o o0 o1] at q2 ⊢
        rw [show ((hs.count o : Nat) : Int) = v by omega]
        exact k _ (s05.trans (aE.new hlp))
end
end Ab
set_option Elab.async false
set_option linter.all false
set_option maxRecDepth 100000
namespace Ab
open PySem L2
theorem aBy (n : Nat) : inV (.bl false) ((List.replicate n true).map V.bl) = false := by
  unfold inV
  rw [List.any_eq_false]
  intro x hx
  obtain ⟨b, hb, rfl⟩ := List.mem_map.mp hx
  rw [List.eq_of_mem_replicate hb]
  decide
theorem wK (n : Nat) : ((List.replicate n true).map V.bl).all jZ = true := by
  rw [List.all_eq_true]
  intro x hx
  obtain ⟨b, hb, rfl⟩ := List.mem_map.mp hx
  rfl
theorem aCn {a b : TS} {D : Ends} {σ : St} {H : Hp} (I : St -> Hp -> Prop) (h1 : ∀ N : St -> Hp -> Prop, (∀ σ H, I σ H -> N σ H) -> a { D with nx := N } σ H) (h2 : ∀ σ H, I σ H -> b D σ H) : aDs a b D σ H := h1 _ h2
theorem lP {K : PySem.W.Frag} {H : Hp} : ∀ (i : Nat) {ds : List PyData} {vs : List V}, aR K H ds vs -> aR K H (ds.take i) (vs.take i)
  | 0, _, _, _ => bB.mpr rfl
  | i + 1, [], vs, h => by rw [bB.mp h]; exact bB.mpr rfl
  | i + 1, d :: ds, vs, h => by
    obtain ⟨v, r, rfl, h1, h2⟩ := aS.mp h
    exact aS.mpr ⟨v, r.take i, rfl, h1, lP i h2⟩
theorem lQ {K : PySem.W.Frag} {H : Hp} : ∀ (i : Nat) {ds : List PyData} {vs : List V}, aR K H ds vs -> aR K H (ds.drop i) (vs.drop i)
  | 0, _, _, h => h
  | i + 1, [], vs, h => by rw [bB.mp h]; exact bB.mpr rfl
  | i + 1, d :: ds, vs, h => by
    obtain ⟨v, r, rfl, h1, h2⟩ := aS.mp h
    exact lQ i h2
theorem wL {K : PySem.W.Frag} {H : Hp} {ws : List (List Int)} {ys : List V} (i : Nat) (h : aR K H (ws.map cH) ys) : aR K H ((cP i ws).map cH) (ys.take i ++ ys.drop (i + 1)) := by
  unfold cP
  rw [List.map_append, List.map_take, List.map_drop]
  exact eA (lP i h) (lQ (i + 1) h)
theorem aBz {n : Int} {ws : List (List Int)} (i : Nat) (h : bQ (bO n ws) = true) : bQ (bO n (cP i ws)) = true := by
  obtain ⟨h1, h2, h3, h4⟩ := bJ h
  refine nF h1 h2 ?_ fun l hl => h4 l ?_
  · unfold cP
    rw [List.length_append, List.length_take, List.length_drop]; omega
  · unfold cP at hl
    rcases List.mem_append.mp hl with hl | hl
    · exact List.mem_of_mem_take hl
    · exact List.mem_of_mem_drop hl
theorem zY {n h : Int} {ws : List (List Int)} (hb : bQ (bO n ws) = true) (hl : ws.length < 12) (h0 : 0 <= h) (h1 : h < n) : bQ (bO n (ws ++ [[h]])) = true := by
  obtain ⟨b1, b2, b3, b4⟩ := bJ hb
  refine nF b1 b2 (by rw [List.length_append]; exact hl) fun l hl => ?_
  rcases List.mem_append.mp hl with hl | hl
  · exact b4 l hl
  · rw [List.mem_singleton.mp hl]
    exact sC (by simp) (fun y hy => by rw [List.mem_singleton.mp hy]; exact ⟨h0, h1⟩) (by simp)
theorem mQ {n v : Int} {ws : List (List Int)} {hs hs2 ms : List Int} (a : Lst n ws hs) (b : Lst n ws hs2) (hm : ms.Perm (aI n hs)) (sm : ms.Pairwise (· ≥ ·)) (hv : v ∈ aI n hs2) : v ∈ ms := by
  obtain ⟨ys, y1, y2⟩ := pM (aI n hs2)
  rw [zV (List.Perm.refl ws) a b hm y1 sm y2]
  exact y1.mem_iff.mpr hv
theorem mR {n : Int} {ws ws2 : List (List Int)} {hs lv hs2 lv2 : List Int} (p : ws.Perm ws2) (R : Rng n ws) (hd : aZ ws (aY hs) = true) (L : bA n ws hs lv) (hd2 : aZ ws2 (aY hs2) = true) (L2 : bA n ws2 hs2 lv2) : lv = lv2 := by
  refine List.ext_getElem? fun i => ?_
  by_cases hi : i < n.toNat
  · have e1 := List.getElem?_eq_getElem (l := lv) (i := i) (by rw [L.1]; exact hi)
    have e2 := List.getElem?_eq_getElem (l := lv2) (i := i) (by rw [L2.1]; exact hi)
    rw [e1, e2]
    exact congrArg some (yB (h := (i : Int)) p R hd L hd2 L2 (by omega) (by omega) (by rw [Int.toNat_natCast]; exact e1) (by rw [Int.toNat_natCast]; exact e2))
  · rw [List.getElem?_eq_none (by rw [L.1]; omega), List.getElem?_eq_none (by rw [L2.1]; omega)]
theorem zZ {n : Int} {ws : List (List Int)} {hs lv vs hs2 lv2 vs2 : List Int} (R : Rng n ws) (hd : aZ ws (aY hs) = true) (L : bA n ws hs lv) (hd2 : aZ ws (aY hs2) = true) (L2 : bA n ws hs2 lv2) (hl : vs.length = hs.length) (hl2 : vs2.length = hs2.length)
    (T : ∀ (i : Nat) g v, hs[i]? = some g -> vs[i]? = some v -> kG n ws hs g v) (T2 : ∀ (i : Nat) g v, hs2[i]? = some g -> vs2[i]? = some v -> kG n ws hs2 g v) : vs = vs2 := by
  have h1 := (aJ hd).1
  have h2 := (aJ hd2).1
  refine List.ext_getElem? fun i => ?_
  by_cases hi : i < ws.length
  · have e1 := List.getElem?_eq_getElem (l := vs) (i := i) (by omega)
    have e2 := List.getElem?_eq_getElem (l := vs2) (i := i) (by omega)
    have f1 := List.getElem?_eq_getElem (l := hs) (i := i) (by omega)
    have f2 := List.getElem?_eq_getElem (l := hs2) (i := i) (by omega)
    rw [e1, e2]
    exact congrArg some (yC (List.Perm.refl ws) (List.Perm.refl _) R hd L hd2 L2 f1 f2 (T i _ _ f1 e1) (T2 i _ _ f2 e2))
  · rw [List.getElem?_eq_none (by omega), List.getElem?_eq_none (by omega)]
section
variable {P : Program} {w : World} {K : PySem.W.Frag} {mg : Str -> Option Value} {base : Heap}
def uR (K : PySem.W.Frag) (Pt : Addr) : Sp := fun vs H Q _ => ∃ (x : V) (n : Int) (ws : List (List Int)), vs = [x] /\ Den K H (bO n ws) x /\ bQ (bO n ws) = true /\ H Pt = some (.tab mV) /\ ∀ H', aE H H' -> Q (.bl true) H'
theorem eD : FnScope ["book", "n", "works", "plain", "up", "down", "deal", "hand", "at", "fewer"] ["book"] (aF lA) := ⟨rfl, rfl, rfl, by decide +kernel, rfl, by decide +kernel, by decide +kernel⟩
set_option maxHeartbeats 4000000 in
theorem aAa {f fA fF fG fS fU fE fL' Pt : Addr} {fd dA dF dG dS dU dE dL' : FuncData} (G : Fn K mg "_law_aright" lA ["book"] f fd) (B : Bl mg) (GAw : Fn K mg "_law_awhole" nB ["found"] fA dA)
    (GAf : Fn K mg "_law_afalling" xM ["book"] fF dF) (OAf : FnOk P w K mg base CX0 12 fF dF ["book"] (aBx K Pt)) (GGr : Fn K mg "grows" iR ["book"] fG dG) (OGr : FnOk P w K mg base CX0 12 fG dG ["book"] (nM K Pt))
    (GFs : Fn K mg "falls" gN ["book"] fS dS) (OFs : FnOk P w K mg base CX0 12 fS dS ["book"] (nO K Pt)) (GAu : Fn K mg "_law_aup" aB5 ["heaps", "load"] fU dU) (GEv : Fn K mg "evenest" fZ ["book"] fE dE) (OEv : FnOk P w K mg base CX0 11 fE dE ["book"] (gG K Pt))
    (GAl : Fn K mg "_law_aleast" jP ["book", "deal", "hand"] fL' dL') (OAl : FnOk P w K mg base CX0 2 fL' dL' ["book", "deal", "hand"] (uQ K)) : FnOk P w K mg base CX0 13 f fd ["book"] (uR K Pt) := by
  have OAw : FnOk P w K mg base CX0 1 fA dA ["found"] uP := zW GAw B
  have OAu : FnOk P w K mg base CX0 1 fU dU ["heaps", "load"] (aCC K) := aDj GAu B
  refine G.fn.ok eD (fun vs H Q E h => ?_) (fun cdv A outer s H vs Q E hr h => ?_)
  · obtain ⟨x, n, ws, rfl, _⟩ := h
    rfl
  · obtain ⟨x, n, ws, rfl, hx, hbk, hT, k⟩ := h
    have r1 : Room 1 _ := hr.mono (by decide)
    have r2 : Room 2 _ := hr.mono (by decide)
    have r11 : Room 11 _ := hr.mono (by decide)
    have r12 : Room 12 _ := hr
    refine ⟨_, (aD (iK (pv 0) (gY rfl (bC (aL (i := 1) eD.nd rfl (Or.inl rfl)) (bC (aL (i := 2) eD.nd rfl (Or.inl rfl)) eF))))
    (aD (aQ (i := 3) eD.nd rfl (Or.inl rfl) (aV GAf OAf r12 rfl (aA (pv 0) aB)))
    (aD (aQ (i := 4) eD.nd rfl (Or.inl rfl) (aV GGr OGr r12 rfl (aA (pv 0) aB)))
    (aD (aQ (i := 5) eD.nd rfl (Or.inl rfl) (aV GFs OFs r12 rfl (aA (pv 0) aB)))
    (aD (cL (PW.pt (jA (cY (dZ (aM cF rfl B.isinstance jB (aA (pv 4) (aA (eE (v := .ty "tuple") rfl B.tuple cR rfl) aB))))) (jA (bH mI (aM aT rfl B.len eM (aA (pv 4) aB)) (pv 1) (bN _)) (jA (cY (dZ (aM cF rfl B.isinstance jB (aA (pv 5) (aA (eE (v := .ty "tuple") rfl B.tuple cR rfl) aB))))) (iJ (bH mI (aM aT rfl B.len eM (aA (pv 5) aB)) (aM aT rfl B.len eM (aA (pv 2) aB)) (bN _)))))))
      (aG (aP dY))
      bE)
    (aD (cL (bH hU dY (cM (own := ["load"]) (fr := []) (frn := []) (bI (aF lA) ["book", "n", "works", "plain", "up", "down", "deal", "hand", "at", "fewer"] rfl rfl (by decide +kernel)) rfl (iL (bX rF (pv 4) (pv 5)))
        (fun _ _ _ _ => (aL (i := 0) (show (["load"] : List Str).Nodup by decide +kernel) rfl (Or.inl rfl))) (fun _ _ _ _ => dJ)
        (fun _ _ _ _ => (aV GAw OAw r1 rfl (aA (pv 0) aB)))) (by with_unfolding_all rfl))
      (aG (aP dY))
      bE)
    (aD (aQ (i := 6) eD.nd rfl (Or.inl rfl) (bD bF (aV GEv OEv r11 rfl (aA (pv 0) aB)) aK (fun _ _ => rfl)))
    (aD (eR PassesOwn.never rfl (bT rfl B.range (aA (pv 1) aB)) (aL (i := 7) eD.nd rfl (Or.inl rfl))
      (aD (cL (PW.pt (aCK (bH wU (aM aT rfl B.len eM (aA (pv 2) aB)) aK (bN _)) (aBF (bH (rE hr.u64) (aV GAf OAf r12 rfl (aA (gC (aA (pv 1) (aA (bX rF (pv 2) (gC (aA (gC (aA (pv 7) aB)) aB))) aB))) aB)) (aV GAu OAu r1 rfl (aA (pv 3) (aA (bD bF (pv 4) (pv 7) (fun _ _ => rfl)) aB))) (bN _)))))
      (aG (aP dY))
      bE)
    (aG (cL (bH mI (bD bF (pv 4) (pv 7) (fun _ _ => rfl)) (aV GAl OAl r2 rfl (aA (pv 0) (aA (pv 6) (aA (pv 7) aB)))) (bN _))
      (aG (aP dY))
      bE))))
    (aD (eR PassesOwn.never rfl (bT rfl B.range (aA (aM aT rfl B.len eM (aA (pv 2) aB)) aB)) (aL (i := 8) eD.nd rfl (Or.inl rfl))
      (aD (aQ (i := 9) eD.nd rfl (Or.inl rfl) (aV GAf OAf r12 rfl (aA (gC (aA (pv 1) (aA (bX rF (sQ xC (pv 2) wX (wY (pv 8))) (sQ xC (pv 2) (wY (bX gI (pv 8) aK)) wX)) aB))) aB)))
    (aG (cL (bH (rE hr.u64) (aV GAu OAu r1 rfl (aA (pv 9) (aA (bX aAh (bD bF (pv 5) (pv 8) (fun _ _ => rfl)) aK) aB))) (pv 3) (bN _))
      (aG (aP dY))
      bE))))
    (aG (aP (jF (gT (vJ hr.u64) (aV GGr OGr r12 rfl (aA (pv 0) aB)) (pv 4) (bN _)) (kH (gT (vJ hr.u64) (aV GFs OFs r12 rfl (aA (pv 0) aB)) (pv 5) (bN _))))))))))))))), ?_⟩
    obtain ⟨hn1, hn6, hw12, hws⟩ := bJ hbk
    have Rg := Rng.book hbk
    obtain ⟨a, b, ys, rfl, ha, hb2, hys⟩ := cW hx
    have hlw := aW hys
    rw [List.length_map] at hlw
    refine ⟨_, rfl, a, _, rfl, ha, rfl, _, _, rfl, _, _, rfl, rfl, ?_⟩
    refine ⟨_, rfl, .ref a, n, ws, rfl, hx, hbk, hT, fun pl hs0 lv0 ms0 H1 s1 hd0 hlv0 pm0 sm0 hpl => ?_⟩
    refine ⟨_, rfl, .ref a, n, ws, rfl, s1.den _ _ hx, hbk, s1 _ _ hT, fun up hs1 lv1 H2 s2 hd1 hlv1 hup => ?_⟩
    have s12 := s1.trans s2
    refine ⟨_, rfl, .ref a, n, ws, rfl, s12.den _ _ hx, hbk, s12 _ _ hT, fun dn hs2 lv2 vs2 H3 s3 hd2 hlv2 hdn hvl hvt => ?_⟩
    have s13 := s12.trans s3
    have up3 := s3 _ _ hup
    have pl3 := (s2.trans s3) _ _ hpl
    have L0 := Lst.of Rg hd0 hlv0
    have L1 := Lst.of Rg hd1 hlv1
    have L2 := Lst.of Rg hd2 hlv2
    have hl1 := hlv1.1
    have hdl2 := (aJ hd2).1
    have hm0l : ms0.length = n.toNat := by rw [pm0.length_eq, aN]
    refine ⟨_, rfl, .ref up, .tup, rfl, .inr (.inl ⟨rfl, _, SqT.of up3⟩), _, rfl, ?_⟩
    refine iN ?_
    refine ⟨_, rfl, up, _, rfl, .inr (SqT.of up3), _, rfl, rfl, _, rfl, ?_⟩
    refine lN (by rw [List.length_map, hl1, show ((n.toNat : Nat) : Int) = n by omega]; exact sH _) ?_
    refine ⟨_, rfl, .ref dn, .tup, rfl, .inr (.inl ⟨rfl, _, SqT.of hdn⟩), _, rfl, ?_⟩
    refine iN ?_
    refine ⟨_, rfl, dn, _, rfl, .inr (SqT.of hdn), _, rfl, b, _, rfl, .inr (s13.seqT hb2), rfl, _, rfl, ?_⟩
    refine lN (by rw [List.length_map, hvl, hdl2, hlw]; exact sH _) ?_
    refine ⟨_, rfl, _, rfl, up, dn, _, _, rfl, rfl, SqT.of up3, SqT.of hdn, by rw [List.length_map, List.length_map, sizeLine_eq]; omega, fun cp H4 s4 hcp => ?_⟩
    rw [<- List.map_append] at hcp
    refine ⟨cp, rfl, ⟨_, hcp⟩, hX (K := K) (a := cp) (xs := (lv1 ++ vs2).map V.int) (fun σ => ∃ v, σ = [v]) (fun i zs H5 => H5 = H4 /\ zs = (List.replicate i true).map V.bl) (eN (by rw [List.length_map, List.length_append]; omega)) ⟨none, rfl⟩ ⟨rfl, rfl⟩ (fun i zs H5 z => by rw [z.2, List.length_map, List.length_replicate]; exact Nat.le_refl _) (fun i zs H5 z => by rw [z.1]; exact hcp) ?_ ?_⟩
    · rintro i zs σ u H5 hu ⟨v, rfl⟩ ⟨rfl, rfl⟩ hzz
      obtain ⟨pv, hpv, rfl⟩ := iX hu
      refine bU ?_
      refine ⟨_, rfl, pv, rfl, hzz, ⟨_, rfl⟩, rfl, ?_⟩
      rw [List.replicate_succ', List.map_append]
      rfl
    · rintro zs H5 ⟨rfl, rfl⟩ z hz
      refine ⟨z, _, rfl, .inl (SqL.of aC), rfl, wK _, _, rfl, ?_⟩
      refine lN (aBy _) ?_
      have sz := aE.new (o := .lst ((List.replicate ((lv1 ++ vs2).map V.int).length true).map V.bl)) hz
      generalize upd H5 z (.lst ((List.replicate ((lv1 ++ vs2).map V.int).length true).map V.bl)) = H6 at sz ⊢
      have s36 := s4.trans sz
      have s06 := s13.trans s36
      refine ⟨_, rfl, .ref a, n, ws, rfl, s06.den _ _ hx, hbk, s06 _ _ hT, fun pe dp le hs3 lv3 H7 s7 hpe hdp hd3 hle hlv3 => ⟨pe, _, 0, .ref dp, rfl, rfl, SqT.of hpe, rfl, ?_⟩⟩
      have s37 := s36.trans s7
      have s07 := s13.trans s37
      have up7 := s37 _ _ up3
      have pl7 := s37 _ _ pl3
      have dn7 := s37 _ _ hdn
      refine ⟨_, rfl, n, rfl, by omega, by omega, dP (lo := 0) (n := n.toNat) (fun i σ H8 => (∃ v7 v8 v9, σ = [some (.ref a), some (.int n), some (.ref b), some (.ref pl), some (.ref up), some (.ref dn), some (.ref dp), v7, v8, v9]) /\ aE H7 H8) ⟨⟨_, _, _, rfl⟩, aE.refl _⟩ ?_ ?_⟩
      · rintro i σ H8 hi ⟨⟨v7, v8, v9, rfl⟩, s8⟩
        have s08 := s07.trans s8
        have up8 := s8 _ _ up7
        have ev := List.getElem?_eq_getElem (l := lv1) (i := i) (by omega)
        generalize lv1[i] = v at ev
        have ev' : lv1[((i : Int)).toNat]? = some v := by rw [Int.toNat_natCast]; exact ev
        have hat : atI (lv1.map V.int) (0 + (i : Int)) = some (.int v) := by rw [Int.zero_add]; exact cQ (by rw [List.getElem?_map, ev]; rfl)
        refine aCn (fun σ H9 => (∃ v8 v9, σ = [some (.ref a), some (.int n), some (.ref b), some (.ref pl), some (.ref up), some (.ref dn), some (.ref dp), some (.int (0 + (i : Int))), v8, v9]) /\ aE H8 H9) (fun N hN => ?_) ?_
        · refine ⟨_, rfl, b, _, rfl, .inr (s08.seqT hb2), _, _, rfl, rfl, _, rfl, ?_⟩
          refine eP (fun c => ?_) (fun c => ?_)
          · have hwl : ws.length < 12 := by have := of_decide_eq_true c; omega
            refine ⟨_, rfl, _, rfl, _, rfl, sz1 _, fun t1 ht1 => ⟨sz1 _, fun t2 ht2 => ?_⟩⟩
            have sa := (aE.new (o := .tup [.int (0 + (i : Int))]) ht1)
            have a1 : upd H8 t1 (.tup [.int (0 + (i : Int))]) t1 = some (.tup (([(i : Int)] : List Int).map V.int)) := by rw [aC, Int.zero_add]; rfl
            generalize upd H8 t1 (.tup [.int (0 + (i : Int))]) = H9 at sa a1 ht2 ⊢
            have sb := aE.new (o := .tup [.ref t1]) ht2
            have a2 : upd H9 t2 (.tup [.ref t1]) t2 = some (.tup [.ref t1]) := aC
            have a1b := sb _ _ a1
            generalize upd H9 t2 (.tup [.ref t1]) = H10 at sb a2 a1b ⊢
            have s810 := sa.trans sb
            have s010 := s08.trans s810
            refine ⟨b, t2, ys, [.ref t1], rfl, rfl, s010.seqT hb2, SqT.of a2, by rw [sizeLine_eq]; show _ + 1 <= _; omega, fun nw H11 s11 hnw => ⟨sz2 _ _, fun nb hnb => ?_⟩⟩
            have s12' := aE.new (o := .tup [.int n, .ref nw]) hnb
            have nb12 : upd H11 nb (.tup [.int n, .ref nw]) nb = some (.tup [.int n, .ref nw]) := aC
            have nw12 := s12'.seqT hnw
            generalize upd H11 nb (.tup [.int n, .ref nw]) = H12 at s12' nb12 nw12 ⊢
            have s1012 := s11.trans s12'
            have s812 := s810.trans s1012
            have s012 := s08.trans s812
            have hbs := zY hbk hwl (h := (i : Int)) (by omega) (by omega)
            have hden : Den K H12 (bO n (ws ++ [[(i : Int)]])) (.ref nb) := jR (SqT.of nb12) nw12 (by
              rw [List.map_append]
              exact eA (s012.denAll _ _ hys) (aS.mpr ⟨_, _, rfl, aO.mpr ⟨t1, rfl, SqT.of (s1012 _ _ a1b)⟩, bB.mpr rfl⟩))
            refine ⟨.ref nb, n, ws ++ [[(i : Int)]], rfl, hden, hbs, s012 _ _ hT, fun p4 hs4 lv4 ms4 H13 s13' hd4 hlv4 pm4 sm4 hp4 => ?_⟩
            have s813 := s812.trans s13'
            obtain ⟨D, d1, d2, d3⟩ := mG Rg hd1 hlv1 (h := (i : Int)) (by omega) (by omega) ev'
            have L4 := Lst.of (Rng.book hbs) hd4 hlv4
            have hmem := mQ L0 L1 pm0 sm0 d3
            refine ⟨_, rfl, _, rfl, _, rfl, up, _, _, _, rfl, rfl, SqT.of (s813 _ _ up8), hat, pl, v, ms0, rfl, SqL.of ((s8.trans s813) _ _ pl7), hmem, by omega, fun p5 out gH H14 s14 pr po so hp5 => ?_⟩
            have heq : out = ms4 := aCA (n := n) (a := aI n hs0) (b := aI n hs4) (by rw [aN, aN]) (fun t => by rw [Lst.eq L4 d1 t, d2 t, Lst.eq L0 L1 t]) pm0 pr pm4 sm4 po so
            refine ⟨.list (ms4.map .int), .list (out.map .int), gE.mpr ⟨p4, rfl, SqL.of (s14 _ _ hp4)⟩, gE.mpr ⟨p5, rfl, SqL.of hp5⟩, dO _, dO _, eO _, eO _, _, rfl, ?_⟩
            refine lN (by rw [mD, decide_eq_true heq.symm]; rfl) ?_
            exact hN _ _ ⟨⟨_, _, rfl⟩, s813.trans s14⟩
          · exact iN (hN _ _ ⟨⟨_, _, rfl⟩, aE.refl _⟩)
        · rintro σ H9 ⟨⟨v8, v9, rfl⟩, s9⟩
          have hi3 : i < lv3.length := by rw [hlv3.1]; exact hi
          have ev3 := List.getElem?_eq_getElem hi3
          generalize lv3[i] = v3 at ev3
          have ev3' : lv3[((i : Int)).toNat]? = some v3 := by rw [Int.toNat_natCast]; exact ev3
          have hvv : v = v3 := yB (List.Perm.refl ws) Rg hd1 hlv1 hd3 hlv3 (h := (i : Int)) (by omega) (by omega) ev' ev3'
          have s89 := s8.trans s9
          refine ⟨_, rfl, _, rfl, up, _, _, _, rfl, rfl, SqT.of (s9 _ _ up8), hat, _, rfl, _, rfl, _, rfl, .ref a, .ref dp, n, ws, hs3, lv3, i, v3, by rw [Int.zero_add]; rfl, ⟨(s07.trans s89).den _ _ hx, hbk, aO.mpr ⟨dp, rfl, SqT.of (s89 _ _ hdp)⟩, hd3⟩, hlv3, by omega, by omega, ev3', fun H10 s10 => ⟨rfl, _, rfl, ?_⟩⟩
          refine lN (by rw [hvv]; exact sH _) ?_
          exact ⟨⟨_, _, _, rfl⟩, s89.trans s10⟩
      · rintro σ H8 ⟨⟨v7, v8, v9, rfl⟩, s8⟩
        have s08 := s07.trans s8
        refine ⟨_, rfl, b, _, rfl, .inr (s08.seqT hb2), ?_⟩
        refine ⟨ys.length, rfl, by omega, by omega, dP (lo := 0) (n := ((ys.length : Int)).toNat) (fun i σ H9 => (∃ v7 v8 v9, σ = [some (.ref a), some (.int n), some (.ref b), some (.ref pl), some (.ref up), some (.ref dn), some (.ref dp), v7, v8, v9]) /\ aE H7 H9) ⟨⟨_, _, _, rfl⟩, s8⟩ ?_ ?_⟩
        · rintro i σ H9 hi ⟨⟨v7, v8, v9, rfl⟩, s9⟩
          have s09 := s07.trans s9
          have hiw : i < ws.length := by omega
          have hbc := aBz i hbk
          refine ⟨_, rfl, _, rfl, _, rfl, _, rfl, b, _, rfl, s09.seqT hb2, fun q1 H10 s10 hq1 => ?_⟩
          rw [Int.zero_add, aBP] at hq1
          have s010 := s09.trans s10
          refine ⟨_, rfl, _, rfl, _, _, rfl, rfl, _, rfl, b, _, rfl, s010.seqT hb2, fun q2 H11 s11 hq2 => ?_⟩
          rw [Int.zero_add, show (i : Int) + 1 = ((i + 1 : Nat) : Int) by omega, yW] at hq2
          refine ⟨q1, q2, _, _, rfl, rfl, s11.seqT hq1, hq2, by rw [List.length_take, List.length_drop, sizeLine_eq]; omega, fun nw H12 s12' hnw => ⟨sz2 _ _, fun nb hnb => ?_⟩⟩
          have s13' := aE.new (o := .tup [.int n, .ref nw]) hnb
          have nb13 : upd H12 nb (.tup [.int n, .ref nw]) nb = some (.tup [.int n, .ref nw]) := aC
          have nw13 := s13'.seqT hnw
          generalize upd H12 nb (.tup [.int n, .ref nw]) = H13 at s13' nb13 nw13 ⊢
          have s913 := s10.trans (s11.trans (s12'.trans s13'))
          have s013 := s09.trans s913
          refine ⟨.ref nb, n, cP i ws, rfl, jR (SqT.of nb13) nw13 (wL i (s013.denAll _ _ hys)), hbc, s013 _ _ hT, fun p4 hs4 lv4 ms4 H14 s14 hd4 hlv4 pm4 sm4 hp4 => ?_⟩
          have s914 := s913.trans s14
          have ev := List.getElem?_eq_getElem (l := vs2) (i := i) (by omega)
          have eg := List.getElem?_eq_getElem (l := hs2) (i := i) (by omega)
          have hTop := hvt i _ _ eg ev
          generalize vs2[i] = v at ev hTop
          generalize hs2[i] = gg at eg hTop
          have hat : atI (vs2.map V.int) (0 + (i : Int)) = some (.int v) := by rw [Int.zero_add]; exact cQ (by rw [List.getElem?_map, ev]; rfl)
          obtain ⟨D, d1, d2, d3⟩ := mH Rg hd2 hlv2 eg hTop
          have L4 := Lst.of (Rng.book hbc) hd4 hlv4
          have hmem := mQ L4 d1 pm4 sm4 d3
          have hm4l : ms4.length = n.toNat := by rw [pm4.length_eq, aN]
          have s714 := s9.trans s914
          refine ⟨_, rfl, _, rfl, _, rfl, dn, _, _, _, rfl, rfl, SqT.of (s714 _ _ dn7), hat, _, _, rfl, rfl, p4, v - 1, ms4, rfl, SqL.of hp4, hmem, by omega, fun p5 out gH H15 s15 pr po so hp5 => ?_⟩
          have heq : out = ms0 := aCA (n := n) (a := aI n hs4) (b := aI n hs0) (by rw [aN, aN]) (fun t => by rw [Lst.eq L0 L2 t, d2 t, Lst.eq L4 d1 t]) pm4 pr pm0 sm0 po so
          refine ⟨_, rfl, .list (out.map .int), .list (ms0.map .int), gE.mpr ⟨p5, rfl, SqL.of hp5⟩, gE.mpr ⟨pl, rfl, SqL.of ((s714.trans s15) _ _ pl7)⟩, dO _, dO _, eO _, eO _, _, rfl, ?_⟩
          refine lN (by rw [mD, decide_eq_true heq]; rfl) ?_
          exact ⟨⟨_, _, _, rfl⟩, s714.trans s15⟩
        · rintro σ H9 ⟨⟨v7, v8, v9, rfl⟩, s9⟩
          have s09 := s07.trans s9
          refine ⟨_, rfl, .ref a, n, ws, rfl, s09.den _ _ hx, hbk, s09 _ _ hT, fun up' hs5 lv5 H10 s10 hd5 hlv5 hup' => ?_⟩
          have e5 : lv5 = lv1 := mR (List.Perm.refl ws) Rg hd5 hlv5 hd1 hlv1
          have s710 := s9.trans s10
          refine ⟨_, rfl, .tuple (lv5.map .int), .tuple (lv1.map .int), aO.mpr ⟨up', rfl, SqT.of hup'⟩, aO.mpr ⟨up, rfl, SqT.of (s710 _ _ up7)⟩, cO _, cO _, cN _, cN _, _, rfl, ?_⟩
          rw [jQ, decide_eq_true e5]
          refine iO ?_
          have s010 := s07.trans s710
          refine ⟨_, rfl, .ref a, n, ws, rfl, s010.den _ _ hx, hbk, s010 _ _ hT, fun dn' hs6 lv6 vs6 H11 s11 hd6 hlv6 hdn' hvl6 hvt6 => ?_⟩
          have e6 : vs6 = vs2 := zZ Rg hd6 hlv6 hd2 hlv2 hvl6 hvl hvt6 hvt
          refine ⟨_, rfl, .tuple (vs6.map .int), .tuple (vs2.map .int), aO.mpr ⟨dn', rfl, SqT.of hdn'⟩, aO.mpr ⟨dn, rfl, SqT.of ((s710.trans s11) _ _ dn7)⟩, cO _, cO _, cN _, cN _, ?_⟩
          rw [jQ, decide_eq_true e6]
          exact k _ (s010.trans s11)
end
end Ab
set_option Elab.async false
set_option linter.all false
set_option maxRecDepth 100000
namespace Ab
open PySem L2
section
variable {P : Program} {w : World} {K : PySem.W.Frag} {mg : Str -> Option Value} {base : Heap}
theorem aAb {t a : Addr} {H H' : Hp} {xs : List V} (ht : H t = none) (b : But t H H') (h : SqL K H a xs) : SqL K H' a xs := by
  rcases h with (h | ⟨o, h⟩) | h
  · exact .inl (.inl (b _ _ (fun z => by rw [z, ht] at h; cases h) h))
  · exact .inl (.inr ⟨o, b _ _ (fun z => by rw [z, ht] at h; cases h) h⟩)
  · exact .inr h
theorem pN {H : Hp} : ∀ {ds : List PyData} {vs : List V}, aR K H ds vs -> aR K H ds.reverse vs.reverse
  | [], vs, h => by rw [bB.mp h]; exact bB.mpr rfl
  | d :: ds, vs, h => by
    obtain ⟨v, r, rfl, h1, h2⟩ := aS.mp h
    rw [List.reverse_cons, List.reverse_cons]
    exact eA (pN h2) (aS.mpr ⟨v, [], rfl, h1, bB.mpr rfl⟩)
theorem aBA {n : Int} {ws : List (List Int)} (h : bQ (bO n ws) = true) : bQ (bO n ws.reverse) = true := by
  obtain ⟨h1, h2, h3, h4⟩ := bJ h
  exact nF h1 h2 (by rw [List.length_reverse]; exact h3) fun l hl => h4 l (List.mem_reverse.mp hl)
theorem aCo {ws : List (List Int)} {i : Nat} (hi : i < ws.length) : (cP i ws).Perm (cP (ws.length - 1 - i) ws.reverse) := by
  have e : cP (ws.length - 1 - i) ws.reverse = (cP i ws).reverse := by
    unfold cP
    rw [List.reverse_append, List.take_reverse, List.drop_reverse, show ws.length - (ws.length - 1 - i) = i + 1 by omega, show ws.length - (ws.length - 1 - i + 1) = i by omega]
  rw [e]
  exact (List.reverse_perm _).symm
theorem aBB {n : Int} {ws : List (List Int)} {hs lv vs hs2 lv2 vs2 : List Int} (R : Rng n ws) (hd : aZ ws (aY hs) = true) (L : bA n ws hs lv) (hd2 : aZ ws.reverse (aY hs2) = true) (L2 : bA n ws.reverse hs2 lv2) (hl : vs.length = hs.length) (hl2 : vs2.length = hs2.length)
    (T : ∀ (i : Nat) g v, hs[i]? = some g -> vs[i]? = some v -> kG n ws hs g v) (T2 : ∀ (i : Nat) g v, hs2[i]? = some g -> vs2[i]? = some v -> kG n ws.reverse hs2 g v) : vs2 = vs.reverse := by
  have h1 := (aJ hd).1
  have h2 := (aJ hd2).1
  rw [List.length_reverse] at h2
  refine List.ext_getElem? fun j => ?_
  by_cases hj : j < ws.length
  · rw [List.getElem?_reverse (by omega)]
    have e1 := List.getElem?_eq_getElem (l := vs) (i := vs.length - 1 - j) (by omega)
    have e2 := List.getElem?_eq_getElem (l := vs2) (i := j) (by omega)
    have f1 := List.getElem?_eq_getElem (l := hs) (i := vs.length - 1 - j) (by omega)
    have f2 := List.getElem?_eq_getElem (l := hs2) (i := j) (by omega)
    rw [e1, e2]
    refine congrArg some (yC (i := vs.length - 1 - j) (j := j) (List.reverse_perm ws).symm ?_ R hd L hd2 L2 f1 f2 (T _ _ _ f1 e1) (T2 j _ _ f2 e2)).symm
    have := aCo (ws := ws) (i := vs.length - 1 - j) (by omega)
    rwa [show ws.length - 1 - (vs.length - 1 - j) = j by omega] at this
  · rw [List.getElem?_eq_none (by omega), List.getElem?_eq_none (by rw [List.length_reverse]; omega)]
def yF (K : PySem.W.Frag) (Pt : Addr) : Sp := fun vs H Q _ => ∃ (a : Addr) (ns : List Int), vs = [.ref a] /\ SqL K H a (ns.map V.int) /\ H Pt = some (.tab mV) /\ ∀ H', H' Pt = some (.tab mV) -> Q (.bl true) H'
theorem uS : FnScope ["script", "start", "tape", "book", "other"] ["script"] (aF aC6) := ⟨rfl, rfl, rfl, by decide +kernel, rfl, by decide +kernel, by decide +kernel⟩
set_option maxHeartbeats 4000000 in
theorem aDk {f fT fB' fA fG fS Pt : Addr} {fd dT dB' dA dG dS : FuncData} (G : Fn K mg "law" aC6 ["script"] f fd) (B : Bl mg)
    (GTp : Fn K mg "_law_atape" xL ["script", "k"] fT dT) (OTp : FnOk P w K mg base CX0 2 fT dT ["script", "k"] (aBa K))
    (GB : Fn K mg "_law_abook" oQ ["tape", "hands", "works"] fB' dB') (OB : FnOk P w K mg base CX0 2 fB' dB' ["tape", "hands", "works"] (xS K))
    (GAr : Fn K mg "_law_aright" lA ["book"] fA dA) (OAr : FnOk P w K mg base CX0 13 fA dA ["book"] (uR K Pt)) (GGr : Fn K mg "grows" iR ["book"] fG dG) (OGr : FnOk P w K mg base CX0 12 fG dG ["book"] (nM K Pt))
    (GFs : Fn K mg "falls" gN ["book"] fS dS) (OFs : FnOk P w K mg base CX0 12 fS dS ["book"] (nO K Pt)) : FnOk P w K mg base CX0 14 f fd ["script"] (yF K Pt) := by
  refine G.fn.ok uS (fun vs H Q E h => ?_) (fun cdv A outer s H vs Q E hr h => ?_)
  · obtain ⟨a, ns, rfl, _⟩ := h
    rfl
  · obtain ⟨a, ns, rfl, hns, hPt, k⟩ := h
    have r2 : Room 2 _ := hr.mono (by decide)
    have r12 : Room 12 _ := hr.mono (by decide)
    have r13 : Room 13 _ := hr
    refine ⟨_, (aD (eR PassesOwn.never rfl (yK rfl B.range (aA aK (aA (aM (yM rfl) rfl B.max aCB (aA aK (aA (aM (yN rfl) rfl B.min aAH (aA aK (aA (aM aT rfl B.len eM (aA (pv 0) aB)) aB))) aB))) aB))) (aL (i := 1) uS.nd rfl (Or.inl rfl))
      (aD (aQ (i := 2) uS.nd rfl (Or.inl rfl) (aV GTp OTp r2 rfl (aA (pv 0) (aA (pv 1) aB))))
    (aD (aQ (i := 3) uS.nd rfl (Or.inl rfl) (aV GB OB r2 rfl (aA (pv 2) (aA aK (aA (bD fP (eS (aA aK (aA aK (aA aK aB)))) (pv 1) (fun _ _ => rfl)) aB)))))
    (aD (cL (cY (dZ (aV GAr OAr r13 rfl (aA (pv 3) aB))))
      (aG (aP dY))
      bE)
    (aD (aQ (i := 4) uS.nd rfl (Or.inl rfl) (gC (aA (bD bF (pv 3) aK (fun _ _ => rfl)) (aA (aAB (bD bF (pv 3) aK (fun _ _ => rfl)) (sN nT aK)) aB))))
    (aG (cL (PW.pt (jA (bH (rE hr.u64) (aV GGr OGr r12 rfl (aA (pv 4) aB)) (aV GGr OGr r12 rfl (aA (pv 3) aB)) (bN _)) (iJ (bH (rE hr.u64) (aV GFs OFs r12 rfl (aA (pv 4) aB)) (aAB (aV GFs OFs r12 rfl (aA (pv 3) aB)) (sN nT aK)) (bN _)))))
      (aG (aP dY))
      bE)))))))
    (aG (aP dY))), ?_⟩
    have hM : ∀ m : Int, 0 <= m -> 0 <= (if (if m < 2 then m else 2) > 1 then (if m < 2 then m else 2) else 1) /\ (if (if m < 2 then m else 2) > 1 then (if m < 2 then m else 2) else 1) <= 2 := fun m hm => by split <;> split <;> omega
    have hM' := hM ((ns.map V.int).length : Int) (by omega)
    refine ⟨_, rfl, a, _, rfl, .inl hns, _, _, rfl, _, _, rfl, 0, _, rfl, ⟨by decide, by decide, by omega, by omega⟩, dP (lo := 0) (fun i σ H1 => (∃ v1 v2 v3 v4, σ = [some (.ref a), v1, v2, v3, v4]) /\ SqL K H1 a (ns.map V.int) /\ H1 Pt = some (.tab mV)) ⟨⟨_, _, _, _, rfl⟩, hns, hPt⟩ ?_ ?_⟩
    · rintro i σ H1 hi ⟨⟨v1, v2, v3, v4, rfl⟩, hs1, p1⟩
      refine ⟨_, rfl, _, rfl, a, ns, i, by rw [Int.zero_add]; rfl, hs1, fun t n0 ht => ?_⟩
      have nPt : Pt ≠ t := fun z => by rw [z, ht] at p1; cases p1
      have b2 : But t H1 (upd H1 t (.lst [.int n0])) := But.at
      have T2 : gQ K (upd H1 t (.lst [.int n0])) t a ns := ⟨_, aC⟩
      generalize upd H1 t (.lst [.int n0]) = H2 at b2 T2 ⊢
      have hi2 : i < 2 := by omega
      obtain ⟨wm, hwm, hw0, hw1⟩ : ∃ wm : Int, atI [V.int 12, V.int 8, V.int 8] (0 + (i : Int)) = some (.int wm) /\ 0 <= wm /\ wm <= 12 := by
        match i, hi2 with
        | 0, _ => exact ⟨12, rfl, by decide, by decide⟩
        | 1, _ => exact ⟨8, rfl, by decide, by decide⟩
      refine ⟨_, rfl, eN (show 3 <= 1000 by decide), fun l3 hl3 => ?_⟩
      have s3 := aE.new (o := .lst [.int 12, .int 8, .int 8]) hl3
      refine ⟨_, rfl, l3, _, _, _, rfl, rfl, SqL.of aC, hwm, t, a, ns, 6, wm, rfl, T2.same s3, by decide, by decide, hw0, hw1, fun n ws bp H3 hbk hwl b3 T3 hb3 => ?_⟩
      have b13 := b2.trans ((But.of s3).trans b3)
      have p3 := b13 _ _ nPt p1
      refine ⟨_, rfl, .ref bp, n, ws, rfl, hb3, hbk, p3, fun H4 s4 => ⟨_, rfl, ?_⟩⟩
      refine iN ?_
      obtain ⟨ba, bb, ys, ebp, ha, hb2, hys⟩ := cW (s4.den _ _ hb3)
      obtain rfl : bp = ba := by injection ebp
      refine ⟨_, rfl, bp, _, 0, .int n, rfl, rfl, ha, rfl, _, rfl, bp, _, 1, .ref bb, rfl, rfl, ha, rfl, _, rfl, rfl, bb, ys, rfl, hb2, fun rv hrv => ⟨sz2 _ _, fun tb htb => ?_⟩⟩
      have sr := aE.new (o := .tup ys.reverse) hrv
      have r8 : upd H4 rv (.tup ys.reverse) rv = some (.tup ys.reverse) := aC
      generalize upd H4 rv (.tup ys.reverse) = H5 at sr r8 htb ⊢
      have st := aE.new (o := .tup [.int n, .ref rv]) htb
      have t9 : upd H5 tb (.tup [.int n, .ref rv]) tb = some (.tup [.int n, .ref rv]) := aC
      have r9 := st _ _ r8
      generalize upd H5 tb (.tup [.int n, .ref rv]) = H6 at st t9 r9 ⊢
      have s46 := sr.trans st
      have s36 := s4.trans s46
      have hbr6 : Den K H6 (bO n ws.reverse) (.ref tb) := jR (SqT.of t9) (SqT.of r9) (by rw [List.map_reverse]; exact pN (s46.denAll _ _ hys))
      have hbkr := aBA hbk
      have Rg := Rng.book hbk
      have Rgr := Rng.book hbkr
      have hb6 := s36.den _ _ hb3
      have p6 := s36 _ _ p3
      refine ⟨_, rfl, .ref tb, n, ws.reverse, rfl, hbr6, hbkr, p6, fun u1 g1 l1 H7 s7 hd1 hlv1 hu1 => ?_⟩
      refine ⟨_, rfl, .ref bp, n, ws, rfl, s7.den _ _ hb6, hbk, s7 _ _ p6, fun u2 g2 l2 H8 s8 hd2 hlv2 hu2 => ?_⟩
      have e1 : l1 = l2 := mR (List.reverse_perm ws) Rgr hd1 hlv1 hd2 hlv2
      refine ⟨.tuple (l1.map .int), .tuple (l2.map .int), aO.mpr ⟨u1, rfl, SqT.of (s8 _ _ hu1)⟩, aO.mpr ⟨u2, rfl, SqT.of hu2⟩, cO _, cO _, cN _, cN _, _, rfl, ?_⟩
      refine lN (by rw [jQ, decide_eq_true e1]; rfl) ?_
      have s68 := s7.trans s8
      refine ⟨_, rfl, .ref tb, n, ws.reverse, rfl, s68.den _ _ hbr6, hbkr, s68 _ _ p6, fun d1 g3 l3' vs1 H9 s9 hd3 hlv3 hdn1 hvl1 hvt1 => ?_⟩
      have s69 := s68.trans s9
      refine ⟨_, rfl, .ref bp, n, ws, rfl, s69.den _ _ hb6, hbk, s69 _ _ p6, fun d2 g4 l4 vs2 H10 s10 hd4 hlv4 hdn2 hvl2 hvt2 => ?_⟩
      have e2 : vs1 = vs2.reverse := aBB Rg hd4 hlv4 hd3 hlv3 hvl2 hvl1 hvt2 hvt1
      refine ⟨_, rfl, rfl, d2, _, rfl, SqT.of hdn2, fun rr hrr => ?_⟩
      have s11 := aE.new (o := .tup (vs2.map V.int).reverse) hrr
      refine ⟨.tuple (vs1.map .int), .tuple (vs2.reverse.map .int), aO.mpr ⟨d1, rfl, SqT.of ((s10.trans s11) _ _ hdn1)⟩, aO.mpr ⟨rr, rfl, by rw [List.map_reverse]; exact SqT.of aC⟩, cO _, cO _, cN _, cN _, _, rfl, ?_⟩
      refine lN (by rw [jQ, decide_eq_true e2]; rfl) ?_
      have b1f := b13.trans (But.of (s36.trans (s69.trans (s10.trans s11))))
      exact ⟨⟨_, _, _, _, rfl⟩, aAb ht b1f hs1, b1f _ _ nPt p1⟩
    · rintro σ H1 ⟨_, _, p1⟩
      exact k _ p1
end
end Ab
set_option Elab.async false
set_option linter.all false
set_option maxRecDepth 100000
namespace Ab
open PySem L2 PyProof.Rows
theorem cC {K : PySem.W.Frag} {h : Heap} {mg : Str -> Option Value} (X : K.In h) (G : h.Ns mainGlobals mg) {x : Str} {st : Stmt} {ps : List Str} {f : Addr} {oc : Value} {od an : Option Addr} {osl : Array (Option Value)} {kV doc pm cdv ct : Value}
    (hb : ∀ (kV doc pm : Value) (an : Option Addr) (cdv ct : Value) (us : List Value), us.length = ps.length -> bindArgs (PySem.W.fnOf x x (gU st) (eG st) (aF st) .none kV doc pm an cdv ct) ⟨us, []⟩ = pure (ps.zip us))
    (a : PySem.W.nsIn K mainGlobals x = some (some (.ref f))) (l : K.lookup f = some ⟨oc, od, .func (PySem.W.fnOf x x (gU st) (eG st) (aF st) .none kV doc pm an cdv ct), osl⟩) (c : PySem.W.codeIn K cdv x = true) (k : PySem.W.keepIn K (.ref f) = true) :
    ∃ f fd, Fn K mg x st ps f fd := by
  have F := aAs (st := st) l c k
  exact ⟨f, _, F, PySem.W.mg_of X G a, k, F.binds hb⟩
theorem aDl {K : PySem.W.Frag} {h : Heap} {mg : Str -> Option Value} (X : K.In h) (G : h.Ns mainGlobals mg) {x : Str} {st : Stmt} {ps : List Str} {f : Addr} {oc : Value} {od an : Option Addr} {osl : Array (Option Value)} {kV doc pm cdv ct : Value}
    (hb : ∀ (kV doc pm : Value) (an : Option Addr) (cdv ct : Value) (us : List Value), us.length = ps.length -> bindArgs (PySem.W.fnOf x x (gU st) (eG st) (aF st) .none kV doc pm an cdv ct) ⟨us, []⟩ = pure (ps.zip us))
    (a : PySem.W.nsIn K mainGlobals x = some (some (.ref f))) (l : K.lookup f = some ⟨oc, od, .func (PySem.W.fnOf x x (gU st) (eG st) (aF st) .none kV doc pm an cdv ct), osl⟩) (c : PySem.W.codeIn K cdv x = true) (k : PySem.W.keepIn K (.ref f) = true) :
    ∃ f fd, Fn K mg x st ps f fd /\ fd.code = cdv := by
  have F := aAs (st := st) l c k
  exact ⟨f, _, ⟨F, PySem.W.mg_of X G a, k, F.binds hb⟩, rfl⟩
theorem aD1 {K : PySem.W.Frag} {h : Heap} {mg : Str -> Option Value} (X : K.In h) (G : h.Ns mainGlobals mg) {t6 t12 : Tok}
    (z0 : PySem.W.nsIn K mainGlobals "isinstance" = some none)
    (z1 : PySem.W.nsIn K mainGlobals "int" = some none)
    (z2 : PySem.W.nsIn K mainGlobals "bool" = some none)
    (z3 : PySem.W.nsIn K mainGlobals "tuple" = some none)
    (z4 : PySem.W.nsIn K mainGlobals "list" = some none)
    (z5 : PySem.W.nsIn K mainGlobals "len" = some none)
    (z6 : PySem.W.nsIn K mainGlobals "all" = some none)
    (z7 : PySem.W.nsIn K mainGlobals "zip" = some none)
    (z8 : PySem.W.nsIn K mainGlobals "range" = some none)
    (z9 : PySem.W.nsIn K mainGlobals "sorted" = some none)
    (z10 : PySem.W.nsIn K mainGlobals "set" = some none)
    (z11 : PySem.W.nsIn K mainGlobals "sum" = some none)
    (z12 : PySem.W.nsIn K mainGlobals "repr" = some none)
    (z13 : PySem.W.nsIn K mainGlobals "enumerate" = some none)
    (z14 : PySem.W.nsIn K mainGlobals "min" = some none)
    (z15 : PySem.W.nsIn K mainGlobals "any" = some none)
    (z16 : PySem.W.nsIn K mainGlobals "max" = some none)
    (zA : PySem.W.nsIn K mainGlobals "MOST_HANDS" = some (some (.int 6 t6))) (zB : PySem.W.nsIn K mainGlobals "MOST_WORKS" = some (some (.int 12 t12))) : Bl mg :=
  ⟨PySem.W.mg_none_of X G z0, PySem.W.mg_none_of X G z1, PySem.W.mg_none_of X G z2, PySem.W.mg_none_of X G z3, PySem.W.mg_none_of X G z4, PySem.W.mg_none_of X G z5, PySem.W.mg_none_of X G z6, PySem.W.mg_none_of X G z7, PySem.W.mg_none_of X G z8, PySem.W.mg_none_of X G z9, PySem.W.mg_none_of X G z10, PySem.W.mg_none_of X G z11, PySem.W.mg_none_of X G z12, PySem.W.mg_none_of X G z13, PySem.W.mg_none_of X G z14, PySem.W.mg_none_of X G z15, PySem.W.mg_none_of X G z16, ⟨_, PySem.W.mg_of X G zA⟩, ⟨_, PySem.W.mg_of X G zB⟩⟩
theorem aCp {l : PySem.W.OpenLaw} {w : World} {K : PySem.W.Frag} {mg : Str -> Option Value} {fa c Pt : Addr} (hfa : mg "law" = some (.ref fa)) (B : Bl mg)
    (hLO : ∃ f fd, Fn K mg "levels_or_way" aA4 ["book", "deal"] f fd /\ fd.code = .ref c) (hZ : ∀ base : Heap, base.BuiltinsAt mg Pt -> Lm K mg base c Pt)
    (hW : ∃ f fd, Fn K mg "is_whole" kK ["thing"] f fd)
    (hH : ∃ f fd, Fn K mg "are_hands" oN ["thing"] f fd)
    (hKw : ∃ f fd, Fn K mg "is_work" oO ["hands", "thing"] f fd)
    (hBP : ∃ f fd, Fn K mg "is_book" oP ["thing"] f fd)
    (hDP : ∃ f fd, Fn K mg "is_deal" rR ["book", "thing"] f fd)
    (hNB : ∃ f fd, Fn K mg "need_book" vR ["book"] f fd)
    (hND : ∃ f fd, Fn K mg "need_deal" vS ["book", "deal"] f fd)
    (hC : ∃ f fd, Fn K mg "counted" jK ["hands", "deal"] f fd)
    (hL : ∃ f fd, Fn K mg "loads" vT ["book", "deal"] f fd)
    (hFA : ∃ f fd, Fn K mg "falling" kZ ["book", "deal"] f fd)
    (hHD : ∃ f fd, Fn K mg "handing" gM ["book", "deal"] f fd)
    (hRC : ∃ f fd, Fn K mg "reached" iB ["rows", "first"] f fd)
    (hWT : ∃ f fd, Fn K mg "way_to" rS ["found", "last"] f fd)
    (hSP : ∃ f fd, Fn K mg "is_step" qO ["book", "deal", "step"] f fd)
    (hWY : ∃ f fd, Fn K mg "is_way" vU ["book", "deal", "some"] f fd)
    (hNW : ∃ f fd, Fn K mg "need_way" rT ["book", "deal", "some"] f fd)
    (hGO : ∃ f fd, Fn K mg "gone" xJ ["book", "deal", "some"] f fd)
    (hBT : ∃ f fd, Fn K mg "bettered" iC ["book", "deal"] f fd)
    (hEV : ∃ f fd, Fn K mg "evenest" fZ ["book"] f fd)
    (hGR : ∃ f fd, Fn K mg "grows" iR ["book"] f fd)
    (hFS : ∃ f fd, Fn K mg "falls" gN ["book"] f fd)
    (hCE : ∃ f fd, Fn K mg "_law_acell" xK ["script", "k"] f fd)
    (hTA : ∃ f fd, Fn K mg "_law_atape" xL ["script", "k"] f fd)
    (hDG : ∃ f fd, Fn K mg "_law_adigit" mZ ["tape", "many"] f fd)
    (hAW : ∃ f fd, Fn K mg "_law_awhole" nB ["found"] f fd)
    (hAB : ∃ f fd, Fn K mg "_law_abook" oQ ["tape", "hands", "works"] f fd)
    (hAF : ∃ f fd, Fn K mg "_law_afalling" xM ["book"] f fd)
    (hAU : ∃ f fd, Fn K mg "_law_aup" aB5 ["heaps", "load"] f fd)
    (hAH : ∃ f fd, Fn K mg "_law_aheaps" nC ["book", "weights", "deal"] f fd)
    (hAL : ∃ f fd, Fn K mg "_law_aleast" jP ["book", "deal", "hand"] f fd)
    (hAR : ∃ f fd, Fn K mg "_law_aright" lA ["book"] f fd)
    (hLW : ∃ f fd, Fn K mg "law" aC6 ["script"] f fd)
    : ∃ fd : FuncData, (∀ (s : Shared) (v : Value), BindsTo s fd ⟨[v], []⟩ [("script", v)]) /\ ∀ base : Heap, K.In base -> base.Ns mainGlobals mg -> base.BuiltinsAt mg Pt -> FnOk l.prog w K mg base CX0 14 fa fd ["script"] (yF K Pt) := by
  obtain ⟨fLO, dLO, LO, hc⟩ := hLO
  obtain ⟨fW, dW, W⟩ := hW
  obtain ⟨fH, dH, H⟩ := hH
  obtain ⟨fKw, dKw, Kw⟩ := hKw
  obtain ⟨fBP, dBP, BP⟩ := hBP
  obtain ⟨fDP, dDP, DP⟩ := hDP
  obtain ⟨fNB, dNB, NB⟩ := hNB
  obtain ⟨fND, dND, ND⟩ := hND
  obtain ⟨fC, dC, C⟩ := hC
  obtain ⟨fL, dL, L⟩ := hL
  obtain ⟨fFA, dFA, FA⟩ := hFA
  obtain ⟨fHD, dHD, HD⟩ := hHD
  obtain ⟨fRC, dRC, RC⟩ := hRC
  obtain ⟨fWT, dWT, WT⟩ := hWT
  obtain ⟨fSP, dSP, SP⟩ := hSP
  obtain ⟨fWY, dWY, WY⟩ := hWY
  obtain ⟨fNW, dNW, NW⟩ := hNW
  obtain ⟨fGO, dGO, GO⟩ := hGO
  obtain ⟨fBT, dBT, BT⟩ := hBT
  obtain ⟨fEV, dEV, EV⟩ := hEV
  obtain ⟨fGR, dGR, GR⟩ := hGR
  obtain ⟨fFS, dFS, FS⟩ := hFS
  obtain ⟨fCE, dCE, CE⟩ := hCE
  obtain ⟨fTA, dTA, TA⟩ := hTA
  obtain ⟨fDG, dDG, DG⟩ := hDG
  obtain ⟨fAW, dAW, AW⟩ := hAW
  obtain ⟨fAB, dAB, AB⟩ := hAB
  obtain ⟨fAF, dAF, AF⟩ := hAF
  obtain ⟨fAU, dAU, AU⟩ := hAU
  obtain ⟨fAH, dAH, AH⟩ := hAH
  obtain ⟨fAL, dAL, AL⟩ := hAL
  obtain ⟨fAR, dAR, AR⟩ := hAR
  obtain ⟨fLW, dLW, LW⟩ := hLW
  have e := hfa.symm.trans LW.mgx
  cases e
  have R : Pr K mg fW fH fKw fBP fNB fDP fND fL dW dH dKw dBP dNB dDP dND dL := ⟨W, H, Kw, BP, NB, DP, ND, ⟨fC, dC, C⟩, L⟩
  refine ⟨dLW, fun s v => ?_, fun base _ _ hBu => ?_⟩
  · obtain ⟨oc, od, kV, doc, pm, an, cdv, ct, osl, rfl, lk, hcd⟩ := LW.fn.ex
    exact .of_eq rfl
  · have Z := hZ base hBu
    have OD : FnOk l.prog w K mg base CX0 1 fDG dDG ["tape", "many"] (sB K) := aBb DG B
    have OL : FnOk l.prog w K mg base CX0 8 fLO dLO ["book", "deal"] (xV K Pt) := aDd LO hc Z B R HD RC WT
    have OE : FnOk l.prog w K mg base CX0 11 fEV dEV ["book"] (gG K Pt) := wH EV B R BT (uI BT B LO OL GO (aCg GO B NW (aBj NW B R WY SP))) LO OL
    have OG : FnOk l.prog w K mg base CX0 12 fGR dGR ["book"] (nM K Pt) := aBu GR B R EV OE HD RC
    have OF : FnOk l.prog w K mg base CX0 12 fFS dFS ["book"] (nO K Pt) := aBv FS B R EV OE HD RC
    exact aDk LW B TA (aCd TA B CE) AB (aBc AB B DG OD) AR (aAa AR B AW AF (aCm AF B R EV OE FA) GR OG FS OF AU EV OE AL (zX AL B AH)) GR OG FS OF
theorem walk {l : PySem.W.OpenLaw} {q : Program} {loose : List Str} {XP : (Str -> Option Value) -> Heap -> Prop} {YP : World -> Heap -> Prop} {d : DefRec} {K : Params -> PySem.W.Frag} {c Pt : Addr} (hn : l.most = some 63) (hdf : d.params.defaults = []) (hq : importsNone q = true)
    (hY : ∀ (w : World) (h : Heap), YP w h -> (K w.params).In h) (hT : ∀ (w : World) (h : Heap), YP w h -> h.get? Pt = some (PySem.W.tabObj #[]))
    (F : (∀ w : World, PySem.W.codeHdIn (K w.params) c Pt = true) -> ∀ (w : World) (mg : Str -> Option Value) (fa : Addr) (h : Heap), (K w.params).In h -> h.Ns mainGlobals mg -> mg d.name = some (.ref fa) ->
      ∃ fd : FuncData, (∀ (s : Shared) (u : Value), BindsTo s fd ⟨[u], []⟩ [("script", u)]) /\ ∀ base : Heap, (K w.params).In base -> base.Ns mainGlobals mg -> base.BuiltinsAt mg Pt -> FnOk l.prog w (K w.params) mg base CX0 14 fa fd ["script"] (yF (K w.params) Pt))
    (hKP : ∀ w : World, (K w.params).lookup Pt = none) (hC : ∀ w : World, PySem.W.codeHdIn (K w.params) c Pt = true) :
    PySem.W.WalkO q loose XP YP l.row.toRowW d [] (fun f vs => PySem.call f vs) :=
  L2.aAW (n := 63) (k := 14) (x := "script") (CX := fun _ => CX0) (sp := fun w => yF (K w.params) Pt) (ts := [(Pt, mV)]) hn (by decide) hdf ⟨rfl, by decide, by decide, rfl⟩ hq hY
    (fun w h Y p hp => by rw [List.mem_singleton.mp hp]; exact ⟨hT w h Y, hKP w, c, PySem.W.codeHd_of_K (hY w h Y) (hC w)⟩) (by simp) (fun w mg fa h a b d => let ⟨fd, h1, h2⟩ := F hC w mg fa h a b d; ⟨fd, h1, fun base k1 k2 k3 => h2 base k1 k2 (k3 _ (List.mem_cons_self ..))⟩)
    (fun _ _ a ns _ hO hS => ⟨a, ns, rfl, hS, hO.2 _ (List.mem_cons_self ..), fun H' h => ⟨rfl, fun p hp => by rw [List.mem_singleton.mp hp]; exact h⟩⟩) fun _ _ _ _ _ z => z
end Ab
open PySem PySem.W PyProof.Rows
set_option maxRecDepth 100000 in
set_option maxHeartbeats 0 in
theorem PySem.Challenge.cw_ablehands_k35_loads_that_grow_and_fall_holds : PySem.Challenge.rw_ablehands_k35_loads_that_grow_and_fall.Holds := by
  w_on; o_law; k_head; (case hw => w_witness2)
  k_fill
  refine' Ab.walk (l := PySem.Challenge.rw_ablehands_k35_loads_that_grow_and_fall) rfl rfl (by decide +kernel) (fun w h Y => PySem.W.km_in_of Y) (fun w h Y => PySem.W.km_tabs_of Y _ (List.mem_cons_self ..)) ?F ?KP ?HC
  case F =>
    intro hC w mg fa h KX G hmg
    refine' Ab.aCp hmg ?B ?hLO ?Z ?hW ?hH ?hKw ?hBP ?hDP ?hNB ?hND ?hC ?hL ?hFA ?hHD ?hRC ?hWT ?hSP ?hWY ?hNW ?hGO ?hBT ?hEV ?hGR ?hFS ?hCE ?hTA ?hDG ?hAW ?hAB ?hAF ?hAU ?hAH ?hAL ?hAR ?hLW
    case Z =>
      intro base hb
      exact ⟨hC w, by decide, hb⟩
    case hLO =>
      refine' Ab.aDl KX G (fun _ _ _ _ _ _ us hl => match us, hl with | [_, _], _ => rfl) ?a ?l ?c ?k
      (case a => k_is); (case l => k_is); (case c => k_is); (case k => k_is)
    case B =>
      refine' Ab.aD1 KX G ?z0 ?z1 ?z2 ?z3 ?z4 ?z5 ?z6 ?z7 ?z8 ?z9 ?z10 ?z11 ?z12 ?z13 ?z14 ?z15 ?z16 ?zA ?zB
      (case z0 => k_is)
      (case z1 => k_is)
      (case z2 => k_is)
      (case z3 => k_is)
      (case z4 => k_is)
      (case z5 => k_is)
      (case z6 => k_is)
      (case z7 => k_is)
      (case z8 => k_is)
      (case z9 => k_is)
      (case z10 => k_is)
      (case z11 => k_is)
      (case z12 => k_is)
      (case z13 => k_is)
      (case z14 => k_is)
      (case z15 => k_is)
      (case z16 => k_is)
      (case zA => k_is)
      (case zB => k_is)
    case hW =>
      refine' Ab.cC KX G (fun _ _ _ _ _ _ us hl => match us, hl with | [_], _ => rfl) ?a ?l ?c ?k
      (case a => k_is); (case l => k_is); (case c => k_is); (case k => k_is)
    case hH =>
      refine' Ab.cC KX G (fun _ _ _ _ _ _ us hl => match us, hl with | [_], _ => rfl) ?a ?l ?c ?k
      (case a => k_is); (case l => k_is); (case c => k_is); (case k => k_is)
    case hKw =>
      refine' Ab.cC KX G (fun _ _ _ _ _ _ us hl => match us, hl with | [_, _], _ => rfl) ?a ?l ?c ?k
      (case a => k_is); (case l => k_is); (case c => k_is); (case k => k_is)
    case hBP =>
      refine' Ab.cC KX G (fun _ _ _ _ _ _ us hl => match us, hl with | [_], _ => rfl) ?a ?l ?c ?k
      (case a => k_is); (case l => k_is); (case c => k_is); (case k => k_is)
    case hDP =>
      refine' Ab.cC KX G (fun _ _ _ _ _ _ us hl => match us, hl with | [_, _], _ => rfl) ?a ?l ?c ?k
      (case a => k_is); (case l => k_is); (case c => k_is); (case k => k_is)
    case hNB =>
      refine' Ab.cC KX G (fun _ _ _ _ _ _ us hl => match us, hl with | [_], _ => rfl) ?a ?l ?c ?k
      (case a => k_is); (case l => k_is); (case c => k_is); (case k => k_is)
    case hND =>
      refine' Ab.cC KX G (fun _ _ _ _ _ _ us hl => match us, hl with | [_, _], _ => rfl) ?a ?l ?c ?k
      (case a => k_is); (case l => k_is); (case c => k_is); (case k => k_is)
    case hC =>
      refine' Ab.cC KX G (fun _ _ _ _ _ _ us hl => match us, hl with | [_, _], _ => rfl) ?a ?l ?c ?k
      (case a => k_is); (case l => k_is); (case c => k_is); (case k => k_is)
    case hL =>
      refine' Ab.cC KX G (fun _ _ _ _ _ _ us hl => match us, hl with | [_, _], _ => rfl) ?a ?l ?c ?k
      (case a => k_is); (case l => k_is); (case c => k_is); (case k => k_is)
    case hFA =>
      refine' Ab.cC KX G (fun _ _ _ _ _ _ us hl => match us, hl with | [_, _], _ => rfl) ?a ?l ?c ?k
      (case a => k_is); (case l => k_is); (case c => k_is); (case k => k_is)
    case hHD =>
      refine' Ab.cC KX G (fun _ _ _ _ _ _ us hl => match us, hl with | [_, _], _ => rfl) ?a ?l ?c ?k
      (case a => k_is); (case l => k_is); (case c => k_is); (case k => k_is)
    case hRC =>
      refine' Ab.cC KX G (fun _ _ _ _ _ _ us hl => match us, hl with | [_, _], _ => rfl) ?a ?l ?c ?k
      (case a => k_is); (case l => k_is); (case c => k_is); (case k => k_is)
    case hWT =>
      refine' Ab.cC KX G (fun _ _ _ _ _ _ us hl => match us, hl with | [_, _], _ => rfl) ?a ?l ?c ?k
      (case a => k_is); (case l => k_is); (case c => k_is); (case k => k_is)
    case hSP =>
      refine' Ab.cC KX G (fun _ _ _ _ _ _ us hl => match us, hl with | [_, _, _], _ => rfl) ?a ?l ?c ?k
      (case a => k_is); (case l => k_is); (case c => k_is); (case k => k_is)
    case hWY =>
      refine' Ab.cC KX G (fun _ _ _ _ _ _ us hl => match us, hl with | [_, _, _], _ => rfl) ?a ?l ?c ?k
      (case a => k_is); (case l => k_is); (case c => k_is); (case k => k_is)
    case hNW =>
      refine' Ab.cC KX G (fun _ _ _ _ _ _ us hl => match us, hl with | [_, _, _], _ => rfl) ?a ?l ?c ?k
      (case a => k_is); (case l => k_is); (case c => k_is); (case k => k_is)
    case hGO =>
      refine' Ab.cC KX G (fun _ _ _ _ _ _ us hl => match us, hl with | [_, _, _], _ => rfl) ?a ?l ?c ?k
      (case a => k_is); (case l => k_is); (case c => k_is); (case k => k_is)
    case hBT =>
      refine' Ab.cC KX G (fun _ _ _ _ _ _ us hl => match us, hl with | [_, _], _ => rfl) ?a ?l ?c ?k
      (case a => k_is); (case l => k_is); (case c => k_is); (case k => k_is)
    case hEV =>
      refine' Ab.cC KX G (fun _ _ _ _ _ _ us hl => match us, hl with | [_], _ => rfl) ?a ?l ?c ?k
      (case a => k_is); (case l => k_is); (case c => k_is); (case k => k_is)
    case hGR =>
      refine' Ab.cC KX G (fun _ _ _ _ _ _ us hl => match us, hl with | [_], _ => rfl) ?a ?l ?c ?k
      (case a => k_is); (case l => k_is); (case c => k_is); (case k => k_is)
    case hFS =>
      refine' Ab.cC KX G (fun _ _ _ _ _ _ us hl => match us, hl with | [_], _ => rfl) ?a ?l ?c ?k
      (case a => k_is); (case l => k_is); (case c => k_is); (case k => k_is)
    case hCE =>
      refine' Ab.cC KX G (fun _ _ _ _ _ _ us hl => match us, hl with | [_, _], _ => rfl) ?a ?l ?c ?k
      (case a => k_is); (case l => k_is); (case c => k_is); (case k => k_is)
    case hTA =>
      refine' Ab.cC KX G (fun _ _ _ _ _ _ us hl => match us, hl with | [_, _], _ => rfl) ?a ?l ?c ?k
      (case a => k_is); (case l => k_is); (case c => k_is); (case k => k_is)
    case hDG =>
      refine' Ab.cC KX G (fun _ _ _ _ _ _ us hl => match us, hl with | [_, _], _ => rfl) ?a ?l ?c ?k
      (case a => k_is); (case l => k_is); (case c => k_is); (case k => k_is)
    case hAW =>
      refine' Ab.cC KX G (fun _ _ _ _ _ _ us hl => match us, hl with | [_], _ => rfl) ?a ?l ?c ?k
      (case a => k_is); (case l => k_is); (case c => k_is); (case k => k_is)
    case hAB =>
      refine' Ab.cC KX G (fun _ _ _ _ _ _ us hl => match us, hl with | [_, _, _], _ => rfl) ?a ?l ?c ?k
      (case a => k_is); (case l => k_is); (case c => k_is); (case k => k_is)
    case hAF =>
      refine' Ab.cC KX G (fun _ _ _ _ _ _ us hl => match us, hl with | [_], _ => rfl) ?a ?l ?c ?k
      (case a => k_is); (case l => k_is); (case c => k_is); (case k => k_is)
    case hAU =>
      refine' Ab.cC KX G (fun _ _ _ _ _ _ us hl => match us, hl with | [_, _], _ => rfl) ?a ?l ?c ?k
      (case a => k_is); (case l => k_is); (case c => k_is); (case k => k_is)
    case hAH =>
      refine' Ab.cC KX G (fun _ _ _ _ _ _ us hl => match us, hl with | [_, _, _], _ => rfl) ?a ?l ?c ?k
      (case a => k_is); (case l => k_is); (case c => k_is); (case k => k_is)
    case hAL =>
      refine' Ab.cC KX G (fun _ _ _ _ _ _ us hl => match us, hl with | [_, _, _], _ => rfl) ?a ?l ?c ?k
      (case a => k_is); (case l => k_is); (case c => k_is); (case k => k_is)
    case hAR =>
      refine' Ab.cC KX G (fun _ _ _ _ _ _ us hl => match us, hl with | [_], _ => rfl) ?a ?l ?c ?k
      (case a => k_is); (case l => k_is); (case c => k_is); (case k => k_is)
    case hLW =>
      refine' Ab.cC KX G (fun _ _ _ _ _ _ us hl => match us, hl with | [_], _ => rfl) ?a ?l ?c ?k
      (case a => k_is); (case l => k_is); (case c => k_is); (case k => k_is)
  case KP => intro w; first | k_is | kernel_rfl
  case HC => intro w; kernel_rfl
