import PyProof.Rows.All
import Wide.All
import OpenK.AllK
import Wide.FinOn
import PyProof.EqAt
import PyProof.EqKinds
import PyProof.TupleCall
import Lean
import PySem.Challenge.RW_ablehands_k07_ways_gone
def PySem.W.Fast.tw3282593054595759430 : Nat := 0
def PySem.W.Fast.tw13256312255457497686 : Nat := 0
def PySem.W.Fast.tw2309536499899608545 : Nat := 0
def PySem.W.Fast.tw3281348295516197509 : Nat := 0
def PySem.W.Fast.tw4841478789214458356 : Nat := 0
def PySem.W.Fast.tw14816781860218633467 : Nat := 0
def PySem.W.Fast.tw5042428612693721956 : Nat := 0
def PySem.W.Fast.tw4293946248678781132 : Nat := 0
def PySem.W.Fast.tw11599771401424387354 : Nat := 0
def PySem.W.Fast.tw15074789670183612230 : Nat := 0
def PySem.W.Fast.tw5324903794807165660 : Nat := 0
def PySem.W.Fast.tw11554931985622274491 : Nat := 0
def PySem.W.Fast.tw2734598285228992677 : Nat := 0
def PySem.W.Fast.tw1990459175434236588 : Nat := 0
def PySem.W.Fast.tw3490068394744897351 : Nat := 0
def PySem.W.Fast.tw9098327101935565560 : Nat := 0
def PySem.W.Fast.tw9142603820224005227 : Nat := 0
def PySem.W.Fast.tw677286491532330518 : Nat := 0
def PySem.W.Fast.tw15701629469375288488 : Nat := 0
def PySem.W.Fast.tw10380625891729979800 : Nat := 0
def PySem.W.Fast.tw5454598645274002244 : Nat := 0
def PySem.W.Fast.tw17347217675849113636 : Nat := 0
def PySem.W.Fast.tw14391050319668815594 : Nat := 0
def PySem.W.Fast.tw13223124465321547393 : Nat := 0
def PySem.W.Fast.tw11564363284953849054 : Nat := 0
def PySem.W.Fast.tw2508254919122748633 : Nat := 0
def PySem.W.Fast.tw14220637689838435371 : Nat := 0
def PySem.W.Fast.tw11977850078523450165 : Nat := 0
def PySem.W.Fast.tw7732113341820088959 : Nat := 0
def PySem.W.Fast.tw10942980679972572851 : Nat := 0
def PySem.W.Fast.tw14074873550749505975 : Nat := 0
def PySem.W.Fast.tw9833948609722874567 : Nat := 0
def PySem.W.Fast.tw13855032954488707540 : Nat := 0
def PySem.W.Fast.tw4670356802771679231 : Nat := 0
def PySem.W.Fast.tw2880000269327056013 : Nat := 0
def PySem.W.Fast.tw3371469096710776385 : Nat := 0
def PySem.W.Fast.tw2152123487280417623 : Nat := 0
def PySem.W.Fast.tw12302478975775341020 : Nat := 0
def PySem.W.Fast.tw8390959153802241277 : Nat := 0
def PySem.W.Fast.tw14301344032013270693 : Nat := 0
def PySem.W.Fast.tw12470036440619780514 : Nat := 0
def PySem.W.Fast.tw11581421980753714850 : Nat := 0
def PySem.W.Fast.tw1836795944134472280 : Nat := 0
def PySem.W.Fast.tw7661662774417935524 : Nat := 0
def PySem.W.Fast.tw17471962562378569461 : Nat := 0
def PySem.W.Fast.tw993563579223373951 : Nat := 0
def PySem.W.Fast.tw16819161217800193880 : Nat := 0
def PySem.W.Fast.tw2961018079858200946 : Nat := 0
def PySem.W.Fast.tw5664121587803520104 : Nat := 0
def PySem.W.Fast.tw15073164245273439268 : Nat := 0
def PySem.W.Fast.tw11502316938353924366 : Nat := 0
def PySem.W.Fast.tw2033115681102392349 : Nat := 0
def PySem.W.Fast.tw2518826289479816183 : Nat := 0
def PySem.W.Fast.tw2224256233823517408 : Nat := 0
def PySem.W.Fast.tw17797037395204212841 : Nat := 0
def PySem.W.Fast.tw14315242273380471502 : Nat := 0
def PySem.W.Fast.tw2559082960196256809 : Nat := 0
def PySem.W.Fast.tw6827354389992660503 : Nat := 0
def PySem.W.Fast.tw9911508688548022644 : Nat := 0
def PySem.W.Fast.tw2978731410648950177 : Nat := 0
def PySem.W.Fast.tw9058740171001322071 : Nat := 0
def PySem.W.Fast.tw994562903552470857 : Nat := 0
def PySem.W.Fast.tw14287237463667719985 : Nat := 0
def PySem.W.Fast.tw3128146895678526070 : Nat := 0
def PySem.W.Fast.tw17536220681758023918 : Nat := 0
def PySem.W.Fast.tw14424268049223573589 : Nat := 0
def PySem.W.Fast.tw5642709904992168516 : Nat := 0
def PySem.W.Fast.tw9632797187146145561 : Nat := 0
def PySem.W.Fast.tw6288132548382584440 : Nat := 0
def PySem.W.Fast.tw7015165851900238500 : Nat := 0
def PySem.W.Fast.tw15990678058971602630 : Nat := 0
def PySem.W.Fast.tw12906706188701640939 : Nat := 0
def PySem.W.Fast.tw8197714549665114867 : Nat := 0
def PySem.W.Fast.tw14310897864779131004 : Nat := 0
def PySem.W.Fast.tw16840748028041802708 : Nat := 0
def PySem.W.Fast.tw11867169044823756745 : Nat := 0
def PySem.W.Fast.tw9180046242886185053 : Nat := 0
def PySem.W.Fast.tw17004222839330597059 : Nat := 0
def PySem.W.Fast.tw8192980063343990490 : Nat := 0
def PySem.W.Fast.tw3166943672011112434 : Nat := 0
def PySem.W.Fast.tw13539391354456497121 : Nat := 0
def PySem.W.Fast.tw15480542512185176541 : Nat := 0
def PySem.W.Fast.tw857156764394955101 : Nat := 0
def PySem.W.Fast.tw4644513976316876600 : Nat := 0
def PySem.W.Fast.tw13295854792137254803 : Nat := 0
def PySem.W.Fast.tw13774504387506571280 : Nat := 0
def PySem.W.Fast.tw5809720758733491713 : Nat := 0
def PySem.W.Fast.tw7175172210463665381 : Nat := 0
def PySem.W.Fast.tw8084630797791970354 : Nat := 0
def PySem.W.Fast.tw6526925425923545746 : Nat := 0
def PySem.W.Fast.tw2764506033718710950 : Nat := 0
def PySem.W.Fast.tw2199059783395287060 : Nat := 0
def PySem.W.Fast.tw13358194797706997306 : Nat := 0
def PySem.W.Fast.tw6396105056025420561 : Nat := 0
def PySem.W.Fast.tw14298223260769533387 : Nat := 0
def PySem.W.Fast.tw12834339480941563031 : Nat := 0
def PySem.W.Fast.tw1459579022434038266 : Nat := 0
def PySem.W.Fast.tw18110492103643416156 : Nat := 0
def PySem.W.Fast.tw14475032198478049019 : Nat := 0
def PySem.W.Fast.tw7757433589068690353 : Nat := 0
def PySem.W.Fast.tw5654149650987579197 : Nat := 0
def PySem.W.Fast.tw9647499271801806139 : Nat := 0
def PySem.W.Fast.tw10726862447081192426 : Nat := 0
def PySem.W.Fast.tw9932268198767864304 : Nat := 0
def PySem.W.Fast.tw7041627740470915922 : Nat := 0
def PySem.W.Fast.tw14911515004208325641 : Nat := 0
def PySem.W.Fast.tw9456607484595280939 : Nat := 0
def PySem.W.Fast.tw10019540480884690025 : Nat := 0
def PySem.W.Fast.tw242899628022634957 : Nat := 0
def PySem.W.Fast.tw932028637378099604 : Nat := 0
def PySem.W.Fast.tw9838851720056835768 : Nat := 0
def PySem.W.Fast.tw12035715352041752163 : Nat := 0
def PySem.W.Fast.tw11801870437844001019 : Nat := 0
def PySem.W.Fast.tw10467888265065791085 : Nat := 0
def PySem.W.Fast.tw8384455293621574582 : Nat := 0
def PySem.W.Fast.tw1428973013118245191 : Nat := 0
def PySem.W.Fast.tw15291352381033157975 : Nat := 0
def PySem.W.Fast.tw1390626314327346443 : Nat := 0
def PySem.W.Fast.tw9690266512045924171 : Nat := 0
def PySem.W.Fast.tw16759531029987244678 : Nat := 0
def PySem.W.Fast.tw180857955796711920 : Nat := 0
def PySem.W.Fast.tw15616192627503051418 : Nat := 0
def PySem.W.Fast.tw2099964636957445614 : Nat := 0
def PySem.W.Fast.tw18317521887999363602 : Nat := 0
def PySem.W.Fast.tw14938483186425656788 : Nat := 0
def PySem.W.Fast.tw6491415842308089368 : Nat := 0
def PySem.W.Fast.tw5399106118021064937 : Nat := 0
def PySem.W.Fast.tw4509570022851814425 : Nat := 0
def PySem.W.Fast.tw15445729326492105091 : Nat := 0
def PySem.W.Fast.tw6814588971470678914 : Nat := 0
def PySem.W.Fast.tw12969718617111684017 : Nat := 0
def PySem.W.Fast.tw12120968984478605670 : Nat := 0
def PySem.W.Fast.tw9489641876156483053 : Nat := 0
def PySem.W.Fast.tw6287173716169233568 : Nat := 0
def PySem.W.Fast.tw9661379373365576742 : Nat := 0
def PySem.W.Fast.tw11638610275253915213 : Nat := 0
def PySem.W.Fast.tw2986570619701663085 : Nat := 0
def PySem.W.Fast.tw17608900710967806815 : Nat := 0
def PySem.W.Fast.tw13291182244793448303 : Nat := 0
def PySem.W.Fast.tw598804211643123869 : Nat := 0
def PySem.W.Fast.tw9622528415770524515 : Nat := 0
def PySem.W.Fast.tw3499141646152862833 : Nat := 0
def PySem.W.Fast.tw5587724667842619891 : Nat := 0
def PySem.W.Fast.tw3022261459985362796 : Nat := 0
def PySem.W.Fast.tw7084767188377181826 : Nat := 0
def PySem.W.Fast.tw2932399840109828061 : Nat := 0
def PySem.W.Fast.tw2438295015280964947 : Nat := 0
def PySem.W.Fast.tw17057049593206463804 : Nat := 0
def PySem.W.Fast.tw13074888819914365779 : Nat := 0
def PySem.W.Fast.tw6771786726413745772 : Nat := 0
def PySem.W.Fast.tw10698289869179228397 : Nat := 0
def PySem.W.Fast.tw10295213736546382491 : Nat := 0
def PySem.W.Fast.tw4688451907918891565 : Nat := 0
def PySem.W.Fast.tw9450258381231774476 : Nat := 0
def PySem.W.Fast.tw17498954358506591755 : Nat := 0
def PySem.W.Fast.tw8969295294097148890 : Nat := 0
def PySem.W.Fast.tw7763398637541812957 : Nat := 0
def PySem.W.Fast.tw12547620768417215057 : Nat := 0
def PySem.W.Fast.tw9810251820208984218 : Nat := 0
def PySem.W.Fast.tw4518550839377502266 : Nat := 0
def PySem.W.Fast.tw1893154306061514743 : Nat := 0
def PySem.W.Fast.tw1692329724858424723 : Nat := 0
def PySem.W.Fast.tw2313410230431875162 : Nat := 0
def PySem.W.Fast.tw9211932399175406091 : Nat := 0
def PySem.W.Fast.tw651797004429328181 : Nat := 0
def PySem.W.Fast.tw11893187186182744857 : Nat := 0
def PySem.W.Fast.tw1332459221367212490 : Nat := 0
def PySem.W.Fast.tw13569417346310791454 : Nat := 0
def PySem.W.Fast.tw4794201212869202007 : Nat := 0
def PySem.W.Fast.tw17045128288995145622 : Nat := 0
def PySem.W.Fast.tw18262177604470683115 : Nat := 0
def PySem.W.Fast.tw591100468155153177 : Nat := 0
def PySem.W.Fast.tw1730636955301128605 : Nat := 0
def PySem.W.Fast.tw14279053241093969386 : Nat := 0
set_option Elab.async false
set_option linter.all false
set_option maxRecDepth 100000
namespace L2
open PySem PySem.Spec PyProof.Rows

abbrev Key := Sum Int Str
def keyIs : Key → Value → Bool
  | .inl k, v => Value.isInt k v
  | .inr x, v => Value.isStrOf x v
def keyH (w : World) : Key → Int
  | .inl k => hashInt k
  | .inr x => hashStr w x
theorem keyIs_shape : ∀ {k : Key} {v : Value}, keyIs k v = true → (∃ i t, k = Sum.inl i ∧ v = Value.int i t) ∨ (∃ x t, k = Sum.inr x ∧ v = Value.str x t)
  | .inl i, v, h => by
    obtain ⟨t, e⟩ := Value.isInt_shape (k := i) (v := v) h
    exact .inl ⟨i, t, rfl, e⟩
  | .inr x, v, h => by
    obtain ⟨t, e⟩ := Value.isStrOf_shape (x := x) (v := v) h
    exact .inr ⟨x, t, rfl, e⟩
theorem key_ll (a b : Int) : decide ((Sum.inl a : Key) = Sum.inl b) = (a == b) := by
  by_cases e : a = b
  · subst e; simp
  · have h : ¬ (Sum.inl a : Key) = Sum.inl b := fun q => e (Sum.inl.inj q)
    rw [decide_eq_false h]
    exact (beq_eq_false_iff_ne.mpr e).symm
theorem key_rr (a b : Str) : decide ((Sum.inr a : Key) = Sum.inr b) = decide (a = b) := by
  by_cases e : a = b
  · subst e; simp
  · have h : ¬ (Sum.inr a : Key) = Sum.inr b := fun q => e (Sum.inr.inj q)
    rw [decide_eq_false h, decide_eq_false e]
theorem key_lr (a : Int) (b : Str) : decide ((Sum.inl a : Key) = Sum.inr b) = false := decide_eq_false (fun q => nomatch q)
theorem key_rl (a : Str) (b : Int) : decide ((Sum.inr a : Key) = Sum.inl b) = false := decide_eq_false (fun q => nomatch q)

def mixKind (prog : Program) (w : World) : PySem.KeyKind prog w Key where
  is := keyIs
  hash := keyH w
  inj := fun v a b ha hb => by
    rcases keyIs_shape ha with ⟨i, t, rfl, rfl⟩ | ⟨x, t, rfl, rfl⟩
    · rcases keyIs_shape hb with ⟨j, u, rfl, e⟩ | ⟨y, u, rfl, e⟩
      · injection e with e1 _; rw [e1]
      · exact nomatch e
    · rcases keyIs_shape hb with ⟨j, u, rfl, e⟩ | ⟨y, u, rfl, e⟩
      · exact nomatch e
      · injection e with e1 _; rw [e1]
  byValue := fun k v h => by
    rcases keyIs_shape h with ⟨i, t, rfl, rfl⟩ | ⟨x, t, rfl, rfl⟩ <;> rfl
  pyHash := fun hv h => by
    rcases keyIs_shape hv with ⟨i, t, rfl, rfl⟩ | ⟨x, t, rfl, rfl⟩
    · exact wpAny_pyHash_int h
    · exact wpAny_pyHash_str h
  eqBool := fun hu hv h => by
    rcases keyIs_shape hu with ⟨i, t, rfl, rfl⟩ | ⟨x, t, rfl, rfl⟩
    · rcases keyIs_shape hv with ⟨j, u, rfl, rfl⟩ | ⟨y, u, rfl, rfl⟩
      · rw [key_ll] at h; exact wpAny_eqBool_int h
      · rw [key_lr] at h; exact SeqAt.EqAt.int_str i t y u _ _ _ _ h
    · rcases keyIs_shape hv with ⟨j, u, rfl, rfl⟩ | ⟨y, u, rfl, rfl⟩
      · rw [key_rl] at h; exact SeqAt.EqAt.str_int x t j u _ _ _ _ h
      · rw [key_rr] at h; exact wpAny_eqBool_str h
  «strs» := fun k x t v h => by
    rcases keyIs_shape h with ⟨i, u, rfl, e⟩ | ⟨y, u, rfl, e⟩
    · exact nomatch e
    · injection e with e1 _
      subst e1
      cases v <;> rfl

end L2

namespace L2
open PySem PySem.Spec PyProof.Rows

inductive V where
  | non | bl (b : Bool) | int (i : Int) | str (x : Str) | byt (b : Array UInt8) | flt (b : UInt64) | ref (a : Addr) | ty (n : String)
  deriving DecidableEq

def RelV : V → Value → Prop
  | .non, u => u = Value.none
  | .bl b, u => u = Value.bool b
  | .int i, u => ∃ t, u = Value.int i t
  | .str x, u => ∃ t, u = Value.str x t
  | .byt b, u => ∃ t, u = Value.bytes b t
  | .flt b, u => ∃ t, u = Value.float b t
  | .ref a, u => u = Value.ref a
  | .ty n, u => u = Value.type n

abbrev Vals : List V → List Value → Prop := Paired RelV
theorem Vals.length {xs : List V} {us : List Value} (r : Vals xs us) : xs.length = us.length := Paired.length r
theorem Vals.get : ∀ {xs : List V} {us : List Value} {i : Nat} {x : V}, Vals xs us → xs[i]? = some x → ∃ u, us[i]? = some u ∧ RelV x u
  | _, _, _, _, .nil, e => by simp at e
  | _, _, 0, _, .cons r _, e => by simp at e; subst e; exact ⟨_, rfl, r⟩
  | _, _, i + 1, x, .cons _ t, e => by
    obtain ⟨u, h1, h2⟩ := Vals.get (i := i) (x := x) t (by simpa using e)
    exact ⟨u, by simpa using h1, h2⟩
theorem Vals.set {x : V} {u : Value} (r : RelV x u) : ∀ {xs : List V} {us : List Value} (i : Nat), Vals xs us → Vals (xs.set i x) (us.set i u)
  | _, _, _, .nil => .nil
  | _, _, 0, .cons _ t => .cons r t
  | _, _, i + 1, .cons q t => .cons q (Vals.set r i t)
theorem Vals.append : ∀ {xs ys : List V} {us ws : List Value}, Vals xs us → Vals ys ws → Vals (xs ++ ys) (us ++ ws)
  := by
  intro xs ys us ws h s
  induction h with
  | nil => exact s
  | cons r t ih => exact .cons r ih
theorem Vals.take : ∀ {xs : List V} {us : List Value} (n : Nat), Vals xs us → Vals (xs.take n) (us.take n)
  | _, _, 0, _ => .nil
  | _, _, _ + 1, .nil => .nil
  | _, _, n + 1, .cons r t => .cons r (Vals.take n t)
theorem Vals.drop : ∀ {xs : List V} {us : List Value} (n : Nat), Vals xs us → Vals (xs.drop n) (us.drop n)
  | _, _, 0, r => r
  | _, _, _ + 1, .nil => .nil
  | _, _, n + 1, .cons _ t => Vals.drop n t
def RelO : Option V → Option Value → Prop
  | some v, some u => RelV v u
  | none, none => True
  | _, _ => False
def KV {κ : Type} : List (κ × V) → List (κ × Value) → Prop := Paired fun (p : κ × V) (q : κ × Value) => p.1 = q.1 ∧ RelV p.2 q.2

def kV : Key → V
  | .inl i => .int i
  | .inr x => .str x

inductive HO where
  /-- a list -/
  | lst (xs : List V)
  /-- a tuple (never changes) -/
  | tup (xs : List V)
  /-- a dict whose keys are ints and texts; one whose keys are tuples of ints and texts (the empty one is both) -/
  | dK (kvs : List (Key × V)) | dT (kvs : List (List Key × V))
  /-- a set of ints: its members, its size -/
  | set (S : Int → Bool) (n : Nat)
  /-- an instance of the class at C, its dict at dx, its attributes -/
  | ins (C dx : Addr) (fs : List (Str × V))
  /-- the dict of the instance at x -/
  | own (x : Addr)
  /-- the dict of an exception -/
  | xd (fs : List (Str × V))
  /-- a bound method, f of x -/
  | met (f x : Addr)
  /-- a range object lo, lo + 1, .. below hi -/
  | rng (lo hi : Int)
  /-- a thing that is known to the object (the script; a dict while a loop walks it): read, never written while it is so -/
  | frz (o : Obj) (u : HO)
  /-- a code object's table -/
  | tbl (ps : Array Value)
  /-- a code object's table, all of whose codes have the name q; they are tracked as its own -/
  | tab (q : Str)
  /-- any other thing, by what is true of its one object (a def of one's own: SetO a S n := HO.ext fun h => ..) -/
  | ext (φ : Heap → Prop)

abbrev Hp := Addr → Option HO
def upd (H : Hp) (a : Addr) (o : HO) : Hp := fun b => if b = a then some o else H b
theorem upd_same {H : Hp} {a : Addr} {o : HO} : upd H a o a = some o := by unfold upd; rw [if_pos rfl]
theorem upd_ne {H : Hp} {a b : Addr} {o : HO} (h : b ≠ a) : upd H a o b = H b := by unfold upd; rw [if_neg h]
theorem upd_upd {H : Hp} {a : Addr} {o u : HO} : upd (upd H a o) a u = upd H a u := by
  funext b; unfold upd; split <;> rfl
theorem ne_of_none {H : Hp} {a b : Addr} {o : HO} (h : H a = some o) (h' : H b = none) : a ≠ b := by
  intro e; subst e; rw [h] at h'; cases h'

section
variable (P : Program) (w : World)
def ObjOk (H : Hp) (h : Heap) (a : Addr) : HO → Prop
  | .lst xs => xs.length ≤ sizeLine ∧ ∃ (its : List Value) (n : Nat), Vals xs its ∧ h.get? a = some { cls := .type "list", data := .seq its.toArray n }
  | .tup xs => xs.length ≤ sizeLine ∧ ∃ (its : List Value) (n : Nat), Vals xs its ∧ h.get? a = some { cls := .type "tuple", data := .seq its.toArray n }
  | .dK kvs => kvs.length ≤ sizeLine ∧ (a == sysModules) = false ∧ ∃ vs, KV kvs vs ∧ h.DictOf (mixKind P w) a vs
  | .dT kvs => kvs.length ≤ sizeLine ∧ (a == sysModules) = false ∧ ∃ xs : List (List Key × Addr × Value),
      Paired (fun (p : List Key × V) (q : List Key × Addr × Value) => p.1 = q.1 ∧ H q.2.1 = some (.tup (p.1.map kV)) ∧ RelV p.2 q.2.2) kvs xs ∧
      ∃ o es ep, h.get? a = some o ∧ o.ExactDict ∧ o.data = .dict es ep ∧ es.toList = xs.map (entryOfKey (tupleKind (mixKind P w))) ∧ (xs.map (·.1)).Nodup
  | .set S n => h.SetOf (intKind P w) a S n
  | .ins C dx fs => H dx = some (.own a) ∧ fs.length ≤ 1000 ∧ dx ≠ a ∧ h.get? a = some (PySem.W.instObj C dx) ∧
      ∃ mA, h.Ns1 dx mA ∧ (∀ f, RelO (fs.lookup f) (mA f)) ∧ PySem.Within mA (fs.map (·.1))
  | .own _ => ∃ o, h.get? a = some o
  | .xd fs => ∃ mA, h.Ns1 a mA ∧ ∀ f, RelO (fs.lookup f) (mA f)
  | .rng lo hi => ∃ t u v, h.get? a = some { cls := .type "range", data := .fields #[.int lo t, .int hi u, .int 1 v] }
  | .frz o u => h.get? a = some o ∧ ObjOk H h a u
  | .tbl ps => h.get? a = some { cls := .none, data := .fields ps }
  | .tab q => ∃ ps : Array Value, h.get? a = some { cls := .none, data := .fields ps } ∧ TriplesOk ps.toList ∧ ∀ (pos : Pos) (cv : Value), codeAmong pos ps.toList = some cv → ∃ (c : Addr) (o : Obj) (vs : Array Value) (t : Tok), cv = .ref c ∧ H c = some (.own a) ∧ h.get? c = some o ∧ o.data = .fields vs ∧ vs[1]? = some (.str q t)
  | .met f x => h.get? a = some (PySem.W.methodObj (.ref f) (.ref x))
  | .ext φ => φ h ∧ (∃ o, h.get? a = some o) ∧ ∀ h1 h2 : Heap, φ h1 → (∀ o, h1.get? a = some o → h2.get? a = some o) → φ h2
def HOk (H : Hp) (h : Heap) : Prop := ∀ a o, H a = some o → ObjOk P w H h a o
end

section
variable {P : Program} {w : World} {H H' : Hp} {h h' : Heap} {a : Addr} {o : HO}
theorem ObjOk.lt (x : ObjOk P w H h a o) : a < h.objs.size := by
  cases o with
  | lst xs => obtain ⟨_, _, _, _, e⟩ := x; exact Heap.lt_size e
  | tup xs => obtain ⟨_, _, _, _, e⟩ := x; exact Heap.lt_size e
  | dK kvs => obtain ⟨_, _, _, _, o, _, _, e, _⟩ := x; exact Heap.lt_size e
  | dT kvs => obtain ⟨_, _, _, _, o, _, _, e, _⟩ := x; exact Heap.lt_size e
  | set S n => obtain ⟨o, _, _, _, e, _⟩ := x; exact Heap.lt_size e
  | ins C dx fs => obtain ⟨_, _, _, e, _⟩ := x; exact Heap.lt_size e
  | own y => obtain ⟨_, e⟩ := x; exact Heap.lt_size e
  | xd fs => obtain ⟨_, ⟨_, _, _, e, _⟩, _⟩ := x; exact Heap.lt_size e
  | rng lo hi => obtain ⟨_, _, _, e⟩ := x; exact Heap.lt_size e
  | frz ob u => obtain ⟨e, _⟩ := x; exact Heap.lt_size e
  | tbl ps => exact Heap.lt_size (show h.get? a = some _ from x)
  | tab q => obtain ⟨_, e, _⟩ := x; exact Heap.lt_size e
  | met f y => exact Heap.lt_size (show h.get? a = some _ from x)
  | ext φ => obtain ⟨_, ⟨_, e⟩, _⟩ := x; exact Heap.lt_size e
theorem Paired.mapP {α β : Type} {F G : α → β → Prop} : ∀ {l₁ : List α} {l₂ : List β}, Paired F l₁ l₂ → (∀ a b, F a b → G a b) → Paired G l₁ l₂
  := by
  intro l₁ l₂ h f
  induction h with
  | nil => exact .nil
  | cons r t ih => exact .cons (f _ _ r) ih
theorem ObjOk.stay (x : ObjOk P w H h a o) (k : ∀ b u, (b = a ∨ H b = some (.own a)) → h.get? b = some u → h'.get? b = some u)
    (ho : ∀ b, H b = some (.own a) → H' b = some (.own a)) (ht : ∀ b xs, H b = some (.tup xs) → H' b = some (.tup xs)) : ObjOk P w H' h' a o := by
  induction o with
  | lst xs => obtain ⟨z, its, n, r, e⟩ := x; exact ⟨z, its, n, r, k _ _ (.inl rfl) e⟩
  | tup xs => obtain ⟨z, its, n, r, e⟩ := x; exact ⟨z, its, n, r, k _ _ (.inl rfl) e⟩
  | dK kvs => obtain ⟨z, y, vs, r, ob, es, ep, e, c⟩ := x; exact ⟨z, y, vs, r, ob, es, ep, k _ _ (.inl rfl) e, c⟩
  | dT kvs =>
    obtain ⟨z, y, xs, r, ob, es, ep, e, c⟩ := x
    exact ⟨z, y, xs, Paired.mapP r fun p q z => ⟨z.1, ht _ _ z.2.1, z.2.2⟩, ob, es, ep, k _ _ (.inl rfl) e, c⟩
  | set S n => obtain ⟨ob, es, ep, t, e, c⟩ := x; exact ⟨ob, es, ep, t, k _ _ (.inl rfl) e, c⟩
  | ins C dx fs =>
    obtain ⟨d, z, ne, e, mA, ⟨od, es, ep, e2, c⟩, r⟩ := x
    exact ⟨ho _ d, z, ne, k _ _ (.inl rfl) e, mA, ⟨od, es, ep, k _ _ (.inr d) e2, c⟩, r⟩
  | own y => obtain ⟨ob, e⟩ := x; exact ⟨ob, k _ _ (.inl rfl) e⟩
  | xd fs => obtain ⟨mA, ⟨od, es, ep, e, c⟩, r⟩ := x; exact ⟨mA, ⟨od, es, ep, k _ _ (.inl rfl) e, c⟩, r⟩
  | rng lo hi => obtain ⟨t, u, v, e⟩ := x; exact ⟨t, u, v, k _ _ (.inl rfl) e⟩
  | frz ob u ih => obtain ⟨e, q⟩ := x; exact ⟨k _ _ (.inl rfl) e, ih q⟩
  | tbl ps =>
    have e : h.get? a = some { cls := .none, data := .fields ps } := x
    show h'.get? a = some { cls := .none, data := .fields ps }
    exact k a _ (.inl rfl) e
  | tab q =>
    obtain ⟨ps, e, z, r⟩ := x
    refine ⟨ps, k _ _ (.inl rfl) e, z, fun pos cv q => ?_⟩
    obtain ⟨c, o, vs, t, r1, r2, r3, r4⟩ := r pos cv q
    exact ⟨c, o, vs, t, r1, ho _ r2, k _ _ (.inr r2) r3, r4⟩
  | met f y =>
    have e : h.get? a = some (PySem.W.methodObj (.ref f) (.ref y)) := x
    show h'.get? a = some (PySem.W.methodObj (.ref f) (.ref y))
    exact k a _ (.inl rfl) e
  | ext φ => obtain ⟨p, ⟨o, e⟩, st⟩ := x; exact ⟨st _ _ p fun o q => k _ _ (.inl rfl) q, ⟨o, k _ _ (.inl rfl) e⟩, st⟩
theorem HOk.lt (x : HOk P w H h) (e : H a = some o) : a < h.objs.size := (x a o e).lt
theorem HOk.fresh (x : HOk P w H h) (e : h.objs.size ≤ a) : H a = none := by
  cases q : H a with
  | none => rfl
  | some u => exact absurd (Nat.lt_of_lt_of_le (x.lt q) e) (Nat.lt_irrefl _)
theorem HOk.kept (x : HOk P w H h) (k : ∀ b u, h.get? b = some u → h'.get? b = some u) : HOk P w H h' := fun a o e =>
  (x a o e).stay (fun b u _ q => k b u q) (fun _ q => q) fun _ _ q => q
theorem HOk.laid (x : HOk P w H h) (k : ∀ b u, h.get? b = some u → h'.get? b = some u) (hp : h.objs.size ≤ a) (new : ObjOk P w (upd H a o) h' a o) : HOk P w (upd H a o) h' := fun b u e => by
  have hn := x.fresh hp
  by_cases hb : b = a
  · subst hb; rw [upd_same] at e; cases e; exact new
  · rw [upd_ne hb] at e
    exact (x b u e).stay (fun c v _ q => k c v q) (fun c q => by rw [upd_ne (ne_of_none q hn)]; exact q) fun c xs q => by rw [upd_ne (ne_of_none q hn)]; exact q
end

def Rd (H : Hp) (a : Addr) (u : HO) : Prop := H a = some u ∨ ∃ o, H a = some (.frz o u)
theorem Rd.of {H : Hp} {a : Addr} {u : HO} (h : H a = some u) : Rd H a u := .inl h
theorem Rd.ok {P : Program} {w : World} {H : Hp} {h : Heap} {a : Addr} {u : HO} (r : Rd H a u) (x : HOk P w H h) : ObjOk P w H h a u := by
  rcases r with r | ⟨o, r⟩
  · exact x a u r
  · obtain ⟨_, q⟩ := x a _ r
    exact q
def Mut : Option HO → Prop
  | some (.lst _) => True
  | some (.dK _) => True
  | some (.dT _) => True
  | some (.set _ _) => True
  | some (.ins _ _ _) => True
  | some (.ext _) => True
  | some (.tab _) => True
  | _ => False
section
variable {P : Program} {w : World} {H : Hp} {h h' : Heap} {x e : Addr} {o' : HO}
theorem HOk.write (ok : HOk P w H h) (mu : Mut (H x)) (he : e = x ∨ H e = some (.own x)) (k : ∀ b u, b ≠ e → h.get? b = some u → h'.get? b = some u) (heo : ∃ u, h'.get? e = some u)
    (new : ObjOk P w (upd H x o') h' x o') : HOk P w (upd H x o') h' := fun b u q => by
  have nown : ∀ c y, H c = some (.own y) → c ≠ x := fun c y r z => by subst z; rw [r] at mu; exact mu
  have ntup : ∀ c xs, H c = some (.tup xs) → c ≠ x := fun c xs r z => by subst z; rw [r] at mu; exact mu
  by_cases hb : b = x
  · subst hb; rw [upd_same] at q; cases q; exact new
  · rw [upd_ne hb] at q
    by_cases hbe : b = e
    · have q' : H b = some (.own x) := by
        rcases he with z | z
        · exact absurd (hbe.trans z) hb
        · rw [hbe]; exact z
      rw [q] at q'; cases q'
      obtain ⟨v, hv⟩ := heo
      exact ⟨v, by rw [hbe]; exact hv⟩
    · refine (ok b u q).stay (fun c v hc r => k c v ?_ r) (fun c r => by rw [upd_ne (nown c b r)]; exact r) fun c xs r => by rw [upd_ne (ntup c xs r)]; exact r
      rcases hc with rfl | hc
      · exact hbe
      · rintro rfl
        rcases he with z | z
        · exact nown c b hc z
        · rw [hc] at z; cases z; exact hb rfl
end

structure Un (fs ex : List Addr) (H H' : Hp) (h h' : Heap) : Prop where
  keep : ∀ b o, h.get? b = some o → H b = none → b ∉ fs → b ∉ ex → h'.get? b = some o
  slot : ∀ b o, h.get? b = some o → H b = none → b ∈ fs → b ∉ ex → ∃ sl, h'.get? b = some { o with slots := sl }
  free : ∀ b o, h.get? b = some o → H b = none → b ∉ ex → H' b = none
  there : ∀ b o, h.get? b = some o → b ∉ ex → ∃ o', h'.get? b = some o'
  tups : ∀ b xs, H b = some (.tup xs) → H' b = some (.tup xs)
  frzs : ∀ b o u, H b = some (.frz o u) → H' b = some (.frz o u)
  tbls : ∀ b ps, H b = some (.tbl ps) → ∃ more, H' b = some (.tbl (ps ++ more))
section
variable {fs fs' ex ex' : List Addr} {H H1 H2 : Hp} {h h1 h2 h' : Heap} {a x e : Addr} {o : HO}
theorem Un.any (u : Un fs ex H H1 h h1) {b : Addr} {ob : Obj} (q : h.get? b = some ob) (n : H b = none) (hx : b ∉ ex) : ∃ sl, h1.get? b = some { ob with slots := sl } := by
  by_cases hb : b ∈ fs
  · exact u.slot b ob q n hb hx
  · exact ⟨ob.slots, u.keep b ob q n hb hx⟩
theorem Un.trans (a : Un fs ex H H1 h h1) (b : Un fs ex H1 H2 h1 h2) : Un fs ex H H2 h h2 where
  keep := fun c ob q n hc hx => b.keep c ob (a.keep c ob q n hc hx) (a.free c ob q n hx) hc hx
  slot := fun c ob q n hc hx => by
    obtain ⟨sl, e1⟩ := a.slot c ob q n hc hx
    obtain ⟨sl', e2⟩ := b.slot c _ e1 (a.free c ob q n hx) hc hx
    exact ⟨sl', e2⟩
  free := fun c ob q n hx => by
    obtain ⟨o', e1⟩ := a.there c ob q hx
    exact b.free c o' e1 (a.free c ob q n hx) hx
  there := fun c ob q hx => by
    obtain ⟨o', e1⟩ := a.there c ob q hx
    exact b.there c o' e1 hx
  tups := fun c xs q => b.tups c xs (a.tups c xs q)
  frzs := fun c ob xs q => b.frzs c ob xs (a.frzs c ob xs q)
  tbls := fun c ps q => by
    obtain ⟨m1, e1⟩ := a.tbls c ps q
    obtain ⟨m2, e2⟩ := b.tbls c _ e1
    exact ⟨m1 ++ m2, by rw [e2, Array.append_assoc]⟩
theorem Un.kept (k : ∀ b u, h.get? b = some u → h'.get? b = some u) : Un fs ex H H h h' :=
  ⟨fun b ob q _ _ _ => k b ob q, fun b ob q _ _ _ => ⟨ob.slots, k b ob q⟩, fun _ _ _ n _ => n, fun b ob q _ => ⟨ob, k b ob q⟩, fun _ _ q => q, fun _ _ _ q => q, fun _ ps q => ⟨#[], by rw [q]; simp⟩⟩
theorem Un.refl : Un fs ex H H h h := Un.kept fun _ _ q => q
theorem Un.laid (k : ∀ b u, h.get? b = some u → h'.get? b = some u) (hp : h.objs.size ≤ a) (hn : H a = none) : Un fs ex H (upd H a o) h h' where
  keep := fun b u q _ _ _ => k b u q
  slot := fun b u q _ _ _ => ⟨u.slots, k b u q⟩
  free := fun b u q n _ => by rw [upd_ne (Nat.ne_of_lt (Nat.lt_of_lt_of_le (Heap.lt_size q) hp))]; exact n
  there := fun b u q _ => ⟨u, k b u q⟩
  tups := fun b xs q => by rw [upd_ne (ne_of_none q hn)]; exact q
  frzs := fun b u xs q => by rw [upd_ne (ne_of_none q hn)]; exact q
  tbls := fun b ps q => ⟨#[], by rw [upd_ne (ne_of_none q hn), q]; simp⟩
theorem Un.write (mu : Mut (H x)) (he : e = x ∨ H e = some (.own x)) (k : ∀ b u, b ≠ e → h.get? b = some u → h'.get? b = some u) (heo : ∃ u, h'.get? e = some u) : Un fs ex H (upd H x o) h h' := by
  have hx : ∀ b, H b = none → b ≠ x := fun b n z => by subst z; rw [n] at mu; exact mu
  have hb : ∀ b, H b = none → b ≠ e := fun b n z => by
    subst z
    rcases he with r | r
    · exact hx b n r
    · rw [n] at r; cases r
  have hm : ∀ b u, H b = some u → ¬ Mut (some u) → b ≠ x := fun b u q nm z => by subst z; rw [q] at mu; exact nm mu
  refine ⟨fun b u q n _ _ => k b u (hb b n) q, fun b u q n _ _ => ⟨u.slots, k b u (hb b n) q⟩, fun b u q n _ => by rw [upd_ne (hx b n)]; exact n, fun b u q _ => ?_,
    fun b xs q => by rw [upd_ne (hm b _ q fun z => z)]; exact q, fun b u xs q => by rw [upd_ne (hm b _ q fun z => z)]; exact q, fun b ps q => ⟨#[], by rw [upd_ne (hm b _ q fun z => z), q]; simp⟩⟩
  by_cases hbe : b = e
  · subst hbe; exact heo
  · exact ⟨u, k b u hbe q⟩
theorem Un.mono (u : Un fs ex H H1 h h1) (hs : ∀ b ∈ fs, b ∈ fs') (hx : ∀ b ∈ ex, b ∈ ex') : Un fs' ex' H H1 h h1 :=
  ⟨fun b ob q n hb he => u.keep b ob q n (fun z => hb (hs b z)) fun z => he (hx b z), fun _ _ q n _ he => u.any q n fun z => he (hx _ z), fun b ob q n he => u.free b ob q n fun z => he (hx b z), fun b ob q he => u.there b ob q fun z => he (hx b z), u.tups, u.frzs, u.tbls⟩
end

def trk (h : Heap) (H : Hp) : List Addr := (List.range h.objs.size).filter fun a => (H a).isSome
def hidT (h : Heap) (H : Hp) : Heap := PySem.W.hideAll h (trk h H)
theorem hidT_size (h : Heap) (H : Hp) : (hidT h H).objs.size = h.objs.size := PySem.W.hideAll_size _ _
theorem hidT_get {h : Heap} {H : Hp} {b : Addr} {o : Obj} (e : h.get? b = some o) (n : H b = none) : (hidT h H).get? b = some o :=
  PySem.W.hideAll_get _ e fun hm => by
    have q : (H b).isSome = true := (List.mem_filter.mp hm).2
    rw [n] at q; simp at q
theorem of_hidT {h : Heap} {H : Hp} {b : Addr} {o : Obj} (e : (hidT h H).get? b = some o) : h.get? b = some o ∧ H b = none := by
  have e' : h.get? b = some o := PySem.W.of_hideAll (trk h H) e
  refine ⟨e', ?_⟩
  cases q : H b with
  | none => rfl
  | some x =>
    have hm : b ∈ trk h H := List.mem_filter.mpr ⟨List.mem_range.mpr (Heap.lt_size e'), by simp [q]⟩
    have z : (hidT h H).get? b = none := PySem.W.hideAll_none (trk h H) hm
    rw [z] at e; cases e

def allNews (g h : Heap) (L : Addr) : List (Addr × Obj) := (List.range h.objs.size).filterMap fun a => if a = L ∨ (g.get? a).isSome = true then none else (h.get? a).map fun o => (a, o)
def rest (g h : Heap) (L d : Addr) : List (Addr × Obj) := (allNews g h L).filter fun p => decide (p.1 ≠ d)
end L2

namespace L2
open PySem PySem.Spec PyProof.Rows

structure Mod (K : PySem.W.Frag) (mg : Str → Option Value) (base : Heap) : Prop where
  kin : K.In base
  glob : base.Ns mainGlobals mg
  blt : ∃ mb, base.Ns builtinsNs mb ∧ ∀ x : Str, x ≠ "__name__" → mb x = bootBuiltins x
  nolimit : base.NoLimit
  mods : ∃ mm, base.Ns sysModules mm

structure Cx where
  prog : Program
  w : World
  K : PySem.W.Frag
  mg : Str → Option Value
  base : Heap
  A : Around
  N : List Str
  s₀ : Shared
  H₀ : Hp
  env : Env
  outer : List Env
  stack : List Env
  ex : List Addr
  fn : Str → Bool
  calm : Bool
  pn : List (Addr × Obj)
  xe : Value → Shared → Prop
def frs (l : List Env) : List Addr := l.filterMap (·.frame)
abbrev Cx.fs (X : Cx) : List Addr := frs X.outer

def Vis (sc : Scope) (x : Str) : Prop := sc.names.lookup x = some .local ∨ sc.names.lookup x = some .cell ∨ sc.names.lookup x = some .free
def Loc (sc : Scope) (x : Str) : Prop := sc.names.lookup x = some .local ∨ sc.names.lookup x = some .cell
def Look (env : Env) (h : Heap) (m : Str → Option Value) (x : Str) (u : Value) : Prop :=
  (env.kindOf x = some .local ∧ m x = some u) ∨ ((env.kindOf x = some .cell ∨ env.kindOf x = some .free) ∧ ∃ c, env.cells.lookup x = some c ∧ h.IsCell c (some u))

structure Cx.Ok (X : Cx) : Prop where
  mod : Mod X.K X.mg X.base
  kind : X.env.scope.kind = .function
  glob : X.env.globals = mainGlobals
  blt : X.env.builtins = builtinsNs
  above : X.s₀.heap.objs.size ≤ X.env.locals
  inj : ∀ x y c, X.env.cells.lookup x = some c → X.env.cells.lookup y = some c → x = y
  has : ∀ x, (X.env.kindOf x = some .cell ∨ X.env.kindOf x = some .free) → ∃ c, X.env.cells.lookup x = some c
  cab : ∀ x c, X.fn x = true → X.env.cells.lookup x = some c → X.s₀.heap.objs.size ≤ c
  hd : X.calm = true → X.A.handled = none
  frames : X.A.frames = some X.stack
  stk : X.stack = X.outer ∨ (X.stack = X.env :: X.outer ∧ X.env.frame = some X.env.locals)
  exf : ∀ b ∈ X.ex, b ≠ X.env.locals ∧ ∀ x c, X.env.cells.lookup x = some c → c ≠ b
  bs : ∀ b o, X.base.get? b = some o → X.s₀.heap.get? b = some o ∧ X.H₀ b = none
  bsz : X.base.objs.size ≤ X.s₀.heap.objs.size
  noex : ∀ b o, X.base.get? b = some o → b ∉ X.ex
  exfs : ∀ b ∈ X.ex, b ∉ X.fs
  funs : X.s₀.heap.FunFrames X.base X.outer
  frf : ∀ b ∈ X.fs, X.H₀ b = none

structure Inv (X : Cx) (pins : List (Addr × Obj)) (σ : List (Option V)) (H : Hp) (s : Shared) : Prop where
  ok : X.Ok
  os : s.os = X.s₀.os
  bare : AllBare s.gens
  base : Un X.fs X.ex X.H₀ H X.s₀.heap s.heap
  loc : ∃ m, s.heap.Ns X.env.locals m ∧ ∀ (i : Nat) (x : Str) (v : V), X.N[i]? = some x → σ[i]? = some (some v) → Vis X.env.scope x → ∃ u, RelV v u ∧ Look X.env s.heap m x u
  cell : ∀ x c, X.env.cells.lookup x = some c → ∃ v, s.heap.IsCell c v
  free : H X.env.locals = none
  freeC : ∀ x c, X.env.cells.lookup x = some c → H c = none
  pin : ∀ p ∈ X.pn ++ pins, s.heap.get? p.1 = some p.2 ∧ H p.1 = none ∧ p.1 ≠ X.env.locals ∧ p.1 ∉ X.fs ∧ ∀ v, p.2.data ≠ .cell v
  hok : HOk X.prog X.w H s.heap
  len : σ.length = X.N.length

section
variable {X : Cx} {pins : List (Addr × Obj)} {σ : List (Option V)} {H H' : Hp} {s : Shared} {h' : Heap}

theorem Cx.Ok.nofr (ok : X.Ok) {b : Addr} {o : Obj} (e : X.base.get? b = some o) : b ∉ X.fs := fun hb => by
  have := (ok.funs.mem hb).1
  rw [e] at this; cases this
theorem Inv.bs (I : Inv X pins σ H s) : ∀ b o, X.base.get? b = some o → s.heap.get? b = some o ∧ H b = none := fun b o e =>
  ⟨I.base.keep b o (I.ok.bs b o e).1 (I.ok.bs b o e).2 (I.ok.nofr e) (I.ok.noex b o e), I.base.free b o (I.ok.bs b o e).1 (I.ok.bs b o e).2 (I.ok.noex b o e)⟩
theorem Inv.bk (I : Inv X pins σ H s) : ∀ b o, X.base.get? b = some o → s.heap.get? b = some o := fun b o e => (I.bs b o e).1
theorem Inv.mod (I : Inv X pins σ H s) : Mod X.K X.mg X.base := I.ok.mod
theorem Inv.kIn (I : Inv X pins σ H s) : X.K.In s.heap := I.ok.mod.kin.keeps I.bk
theorem Inv.nolimit (I : Inv X pins σ H s) : s.heap.NoLimit := I.ok.mod.nolimit.keeps I.bk
theorem Inv.fr (I : Inv X pins σ H s) : ∃ m, Fr X.base X.env.locals s.heap m :=
  let ⟨m, hn, _⟩ := I.loc
  ⟨m, hn, I.bk, Nat.le_trans I.ok.bsz I.ok.above⟩
theorem Inv.lt (I : Inv X pins σ H s) : X.env.locals < s.heap.objs.size := let ⟨_, hn, _⟩ := I.loc; hn.lt
theorem Inv.sz (I : Inv X pins σ H s) : X.s₀.heap.objs.size ≤ s.heap.objs.size := Nat.le_trans I.ok.above (Nat.le_of_lt I.lt)
theorem Inv.nofs (I : Inv X pins σ H s) {a : Addr} (h : s.heap.objs.size ≤ a) : a ∉ X.fs := fun hb => by
  obtain ⟨_, o, ho, _⟩ := I.ok.funs.mem hb
  exact absurd (Nat.lt_of_lt_of_le (Heap.lt_size ho) (Nat.le_trans I.sz h)) (Nat.lt_irrefl _)
theorem Inv.cne (I : Inv X pins σ H s) : ∀ x c, X.env.cells.lookup x = some c → c ≠ X.env.locals := fun x c e z => by
  obtain ⟨v, o, ho, hd⟩ := I.cell x c e
  obtain ⟨m, ⟨o', es, ep, ho', hd', _⟩, _⟩ := I.loc
  rw [z, ho'] at ho; cases ho; rw [hd'] at hd; cases hd
theorem Inv.funs (I : Inv X pins σ H s) : s.heap.FunFrames X.base X.outer := by
  have all : ∀ (l : List Env), (∀ b ∈ frs l, b ∈ X.fs) → X.s₀.heap.FunFrames X.base l → s.heap.FunFrames X.base l := by
    intro l
    induction l with
    | nil => intro _ _; trivial
    | cons env r ih =>
      intro hs hl
      obtain ⟨hk, ⟨L, o, hf, hn, ho, hd⟩, hr⟩ := hl
      have hL : L ∈ X.fs := hs L (by unfold frs; rw [List.filterMap_cons, hf]; exact List.mem_cons_self)
      obtain ⟨sl, e⟩ := I.base.slot L o ho (I.ok.frf L hL) hL fun z => I.ok.exfs L z hL
      exact ⟨hk, ⟨L, _, hf, hn, e, hd⟩, ih (fun b hb => hs b (by unfold frs; rw [List.filterMap_cons, hf]; exact List.mem_cons_of_mem _ hb)) hr⟩
  exact all X.outer (fun _ hb => hb) I.ok.funs

theorem Inv.stack (I : Inv X pins σ H s) : s.heap.FunFrames X.base X.stack := by
  rcases I.ok.stk with e | ⟨e, hf⟩
  · rw [e]; exact I.funs
  · rw [e]
    obtain ⟨m, hn, _⟩ := I.loc
    refine .cons (by rw [I.ok.kind]; decide) hf hn ?_ I.funs
    exact Heap.get?_none_of_le (Nat.le_trans I.ok.bsz I.ok.above)
theorem Inv.stkSub (I : Inv X pins σ H s) : ∀ b ∈ frs X.stack, b ∈ X.env.locals :: X.fs := fun b hb => by
  rcases I.ok.stk with e | ⟨e, hf⟩
  · rw [e] at hb; exact List.mem_cons_of_mem _ hb
  · rw [e] at hb
    unfold frs at hb
    rw [List.filterMap_cons, hf] at hb
    exact hb
theorem Inv.stkFree (I : Inv X pins σ H s) : ∀ b ∈ frs X.stack, H b = none := fun b hb => by
  rcases List.mem_cons.mp (I.stkSub b hb) with e | hb
  · rw [e]; exact I.free
  · obtain ⟨_, o, ho, _⟩ := I.ok.funs.mem hb
    exact I.base.free b o ho (I.ok.frf b hb) fun z => I.ok.exfs b z hb

theorem Inv.step {g' : Array GenState} {t' : Nat} {d' : Drawn} {ch : List Addr} (I : Inv X pins σ H s)
    (hch : ∀ b ∈ ch, (b ∈ X.ex ∨ X.s₀.heap.objs.size ≤ b) ∧ b ≠ X.env.locals ∧ (∀ x c, X.env.cells.lookup x = some c → c ≠ b) ∧ ∀ p ∈ X.pn ++ pins, p.1 ≠ b)
    (keep : ∀ b o, b ≠ X.env.locals → b ∉ X.fs → b ∉ ch → s.heap.get? b = some o → H b = none → h'.get? b = some o)
    (slot : ∀ b o, b ≠ X.env.locals → b ∈ X.fs → b ∉ ch → s.heap.get? b = some o → H b = none → ∃ sl, h'.get? b = some { o with slots := sl }) (free : ∀ b o, b ∉ ch → s.heap.get? b = some o → H b = none → H' b = none)
    (there : ∀ b o, b ∉ ch → s.heap.get? b = some o → ∃ o', h'.get? b = some o')
    (tups : ∀ b xs, H b = some (.tup xs) → H' b = some (.tup xs)) (frzs : ∀ b o u, H b = some (.frz o u) → H' b = some (.frz o u)) (tbls : ∀ b ps, H b = some (.tbl ps) → ∃ more, H' b = some (.tbl (ps ++ more)))
    (ns : ∀ m, s.heap.Ns X.env.locals m → h'.Ns X.env.locals m) (hok : HOk X.prog X.w H' h') (hg : AllBare g') :
    Inv X pins σ H' { s with heap := h', gens := g', drawn := d', toks := t' } := by
  have neL : ∀ b o, X.s₀.heap.get? b = some o → b ≠ X.env.locals := fun b o e => Nat.ne_of_lt (Nat.lt_of_lt_of_le (Heap.lt_size e) I.ok.above)
  have neC : ∀ b o, X.s₀.heap.get? b = some o → b ∉ X.ex → b ∉ ch := fun b o e hx hb => by
    rcases (hch b hb).1 with z | z
    · exact hx z
    · exact absurd (Nat.lt_of_lt_of_le (Heap.lt_size e) z) (Nat.lt_irrefl _)
  have cellK : ∀ x c, X.env.cells.lookup x = some c → ∀ v, s.heap.IsCell c v → h'.IsCell c v := fun x c e v ⟨o, ho, hd⟩ => by
    have nch : c ∉ ch := fun z => (hch c z).2.2.1 x c e rfl
    by_cases hc : c ∈ X.fs
    · obtain ⟨sl, q⟩ := slot c o (I.cne x c e) hc nch ho (I.freeC x c e)
      exact ⟨_, q, hd⟩
    · exact ⟨o, keep c o (I.cne x c e) hc nch ho (I.freeC x c e), hd⟩
  refine ⟨I.ok, I.os, hg, ⟨fun b o e n hb hx => ?_, fun b o e n hb hx => ?_, fun b o e n hx => ?_, fun b o e hx => ?_, fun b xs e => tups b xs (I.base.tups b xs e), fun b o xs e => frzs b o xs (I.base.frzs b o xs e), fun b ps e => ?_⟩, ?_, fun x c e => ?_, ?_, fun x c e => ?_, fun p hp => ?_, hok, I.len⟩
  · exact keep b o (neL b o e) hb (neC b o e hx) (I.base.keep b o e n hb hx) (I.base.free b o e n hx)
  · obtain ⟨sl, e1⟩ := I.base.slot b o e n hb hx
    obtain ⟨sl', e2⟩ := slot b _ (neL b o e) hb (neC b o e hx) e1 (I.base.free b o e n hx)
    exact ⟨sl', e2⟩
  · obtain ⟨o', e1⟩ := I.base.there b o e hx
    exact free b o' (neC b o e hx) e1 (I.base.free b o e n hx)
  · obtain ⟨o', e1⟩ := I.base.there b o e hx
    exact there b o' (neC b o e hx) e1
  · obtain ⟨m1, e1⟩ := I.base.tbls b ps e
    obtain ⟨m2, e2⟩ := tbls b _ e1
    exact ⟨m1 ++ m2, by rw [e2, Array.append_assoc]⟩
  · obtain ⟨m, hn, hl⟩ := I.loc
    refine ⟨m, ns m hn, fun i x v e1 e2 e3 => ?_⟩
    obtain ⟨u, r, l⟩ := hl i x v e1 e2 e3
    refine ⟨u, r, ?_⟩
    rcases l with l | ⟨k, c, e, z⟩
    · exact .inl l
    · exact .inr ⟨k, c, e, cellK x c e _ z⟩
  · obtain ⟨v, z⟩ := I.cell x c e
    exact ⟨v, cellK x c e v z⟩
  · obtain ⟨m, ⟨o, _, _, ho, _⟩, _⟩ := I.loc
    exact free _ o (fun z => (hch _ z).2.1 rfl) ho I.free
  · obtain ⟨v, o, ho, hd⟩ := I.cell x c e
    exact free c o (fun z => (hch c z).2.2.1 x c e rfl) ho (I.freeC x c e)
  · obtain ⟨e, n, ne, nf, d⟩ := I.pin p hp
    have nch : p.1 ∉ ch := fun z => (hch p.1 z).2.2.2 p hp rfl
    exact ⟨keep p.1 p.2 ne nf nch e n, free p.1 p.2 nch e n, ne, nf, d⟩
theorem Inv.un {t' : Nat} (I : Inv X pins σ H s) (u : Un X.fs [] H H' s.heap h') (hok : HOk X.prog X.w H' h') : Inv X pins σ H' { s with heap := h', toks := t' } := by
  obtain ⟨m, ⟨o, es, ep, ho, r⟩, _⟩ := id I.loc
  obtain ⟨sl, hL⟩ := u.any ho I.free (by simp)
  exact I.step (g' := s.gens) (d' := s.drawn) (ch := []) (fun _ z => nomatch z) (fun b o _ hb _ e n => u.keep b o e n hb (by simp)) (fun b o _ hb _ e n => u.slot b o e n hb (by simp)) (fun b o _ e n => u.free b o e n (by simp)) (fun b o _ e => u.there b o e (by simp)) u.tups u.frzs u.tbls (fun m' hm => by
    obtain ⟨o', es', ep', ho', r'⟩ := hm
    rw [ho] at ho'; cases ho'
    exact ⟨_, es', ep', hL, r'⟩) hok I.bare
theorem Inv.call {g' : Array GenState} {t' : Nat} {d' : Drawn} {ch : List Addr} (I : Inv X pins σ H s) (u : Un (frs X.stack) ch H H' s.heap h') (hok : HOk X.prog X.w H' h') (hg : AllBare g')
    (hch : ∀ b ∈ ch, (b ∈ X.ex ∨ X.s₀.heap.objs.size ≤ b) ∧ b ≠ X.env.locals ∧ (∀ x c, X.env.cells.lookup x = some c → c ≠ b) ∧ ∀ p ∈ X.pn ++ pins, p.1 ≠ b) :
    Inv X pins σ H' { s with heap := h', gens := g', drawn := d', toks := t' } := by
  obtain ⟨m, ⟨o, es, ep, ho, r⟩, _⟩ := id I.loc
  obtain ⟨sl, hL⟩ := u.any ho I.free fun z => (hch _ z).2.1 rfl
  exact I.step (ch := ch) hch (fun b o hL hb hc e n => u.keep b o e n (fun z => (List.mem_cons.mp (I.stkSub b z)).elim hL hb) hc) (fun b o _ _ hc e n => u.any e n hc) (fun b o hc e n => u.free b o e n hc) (fun b o hc e => u.there b o e hc) u.tups u.frzs u.tbls (fun m' hm => by
    obtain ⟨o', es', ep', ho', r'⟩ := hm
    rw [ho] at ho'; cases ho'
    exact ⟨_, es', ep', hL, r'⟩) hok hg
theorem Inv.turned {t' : Nat} {it : Addr} (I : Inv X pins σ H s) (k : ∀ b o, b ≠ it → s.heap.get? b = some o → h'.get? b = some o) (hn : H it = none) (hL : it ≠ X.env.locals)
    (h1 : it ∈ X.ex ∨ X.s₀.heap.objs.size ≤ it) (h2 : ∀ x c, X.env.cells.lookup x = some c → c ≠ it) (h3 : ∀ p ∈ X.pn ++ pins, p.1 ≠ it) : Inv X pins σ H { s with heap := h', toks := t' } := by
  have nit : ∀ b u, H b = some u → b ≠ it := fun b u e z => by rw [z, hn] at e; cases e
  refine I.step (g' := s.gens) (d' := s.drawn) (ch := [it]) (fun b hb => ?_) (fun b o _ _ hc e _ => k b o (fun z => hc (by simp [z])) e) (fun b o _ _ hc e _ => ⟨o.slots, k b o (fun z => hc (by simp [z])) e⟩) (fun _ _ _ _ n => n)
    (fun b o hc e => ⟨o, k b o (fun z => hc (by simp [z])) e⟩) (fun _ _ e => e) (fun _ _ _ e => e) (fun b ps e => ⟨#[], by rw [e]; simp⟩) (fun m hm => ?_) (fun b u e => ?_) I.bare
  · have e : b = it := by simpa using hb
    subst e
    exact ⟨h1, hL, h2, h3⟩
  · obtain ⟨o, es, ep, ho, r⟩ := hm
    exact ⟨o, es, ep, k _ o (Ne.symm hL) ho, r⟩
  · refine (I.hok b u e).stay (fun c v hc q => k c v ?_ q) (fun _ q => q) fun _ _ q => q
    rcases hc with z | z
    · rw [z]; exact nit b u e
    · exact nit c _ z
theorem Inv.tok (I : Inv X pins σ H s) (t : Nat) : Inv X pins σ H { s with toks := t } := I.un (h' := s.heap) (t' := t) Un.refl I.hok
theorem Inv.kept {t' : Nat} (I : Inv X pins σ H s) (k : ∀ b u, s.heap.get? b = some u → h'.get? b = some u) : Inv X pins σ H { s with heap := h', toks := t' } := I.un (Un.kept k) (I.hok.kept k)
theorem Inv.laid {a : Addr} {o : HO} {t' : Nat} (I : Inv X pins σ H s) (k : ∀ b u, s.heap.get? b = some u → h'.get? b = some u) (hp : s.heap.objs.size ≤ a) (new : ObjOk X.prog X.w (upd H a o) h' a o) :
    Inv X pins σ (upd H a o) { s with heap := h', toks := t' } := I.un (Un.laid k hp (I.hok.fresh hp)) (I.hok.laid k hp new)
theorem Inv.write {x e : Addr} {o : HO} {t' : Nat} (I : Inv X pins σ H s) (mu : Mut (H x)) (he : e = x ∨ H e = some (.own x)) (k : ∀ b u, b ≠ e → s.heap.get? b = some u → h'.get? b = some u) (heo : ∃ u, h'.get? e = some u)
    (new : ObjOk X.prog X.w (upd H x o) h' x o) : Inv X pins σ (upd H x o) { s with heap := h', toks := t' } := I.un (Un.write mu he k heo) (I.hok.write mu he k heo new)
theorem Inv.weak {σ' : List (Option V)} (I : Inv X pins σ H s) (hl : σ'.length = σ.length) (w : ∀ (i : Nat) v, σ'[i]? = some (some v) → σ[i]? = some (some v)) : Inv X pins σ' H s :=
  ⟨I.ok, I.os, I.bare, I.base, let ⟨m, hn, hl'⟩ := I.loc; ⟨m, hn, fun i x v e1 e2 e3 => hl' i x v e1 (w i v e2) e3⟩, I.cell, I.free, I.freeC, I.pin, I.hok, hl.trans I.len⟩
theorem Inv.pins_of {pins' : List (Addr × Obj)} (I : Inv X pins σ H s) (h : ∀ p ∈ pins', s.heap.get? p.1 = some p.2 ∧ H p.1 = none ∧ p.1 ≠ X.env.locals ∧ p.1 ∉ X.fs ∧ ∀ v, p.2.data ≠ .cell v) : Inv X pins' σ H s :=
  ⟨I.ok, I.os, I.bare, I.base, I.loc, I.cell, I.free, I.freeC, fun p hp => (List.mem_append.mp hp).elim (fun z => I.pin p (List.mem_append_left _ z)) (h p), I.hok, I.len⟩

theorem nodup_ix {N : List Str} (hN : N.Nodup) {i j : Nat} {x : Str} (a : N[i]? = some x) (b : N[j]? = some x) : i = j := by
  obtain ⟨h1, e1⟩ := List.getElem?_eq_some_iff.mp a
  obtain ⟨h2, e2⟩ := List.getElem?_eq_some_iff.mp b
  exact (List.getElem_inj hN).mp (e1.trans e2.symm)

theorem store_ok2 {M : Model} {A : Around} {E : Value → Shared → Prop} {i : Nat} {x : Str} {v : V} {u : Value} {Q : Unit → Shared → Prop} (I : Inv X pins σ H s) (hN : X.N.Nodup) (hi : X.N[i]? = some x) (hx : Loc X.env.scope x) (r : RelV v u)
    (h : ∀ s', Inv X pins (σ.set i (some v)) H s' → (∃ a, Heap.SameBut a s.heap s'.heap ∧ (a = X.env.locals ∨ X.env.cells.lookup x = some a)) → Q () s') (hf : X.fn x = true ∨ X.env.scope.names.lookup x = some .local := by first | exact .inl rfl | exact .inr rfl | assumption) : wpAny M A (storeName X.env x u) Q E s := by
  obtain ⟨m, hn, hl⟩ := id I.loc
  have hcls : (X.env.scope.kind == .class || (X.env.scope.kind == .module && X.env.locals != X.env.globals)) = false := by rw [I.ok.kind]; rfl
  have hiσ : i < σ.length := by rw [I.len]; exact (List.getElem?_eq_some_iff.mp hi).1
  have cne := I.cne
  have tracked : ∀ {a : Addr} {h' : Heap}, (∃ o, s.heap.get? a = some o ∧ H a = none) → Heap.SameBut a s.heap h' → HOk X.prog X.w H h' := fun {a h'} ha hs b ob e => by
    obtain ⟨_, _, hfree⟩ := ha
    refine (I.hok b ob e).stay (fun c w' hc q => (hs.2 c ?_).trans q) (fun _ q => q) fun _ _ q => q
    rintro rfl
    rcases hc with rfl | hc
    · rw [hfree] at e; cases e
    · rw [hfree] at hc; cases hc
  rcases hx with hk | hk
  · refine wpAny_storeName_local hk hn (fun h' hn' hs => ?_) hcls
    obtain ⟨oL, _, _, hoL, _⟩ := id hn
    refine h _ ⟨I.ok, I.os, I.bare, ⟨fun b o e n hb hx => ?_, fun b o e n hb hx => ?_, I.base.free, fun b o e hx => ?_, I.base.tups, I.base.frzs, I.base.tbls⟩, ⟨_, hn', fun j y v' e1 e2 e3 => ?_⟩, fun y c e => ?_, I.free, I.freeC, fun p hp => ?_, tracked ⟨oL, hoL, I.free⟩ hs, by simpa using I.len⟩ ⟨_, hs, .inl rfl⟩
    · exact (hs.2 b (Nat.ne_of_lt (Nat.lt_of_lt_of_le (Heap.lt_size e) I.ok.above))).trans (I.base.keep b o e n hb hx)
    · obtain ⟨sl, e1⟩ := I.base.slot b o e n hb hx
      exact ⟨sl, (hs.2 b (Nat.ne_of_lt (Nat.lt_of_lt_of_le (Heap.lt_size e) I.ok.above))).trans e1⟩
    · obtain ⟨o', e1⟩ := I.base.there b o e hx
      exact ⟨o', (hs.2 b (Nat.ne_of_lt (Nat.lt_of_lt_of_le (Heap.lt_size e) I.ok.above))).trans e1⟩
    · by_cases hj : j = i
      · subst hj
        rw [hi] at e1; cases e1
        rw [List.getElem?_set_self hiσ] at e2
        cases e2
        exact ⟨u, r, .inl ⟨hk, by simp⟩⟩
      · rw [List.getElem?_set_ne (Ne.symm hj)] at e2
        obtain ⟨u', r', q⟩ := hl j y v' e1 e2 e3
        refine ⟨u', r', ?_⟩
        rcases q with ⟨k, e⟩ | ⟨k, c, e, z⟩
        · refine .inl ⟨k, ?_⟩
          have : y ≠ x := fun e => hj (nodup_ix hN e1 (e ▸ hi))
          simp [this, e]
        · exact .inr ⟨k, c, e, z.sameBut hs (cne y c e)⟩
    · obtain ⟨w', z⟩ := I.cell y c e
      exact ⟨w', z.sameBut hs (cne y c e)⟩
    · obtain ⟨e, n, ne, nf, d⟩ := I.pin p hp
      exact ⟨(hs.2 p.1 ne).trans e, n, ne, nf, d⟩
  · have hfn : X.fn x = true := by
      rcases hf with z | z
      · exact z
      · rw [z] at hk; cases hk
    obtain ⟨c, hc⟩ := I.ok.has x (.inl hk)
    obtain ⟨w', z⟩ := I.cell x c hc
    refine wpAny_storeName_cell I.ok.kind hk hc z (fun h' hc' hs => ?_)
    obtain ⟨oc, hoc, hocd⟩ := id z
    refine h { s with heap := h' } ⟨I.ok, I.os, I.bare, ⟨fun b o e n hb hx => ?_, fun b o e n hb hx => ?_, I.base.free, fun b o e hx => ?_, I.base.tups, I.base.frzs, I.base.tbls⟩, ⟨m, hn.sameBut hs (Ne.symm (cne x c hc)), fun j y v' e1 e2 e3 => ?_⟩, fun y c' e => ?_, I.free, I.freeC, fun p hp => ?_, tracked ⟨oc, hoc, I.freeC x c hc⟩ hs, by simpa using I.len⟩ ⟨c, hs, .inr hc⟩
    · exact (hs.2 b (Nat.ne_of_lt (Nat.lt_of_lt_of_le (Heap.lt_size e) (I.ok.cab x c hfn hc)))).trans (I.base.keep b o e n hb hx)
    · obtain ⟨sl, e1⟩ := I.base.slot b o e n hb hx
      exact ⟨sl, (hs.2 b (Nat.ne_of_lt (Nat.lt_of_lt_of_le (Heap.lt_size e) (I.ok.cab x c hfn hc)))).trans e1⟩
    · obtain ⟨o', e1⟩ := I.base.there b o e hx
      exact ⟨o', (hs.2 b (Nat.ne_of_lt (Nat.lt_of_lt_of_le (Heap.lt_size e) (I.ok.cab x c hfn hc)))).trans e1⟩
    · by_cases hj : j = i
      · subst hj
        rw [hi] at e1; cases e1
        rw [List.getElem?_set_self hiσ] at e2
        cases e2
        exact ⟨u, r, .inr ⟨.inl hk, c, hc, hc'⟩⟩
      · rw [List.getElem?_set_ne (Ne.symm hj)] at e2
        obtain ⟨u', r', q⟩ := hl j y v' e1 e2 e3
        refine ⟨u', r', ?_⟩
        rcases q with q | ⟨k, c', e, z'⟩
        · exact .inl q
        · refine .inr ⟨k, c', e, z'.sameBut hs ?_⟩
          rintro rfl
          exact hj (nodup_ix hN e1 (I.ok.inj _ _ _ e hc ▸ hi))
    · by_cases hcc : c' = c
      · subst hcc; exact ⟨_, hc'⟩
      · obtain ⟨w2, z2⟩ := I.cell y c' e
        exact ⟨w2, z2.sameBut hs hcc⟩
    · obtain ⟨e, n, ne, nf, d⟩ := I.pin p hp
      refine ⟨(hs.2 p.1 ?_).trans e, n, ne, nf, d⟩
      intro q
      rw [q, hoc] at e
      have q' : oc = p.2 := Option.some.inj e
      exact d w' (by rw [← q']; exact hocd)
theorem store_ok {M : Model} {A : Around} {E : Value → Shared → Prop} {i : Nat} {x : Str} {v : V} {u : Value} {Q : Unit → Shared → Prop} (I : Inv X pins σ H s) (hN : X.N.Nodup) (hi : X.N[i]? = some x) (hx : Loc X.env.scope x) (r : RelV v u)
    (h : ∀ s', Inv X pins (σ.set i (some v)) H s' → Q () s') (hf : X.fn x = true ∨ X.env.scope.names.lookup x = some .local := by first | exact .inl rfl | exact .inr rfl | assumption) : wpAny M A (storeName X.env x u) Q E s :=
  store_ok2 I hN hi hx r (fun s' I' _ => h s' I') hf
theorem Inv.call' {s' : Shared} {ch : List Addr} (I : Inv X pins σ H s) (ho : s'.os = s.os) (u : Un (frs X.stack) ch H H' s.heap s'.heap) (hok : HOk X.prog X.w H' s'.heap) (hg : AllBare s'.gens)
    (hch : ∀ b ∈ ch, (b ∈ X.ex ∨ X.s₀.heap.objs.size ≤ b) ∧ b ≠ X.env.locals ∧ (∀ x c, X.env.cells.lookup x = some c → c ≠ b) ∧ ∀ p ∈ X.pn ++ pins, p.1 ≠ b) : Inv X pins σ H' s' := by
  obtain ⟨h', g', d', t', o'⟩ := s'
  have e : o' = s.os := ho
  subst e
  exact I.call (g' := g') (t' := t') (d' := d') u hok hg hch
end

abbrev XK := Value → Option Addr → Hp → Prop
abbrev St := List (Option V)
abbrev VK := V → Hp → Prop
abbrev TE := St → Hp → VK → Prop
abbrev TT := St → Hp → (Bool → Hp → Prop) → Prop
abbrev TA := St → Hp → (List V → Hp → Prop) → Prop
structure Ends where
  nx : St → Hp → Prop
  rt : VK
  bk : St → Hp → Prop := fun _ _ => False
  ct : St → Hp → Prop := fun _ _ => False
abbrev TS := Ends → St → Hp → Prop

def EP (X : Cx) (pins : List (Addr × Obj)) (σ : St) (Q : VK) (u : Value) (s' : Shared) : Prop := ∃ v H', Inv X pins σ H' s' ∧ RelV v u ∧ Q v H'
def TP (X : Cx) (pins : List (Addr × Obj)) (σ : St) (Q : Bool → Hp → Prop) (b : Bool) (s' : Shared) : Prop := ∃ H', Inv X pins σ H' s' ∧ Q b H'
def AP (X : Cx) (pins : List (Addr × Obj)) (σ : St) (Q : List V → Hp → Prop) (us : List Value) (s' : Shared) : Prop := ∃ vs H', Inv X pins σ H' s' ∧ Vals vs us ∧ Q vs H'
def SP (X : Cx) (pins : List (Addr × Obj)) (D : Ends) (f : Flow) (s' : Shared) : Prop :=
  match f with
  | .next => ∃ σ' H', Inv X pins σ' H' s' ∧ D.nx σ' H'
  | .brk => ∃ σ' H', Inv X pins σ' H' s' ∧ D.bk σ' H'
  | .cont => ∃ σ' H', Inv X pins σ' H' s' ∧ D.ct σ' H'
  | .ret u => ∃ v σ' H', Inv X pins σ' H' s' ∧ RelV v u ∧ D.rt v H'

def PE (X : Cx) (e : Expr) (t : TE) : Prop :=
  ∀ (pins : List (Addr × Obj)) (s : Shared) (σ : St) (H : Hp) (Q : VK), Inv X pins σ H s → t σ H Q → wpAny (model X.prog X.w) X.A (eval e X.env) (EP X pins σ Q) X.xe s
def PT (X : Cx) (e : Expr) (t : TT) : Prop :=
  ∀ (pins : List (Addr × Obj)) (s : Shared) (σ : St) (H : Hp) (Q : Bool → Hp → Prop), Inv X pins σ H s → t σ H Q → wpAny (model X.prog X.w) X.A (isTrue e X.env (eval e X.env)) (TP X pins σ Q) X.xe s
def PW (X : Cx) (e : Expr) (t : TT) : Prop :=
  ∀ (whole : Sem Value) (pins : List (Addr × Obj)) (s : Shared) (σ : St) (H : Hp) (Q : Bool → Hp → Prop), Inv X pins σ H s → t σ H Q → wpAny (model X.prog X.w) X.A (isTrue e X.env whole) (TP X pins σ Q) X.xe s
theorem PW.pt {X : Cx} {e : Expr} {t : TT} (h : PW X e t) : PT X e t := h _
def PA (X : Cx) (es : List Expr) (t : TA) : Prop :=
  ∀ (pos : Pos) (pins : List (Addr × Obj)) (s : Shared) (σ : St) (H : Hp) (Q : List V → Hp → Prop), Inv X pins σ H s → t σ H Q → wpAny (model X.prog X.w) X.A (spliced (backTo pos (starEach es X.env))) (AP X pins σ Q) X.xe s
def PS (X : Cx) (st : Stmt) (t : TS) : Prop :=
  ∀ (pins : List (Addr × Obj)) (s : Shared) (σ : St) (H : Hp) (D : Ends), Inv X pins σ H s → t D σ H → wpAny (model X.prog X.w) X.A (exec st X.env) (SP X pins D) X.xe s
def PSs (X : Cx) (st : List Stmt) (t : TS) : Prop :=
  ∀ (pins : List (Addr × Obj)) (s : Shared) (σ : St) (H : Hp) (D : Ends), Inv X pins σ H s → t D σ H → wpAny (model X.prog X.w) X.A (execs st X.env) (SP X pins D) X.xe s
theorem thn {α : Type} {t : Sem α} {Q Q' : α → Shared → Prop} {M : Model} {A : Around} {E : Value → Shared → Prop} {s : Shared} (h : wpAny M A t Q E s) (hQ : ∀ a s, Q a s → Q' a s) : wpAny M A t Q' E s := wpAny_mono h hQ fun _ _ x => x
end L2

namespace L2
open PySem PySem.Spec PyProof.Rows
section
variable {X : Cx}

def tVar (i : Nat) : TE := fun σ H Q => ∃ v, σ[i]? = some (some v) ∧ Q v H
abbrev tC (v : V) : TE := fun _ H Q => Q v H
theorem pe_var {i : Nat} {x : Str} {pos : Pos} (hN : X.N[i]? = some x) (hv : Vis X.env.scope x) (hd : (x == ("__debug__" : Str)) = false := by decide) (hcd : (x == ("__classdict__" : Str)) = false := by decide) : PE X (.Name x pos) (tVar i) := by
  intro pins s σ H Q I h
  obtain ⟨v, e, h⟩ := h
  obtain ⟨m, hn, hl⟩ := I.loc
  obtain ⟨u, r, l⟩ := hl i x v hN e hv
  have fin : EP X pins σ Q u s := ⟨v, H, I, r, h⟩
  rcases l with ⟨hk, hm⟩ | ⟨hk, c, hc, hcell⟩
  · exact wpAny_Name (wpAny_loadName_local I.ok.kind hk hn hm fin) hd
  · rcases hk with hk | hk
    · exact wpAny_Name (wpAny_loadName_cell I.ok.kind hk hc hcell fin) hd
    · exact wpAny_Name (wpAny_loadName_free I.ok.kind hk hc hcell fin hcd) hd
theorem pe_int {i j pos} : PE X (.Constant (.int i) j pos) (tC (.int i)) := fun _ _ _ H _ I h => wpAny_Constant_int ⟨.int i, H, I.tok _, ⟨_, rfl⟩, h⟩
theorem pe_bl {b j pos} : PE X (.Constant (.bool b) j pos) (tC (.bl b)) := fun _ _ _ H _ I h => Constant_bool ⟨.bl b, H, I, rfl, h⟩
theorem pe_non {j pos} : PE X (.Constant .none j pos) (tC .non) := fun _ _ _ H _ I h => Constant_none ⟨.non, H, I, rfl, h⟩
theorem pe_str {x j pos} : PE X (.Constant (.str x) j pos) (tC (.str x)) := fun _ _ _ H _ I h => Calls.Constant_str ⟨.str x, H, I.tok _, ⟨_, rfl⟩, h⟩

def Gl (X : Cx) (x : Str) : Prop := X.env.kindOf x = some .globalImplicit
theorem ld_glob {E : Value → Shared → Prop} {pins : List (Addr × Obj)} {s : Shared} {σ : St} {H : Hp} {x : Str} {u : Value} {pos : Pos} {Q : Value → Shared → Prop} (I : Inv X pins σ H s) (hg : Gl X x) (hm : X.mg x = some u) (h : Q u s)
    (hd : (x == ("__debug__" : Str)) = false := by decide) : wpAny (model X.prog X.w) X.A (eval (.Name x pos) X.env) Q E s :=
  Calls.Name_function_global I.ok.kind hg (Calls.loadGlobal_global (by rw [I.ok.glob]; exact I.mod.glob.keeps I.bk) hm h) hd
theorem ld_blt {E : Value → Shared → Prop} {pins : List (Addr × Obj)} {s : Shared} {σ : St} {H : Hp} {x : Str} {u : Value} {pos : Pos} {Q : Value → Shared → Prop} (I : Inv X pins σ H s) (hg : Gl X x) (hm : X.mg x = none) (hv : bootBuiltins x = some u) (h : Q u s)
    (hn : x ≠ "__name__" := by decide) (hd : (x == ("__debug__" : Str)) = false := by decide) : wpAny (model X.prog X.w) X.A (eval (.Name x pos) X.env) Q E s := by
  obtain ⟨mb, h1, h2⟩ := I.mod.blt
  exact Calls.Name_function_global I.ok.kind hg (Calls.loadGlobal_builtin (by rw [I.ok.glob]; exact I.mod.glob.keeps I.bk) hm (by rw [I.ok.blt]; exact h1.keeps I.bk) ((h2 x hn).trans hv) h) hd
theorem pe_glob {x : Str} {v : V} {u : Value} {pos : Pos} (hg : Gl X x) (hm : X.mg x = some u) (r : RelV v u) (hd : (x == ("__debug__" : Str)) = false := by decide) : PE X (.Name x pos) (tC v) :=
  fun _ _ _ H _ I h => ld_glob I hg hm ⟨v, H, I, r, h⟩ hd
theorem pe_bltn {x : Str} {v : V} {u : Value} {pos : Pos} (hg : Gl X x) (hm : X.mg x = none) (hv : bootBuiltins x = some u) (r : RelV v u) (hn : x ≠ "__name__" := by decide) (hd : (x == ("__debug__" : Str)) = false := by decide) : PE X (.Name x pos) (tC v) :=
  fun _ _ _ H _ I h => ld_blt I hg hm hv ⟨v, H, I, r, h⟩ hn hd

variable {a b : Expr} {ta tb : TE} {pos : Pos}
def tB (t : TE) : TT := fun σ H Q => t σ H fun x H1 => ∃ c, x = .bl c ∧ Q c H1
theorem pt_val {e : Expr} {t : TE} (h : PE X e t) (he : ∀ whole, isTrue e X.env whole = (do let v ← whole; standAt e.pos; holding [v] (truthy v)) := by intro _; rfl) : PT X e (tB t) := by
  intro pins s σ H Q I hw
  refine isTrue_plain (thn (h pins s σ H _ I hw) fun v s1 hx9 => ?_) (he _)
  obtain ⟨x, H1, I1, r1, q1⟩ := hx9
  obtain ⟨d, rfl, q⟩ := q1
  cases r1
  exact wpAny_truthy_bool ⟨H1, I1, q⟩

variable {tA tB' : TT} {rest : List Expr}
def tAnd (t u : TT) : TT := fun σ H Q => t σ H fun c H1 => if c = true then u σ H1 Q else Q false H1
def tOr (t u : TT) : TT := fun σ H Q => t σ H fun c H1 => if c = true then Q true H1 else u σ H1 Q
def tNot (t : TT) : TT := fun σ H Q => t σ H fun c H1 => Q (!c) H1
theorem pw_and1 (ha : PT X a tA) : PW X (.BoolOp .And [a] pos) tA := by
  intro wh pins s σ H Q I h
  refine isTrue_and (thn (ha pins s σ H Q I h) fun c s1 e => ?_)
  cases c with
  | true => exact isTrue_and_nil e
  | false => exact e
theorem pw_or1 (ha : PT X a tA) : PW X (.BoolOp .Or [a] pos) tA := by
  intro wh pins s σ H Q I h
  refine isTrue_or (thn (ha pins s σ H Q I h) fun c s1 e => ?_)
  cases c with
  | false => exact isTrue_or_nil e
  | true => exact e
theorem pw_and (ha : PT X a tA) (hb : PW X (.BoolOp .And (b :: rest) pos) tB') : PW X (.BoolOp .And (a :: b :: rest) pos) (tAnd tA tB') := by
  intro wh pins s σ H Q I h
  refine isTrue_and (thn (ha pins s σ H _ I h) fun c s1 hx9 => ?_)
  obtain ⟨H1, I1, q1⟩ := hx9
  cases c with
  | true => exact hb wh pins s1 σ H1 Q I1 q1
  | false => exact ⟨H1, I1, q1⟩
theorem pw_or (ha : PT X a tA) (hb : PW X (.BoolOp .Or (b :: rest) pos) tB') : PW X (.BoolOp .Or (a :: b :: rest) pos) (tOr tA tB') := by
  intro wh pins s σ H Q I h
  refine isTrue_or (thn (ha pins s σ H _ I h) fun c s1 hx9 => ?_)
  obtain ⟨H1, I1, q1⟩ := hx9
  cases c with
  | true => exact ⟨H1, I1, q1⟩
  | false => exact hb wh pins s1 σ H1 Q I1 q1
theorem pt_not (ha : PT X a tA) : PT X (.UnaryOp .Not a pos) (tNot tA) := by
  intro pins s σ H Q I h
  exact isTrue_not (ha pins s σ H (fun c H1 => Q (!c) H1) I h)
def tAndV (ta tb : TE) : TE := fun σ H Q => ta σ H fun x H1 => ∃ c, x = .bl c ∧ if c = true then tb σ H1 Q else Q (.bl false) H1
def tNotV (ta : TE) : TE := fun σ H Q => ta σ H fun x H1 => ∃ c, x = .bl c ∧ Q (.bl (!c)) H1
theorem pe_one {op} {t : TE} (h : PE X a t) : PE X (.BoolOp op [a] pos) t := fun pins s σ H Q I hw => BoolOp_one (h pins s σ H Q I hw)
theorem pe_and (ha : PE X a ta) (hb : PE X (.BoolOp .And (b :: rest) pos) tb) : PE X (.BoolOp .And (a :: b :: rest) pos) (tAndV ta tb) := by
  intro pins s σ H Q I h
  refine BoolOp_and (thn (ha pins s σ H _ I h) fun v s1 hx9 => ?_)
  obtain ⟨x, H1, I1, r1, q1⟩ := hx9
  obtain ⟨c, rfl, q1⟩ := q1
  cases r1
  refine wpAny_truthy_bool ?_
  cases c with
  | true => exact hb pins s1 σ H1 Q I1 q1
  | false => exact ⟨.bl false, H1, I1, rfl, q1⟩
theorem pe_not (ha : PE X a ta) : PE X (.UnaryOp .Not a pos) (tNotV ta) := by
  intro pins s σ H Q I h
  refine UnaryOp_ (thn (ha pins s σ H _ I h) fun v s1 hx9 => ?_)
  obtain ⟨x, H1, I1, r1, q1⟩ := hx9
  obtain ⟨c, rfl, q1⟩ := q1
  cases r1
  exact not_of (wpAny_truthy_bool ⟨.bl (!c), H1, I1, rfl, q1⟩)
end
end L2

namespace L2
open PySem PySem.Spec PyProof.Rows

def SqL (K : PySem.W.Frag) (H : Hp) (a : Addr) (xs : List V) : Prop :=
  Rd H a (.lst xs) ∨
    ∃ (o : Obj) (its : Array Value) (n : Nat), K.lookup a = some o ∧ o.cls = .type "list" ∧ o.dict = none ∧ o.data = .seq its n ∧ its.size ≤ sizeLine ∧ Vals xs its.toList
def SqT (K : PySem.W.Frag) (H : Hp) (a : Addr) (xs : List V) : Prop :=
  Rd H a (.tup xs) ∨
    ∃ (o : Obj) (its : Array Value) (n : Nat), K.lookup a = some o ∧ o.cls = .type "tuple" ∧ o.dict = none ∧ o.data = .seq its n ∧ its.size ≤ sizeLine ∧ Vals xs its.toList
def absV : Value → Option V
  | .none => some .non
  | .bool b => some (.bl b)
  | .int i _ => some (.int i)
  | .str x _ => some (.str x)
  | .bytes b _ => some (.byt b)
  | .float b _ => some (.flt b)
  | .ref a => some (.ref a)
  | .type n => some (.ty n)
  | _ => none
theorem RelV.abs {x : V} {u : Value} (r : RelV x u) : absV u = some x := by
  cases x with
  | non => cases r; rfl
  | bl _ => cases r; rfl
  | int _ => obtain ⟨t, rfl⟩ := r; rfl
  | str _ => obtain ⟨t, rfl⟩ := r; rfl
  | byt _ => obtain ⟨t, rfl⟩ := r; rfl
  | flt _ => obtain ⟨t, rfl⟩ := r; rfl
  | ref _ => cases r; rfl
  | ty _ => cases r; rfl
theorem RelV.inj {x y : V} {u : Value} (r : RelV x u) (q : RelV y u) : x = y := Option.some.inj (r.abs.symm.trans q.abs)
theorem Vals.inj : ∀ {xs ys : List V} {us : List Value}, Vals xs us → Vals ys us → xs = ys
  := by
  intro xs ys us h
  induction h generalizing ys with
  | nil => intro q; cases q; rfl
  | cons r t ih => intro q; cases q with | cons r' t' => rw [r.inj r', ih t']
section
variable {X : Cx} {pins : List (Addr × Obj)} {σ : St} {H : Hp} {s : Shared} {a : Addr} {xs ys : List V}
theorem SqL.of {K : PySem.W.Frag} (h : H a = some (.lst xs)) : SqL K H a xs := .inl (.inl h)
theorem SqT.of {K : PySem.W.Frag} (h : H a = some (.tup xs)) : SqT K H a xs := .inl (.inl h)
theorem Inv.list (I : Inv X pins σ H s) (h : SqL X.K H a xs) : ∃ its : List Value, Vals xs its ∧ PlainL s.heap a its.toArray ∧ xs.length ≤ sizeLine := by
  rcases h with h | ⟨o, its, n, hk, hc, hd, hs, hz, r⟩
  · obtain ⟨z, its, n, r, e⟩ := h.ok I.hok
    exact ⟨its, r, ⟨_, n, e, rfl, rfl, rfl⟩, z⟩
  · refine ⟨its.toList, r, ⟨o, n, I.kIn a o hk, hc, hd, by simpa using hs⟩, ?_⟩
    have e := r.length
    simp only [Array.length_toList] at e
    omega
theorem Inv.tuple (I : Inv X pins σ H s) (h : SqT X.K H a xs) : ∃ its : List Value, Vals xs its ∧ IsTup s.heap a its.toArray ∧ xs.length ≤ sizeLine := by
  rcases h with h | ⟨o, its, n, hk, hc, _, hs, hz, r⟩
  · obtain ⟨z, its, n, r, p⟩ := h.ok I.hok
    exact ⟨its, r, ⟨_, p, rfl, n, rfl⟩, z⟩
  · refine ⟨its.toList, r, ⟨o, I.kIn a o hk, hc, n, by simpa using hs⟩, ?_⟩
    have e := r.length
    simp only [Array.length_toList] at e
    omega
theorem Inv.list_inj (I : Inv X pins σ H s) (h : SqL X.K H a xs) (h' : SqL X.K H a ys) : xs = ys := by
  obtain ⟨its, r, ⟨o, n, e, _, _, d⟩, _⟩ := I.list h
  obtain ⟨its', r', ⟨o', n', e', _, _, d'⟩, _⟩ := I.list h'
  rw [e] at e'; cases e'
  rw [d] at d'
  injection d' with d1 _
  have : its = its' := by simpa using congrArg Array.toList d1
  subst this
  exact r.inj r'
theorem Inv.tuple_inj (I : Inv X pins σ H s) (h : SqT X.K H a xs) (h' : SqT X.K H a ys) : xs = ys := by
  obtain ⟨its, r, ⟨o, e, _, n, d⟩, _⟩ := I.tuple h
  obtain ⟨its', r', ⟨o', e', _, n', d'⟩, _⟩ := I.tuple h'
  rw [e] at e'; cases e'
  rw [d] at d'
  injection d' with d1 _
  have : its = its' := by simpa using congrArg Array.toList d1
  subst this
  exact r.inj r'
end

abbrev Cx.wish (X : Cx) (E : Value → Shared → Prop) : Cx := { X with xe := E }
abbrev Cx.nox (X : Cx) : Cx := X.wish fun _ _ => False
theorem Cx.Ok.wish {X : Cx} (ok : X.Ok) (E : Value → Shared → Prop) : (X.wish E).Ok :=
  ⟨ok.mod, ok.kind, ok.glob, ok.blt, ok.above, ok.inj, ok.has, ok.cab, ok.hd, ok.frames, ok.stk, ok.exf, ok.bs, ok.bsz, ok.noex, ok.exfs, ok.funs, ok.frf⟩
theorem Cx.Ok.unwish {X : Cx} {E : Value → Shared → Prop} (ok : (X.wish E).Ok) : X.Ok :=
  ⟨ok.mod, ok.kind, ok.glob, ok.blt, ok.above, ok.inj, ok.has, ok.cab, ok.hd, ok.frames, ok.stk, ok.exf, ok.bs, ok.bsz, ok.noex, ok.exfs, ok.funs, ok.frf⟩
section
variable {X : Cx} {pins : List (Addr × Obj)} {σ : St} {H : Hp} {s : Shared} {E : Value → Shared → Prop}
theorem Inv.wish (I : Inv X pins σ H s) (E : Value → Shared → Prop) : Inv (X.wish E) pins σ H s := ⟨I.ok.wish E, I.os, I.bare, I.base, I.loc, I.cell, I.free, I.freeC, I.pin, I.hok, I.len⟩
theorem Inv.unwish (I : Inv (X.wish E) pins σ H s) : Inv X pins σ H s := ⟨I.ok.unwish, I.os, I.bare, I.base, I.loc, I.cell, I.free, I.freeC, I.pin, I.hok, I.len⟩
theorem SP.unwish {D : Ends} {f : Flow} {s' : Shared} (h : SP (X.wish E) pins D f s') : SP X pins D f s' := by
  cases f with
  | next => obtain ⟨σ', H', I, q⟩ := h; exact ⟨σ', H', I.unwish, q⟩
  | brk => obtain ⟨σ', H', I, q⟩ := h; exact ⟨σ', H', I.unwish, q⟩
  | cont => obtain ⟨σ', H', I, q⟩ := h; exact ⟨σ', H', I.unwish, q⟩
  | ret u => obtain ⟨v, σ', H', I, r, q⟩ := h; exact ⟨v, σ', H', I.unwish, r, q⟩
theorem PE.nox {e : Expr} {t : TE} (h : PE X.nox e t) : PE X e t := fun pins s σ H Q I hw =>
  wpAny_mono (h pins s σ H Q (I.wish _) hw) (fun _ _ ⟨v, H', I', r, q⟩ => ⟨v, H', I'.unwish, r, q⟩) fun _ _ z => False.elim z
theorem PT.nox {e : Expr} {t : TT} (h : PT X.nox e t) : PT X e t := fun pins s σ H Q I hw =>
  wpAny_mono (h pins s σ H Q (I.wish _) hw) (fun _ _ ⟨H', I', q⟩ => ⟨H', I'.unwish, q⟩) fun _ _ z => False.elim z
theorem PSs.nox {st : List Stmt} {t : TS} (h : PSs X.nox st t) : PSs X st t := fun pins s σ H D I hw =>
  wpAny_mono (h pins s σ H D (I.wish _) hw) (fun _ _ q => q.unwish) fun _ _ z => False.elim z
end

section
variable {X : Cx} {st : Stmt} {rest : List Stmt} {t u : TS} {e : Expr} {te : TE} {pos : Pos}
def tNext : TS := fun D σ H => D.nx σ H
def tSeq (t u : TS) : TS := fun D σ H => t { D with nx := u D } σ H
theorem pss_nil : PSs X [] tNext := fun _ _ σ H _ I h => wpAny_execs_nil ⟨σ, H, I, h⟩
theorem pss_cons (h1 : PS X st t) (h2 : PSs X rest u) : PSs X (st :: rest) (tSeq t u) := by
  intro pins s σ H D I h
  refine wpAny_execs_cons (thn (h1 pins s σ H { D with nx := u D } I h) fun f s1 q => ?_)
  cases f with
  | next =>
    obtain ⟨σ', H', I', q⟩ := q
    exact h2 pins s1 σ' H' D I' q
  | ret v => exact q
  | brk => exact q
  | cont => exact q
theorem pss_one (h1 : PS X st t) : PSs X [st] t := by
  intro pins s σ H D I h
  refine wpAny_execs_cons (thn (h1 pins s σ H D I h) fun f s1 q => ?_)
  cases f with
  | next => exact wpAny_execs_nil q
  | ret v => exact q
  | brk => exact q
  | cont => exact q
def tBreak : TS := fun D σ H => D.bk σ H
theorem ps_break : PS X (.Break pos) tBreak := fun _ _ σ H _ I h => wpAny_Break ⟨σ, H, I, h⟩
theorem Inv.quiet {pins : List (Addr × Obj)} {σ : St} {H : Hp} {s : Shared} (I : Inv X pins σ H s) : interactive X.env = false := by simp [interactive, I.ok.kind]
def tDrop (te : TE) : TS := fun D σ H => te σ H fun _ H1 => D.nx σ H1
theorem ps_expr (he : PE X e te) (hs : swapsWith e none pos.line X.env = pure false := by rfl) : PS X (.Expr e pos) (tDrop te) := by
  intro pins s σ H D I h
  refine wpAny_Expr_any (thn (he pins s σ H _ I h) fun v s1 hx9 => ?_) I.quiet hs
  obtain ⟨x, H1, I1, r1, q1⟩ := hx9
  exact ⟨σ, H1, I1, q1⟩
def tRet (te : TE) : TS := fun D σ H => te σ H D.rt
theorem ps_ret (he : PE X e te) : PS X (.Return (some e) pos) (tRet te) := by
  intro pins s σ H D I h
  refine wpAny_Return_some (thn (he pins s σ H _ I h) fun v s1 hx9 => ?_)
  obtain ⟨x, H1, I1, r1, q1⟩ := hx9
  exact ⟨x, σ, H1, I1, r1, q1⟩
def tIfS (c : TT) (t u : TS) : TS := fun D σ H => c σ H fun b H1 => if b = true then t D σ H1 else u D σ H1
theorem ps_if {c : Expr} {a b : List Stmt} {tc : TT} (hc : PT X c tc) (ha : PSs X a t) (hb : PSs X b u) : PS X (.If c a b pos) (tIfS tc t u) := by
  intro pins s σ H D I h
  refine wpAny_If (thn (hc pins s σ H _ I h) fun d s1 hx9 => ?_)
  obtain ⟨H1, I1, q1⟩ := hx9
  cases d with
  | true => exact ha pins s1 σ H1 D I1 q1
  | false => exact hb pins s1 σ H1 D I1 q1
def tNever : TS := fun _ _ _ => False
theorem pss_never {sts : List Stmt} : PSs X sts tNever := fun _ _ _ _ _ _ h => h.elim
end

abbrev TG := V → St → Hp → (St → Hp → Prop) → Prop
abbrev TGs := List V → St → Hp → (St → Hp → Prop) → Prop
def PG (X : Cx) (target : Expr) (t : TG) : Prop :=
  ∀ (pins : List (Addr × Obj)) (s : Shared) (σ : St) (H : Hp) (v : V) (u : Value) (Q : St → Hp → Prop), Inv X pins σ H s → RelV v u → t v σ H Q →
    wpAny (model X.prog X.w) X.A (assign target X.env u) (fun _ s' => ∃ σ' H', Inv X pins σ' H' s' ∧ Q σ' H') X.xe s
def PGs (X : Cx) (ts : List Expr) (t : TGs) : Prop :=
  ∀ (pins : List (Addr × Obj)) (s : Shared) (σ : St) (H : Hp) (vs : List V) (us : List Value) (Q : St → Hp → Prop), Inv X pins σ H s → Vals vs us → t vs σ H Q →
    wpAny (model X.prog X.w) X.A (assignInOrder ((assignEach ts X.env).map (·.2)) us) (fun _ s' => ∃ σ' H', Inv X pins σ' H' s' ∧ Q σ' H') X.xe s
abbrev TSet := V → V → V → Hp → (Hp → Prop) → Prop
def PSet (X : Cx) (t : TSet) : Prop :=
  ∀ (pins : List (Addr × Obj)) (s : Shared) (σ : St) (H : Hp) (o i v : V) (ov iv u : Value) (Q : Hp → Prop), Inv X pins σ H s → RelV o ov → RelV i iv → RelV v u → t o i v H Q →
    wpAny (model X.prog X.w) X.A (setItem ov iv u) (fun _ s' => ∃ H', Inv X pins σ H' s' ∧ Q H') X.xe s
section
variable {X : Cx} {pos : Pos}
def gName (i : Nat) : TG := fun v σ H Q => Q (σ.set i (some v)) H
theorem pg_name {i : Nat} {x : Str} (hN : X.N.Nodup) (hi : X.N[i]? = some x) (hx : Loc X.env.scope x) (hf : X.fn x = true ∨ X.env.scope.names.lookup x = some .local := by first | exact .inl rfl | exact .inr rfl | assumption) : PG X (.Name x pos) (gName i) := by
  intro pins s σ H v u Q I r h
  exact wpAny_assign_Name (store_ok I hN hi hx r (fun s' I' => ⟨_, H, I', h⟩) hf)
def gNil : TGs := fun vs σ H Q => vs = [] ∧ Q σ H
def gCons (t : TG) (u : TGs) : TGs := fun vs σ H Q => ∃ v r, vs = v :: r ∧ t v σ H fun σ' H' => u r σ' H' Q
theorem pgs_nil : PGs X [] gNil := by
  intro pins s σ H vs us Q I r h
  obtain ⟨e, h⟩ := h
  subst e
  cases r
  exact assignInOrder_nil ⟨σ, H, I, h⟩
theorem pgs_cons {e : Expr} {es : List Expr} {t : TG} {u : TGs} (h1 : PG X e t) (h2 : PGs X es u)
    (hs : (assignEach (e :: es) X.env).map (·.2) = assign e X.env :: (assignEach es X.env).map (·.2) := by rfl) : PGs X (e :: es) (gCons t u) := by
  intro pins s σ H vs us Q I r h
  obtain ⟨v, vr, e1, h⟩ := h
  subst e1
  cases r with
  | cons r rr =>
    rw [hs]
    refine assignInOrder_cons (thn (h1 pins s σ H _ _ _ I r h) fun _ s1 hx9 => ?_)
    obtain ⟨σ1, H1, I1, q1⟩ := hx9
    exact h2 pins s1 σ1 H1 _ _ Q I1 rr q1
def gTup (K : PySem.W.Frag) (n : Nat) (t : TGs) : TG := fun v σ H Q => ∃ a xs, v = .ref a ∧ SqT K H a xs ∧ xs.length = n ∧ t xs σ H Q
theorem pg_tup {es : List Expr} {k : Nat} {t : TGs} {n : Nat} (hc : X.calm = true) (h : PGs X es t)
    (hn : (assignEach es X.env).length = n := by rfl) (hst : (assignEach es X.env).findIdx? (·.1) = none := by rfl) : PG X (.Tuple es k pos) (gTup X.K n t) := by
  intro pins s σ H v u Q I r hw
  obtain ⟨a, xs, e1, hq, hl, hw⟩ := hw
  subst e1
  cases r
  obtain ⟨its, rv, ht, hz⟩ := I.tuple hq
  refine assign_Tuple_tuple (I.ok.hd hc) ht (by simp [hn, ← hl, rv.length]) hst fun h' hx => ?_
  have I1 : Inv X pins σ H { s with heap := h' } := I.kept (t' := s.toks) fun b o e => hx b o (Nat.ne_of_lt (Heap.lt_size e)) e
  exact h pins _ σ H xs _ Q I1 (by simpa using rv) hw
def gSub (to ti : TE) (t : TSet) : TG := fun v σ H Q => to σ H fun o H1 => ti σ H1 fun i H2 => t o i v H2 fun H3 => Q σ H3
theorem pg_sub {o i : Expr} {to ti : TE} {t : TSet} (ho : PE X o to) (hi : PE X i ti) (hs : PSet X t)
    (ha : ∀ v, assign (.Subscript o i pos) X.env v = (do
      let ov ← holding [v] (eval o X.env)
      let iv ← holding [v, ov] (eval i X.env)
      standAt pos
      holding [v, ov, iv] (setItem ov iv v)
      release [v, ov, iv] []) := by intro _; rfl) : PG X (.Subscript o i pos) (gSub to ti t) := by
  intro pins s σ H v u Q I r h
  rw [ha]
  refine wpAny_bind (wpAny_holding (thn (ho pins s σ H _ I h) fun ov s1 hx9 => ?_))
  obtain ⟨x, H1, I1, r1, q1⟩ := hx9
  refine wpAny_bind (wpAny_holding (thn (hi pins s1 σ H1 _ I1 q1) fun iv s2 hx9 => ?_))
  obtain ⟨y, H2, I2, r2, q2⟩ := hx9
  refine wpAny_bind (wpAny_standAt (wpAny_bind (wpAny_holding (thn (hs pins s2 σ H2 x y v ov iv u _ I2 r1 r2 r q2) fun _ s3 hx9 => ?_))))
  obtain ⟨H3, I3, q3⟩ := hx9
  exact wpAny_release ⟨σ, H3, I3, q3⟩
def tAsg (te : TE) (g : TG) : TS := fun D σ H => te σ H fun x H1 => g x σ H1 D.nx
theorem ps_asg {tg e : Expr} {te : TE} {g : TG} (he : PE X e te) (hg : PG X tg g) (hs : swapsWithSole [tg] e pos.line X.env = pure false := by rfl) (hw : swappedStores [tg] e X.env = pure none := by rfl)
    (h1 : (assignEach [tg] X.env).map (·.2) = [assign tg X.env] := by rfl) : PS X (.Assign [tg] e pos) (tAsg te g) := by
  intro pins s σ H D I h
  refine wpAny_Assign_stores (thn (he pins s σ H _ I h) fun v s1 hx9 => ?_) hs hw
  obtain ⟨x, H1, I1, r1, q1⟩ := hx9
  rw [h1]
  exact thn (hg pins s1 σ H1 x v _ I1 r1 q1) fun _ s2 q => q
theorem ps_set {i : Nat} {x : Str} {e : Expr} {te : TE} {pos' : Pos} (hN : X.N.Nodup) (hi : X.N[i]? = some x) (hx : Loc X.env.scope x) (he : PE X e te) (hs : swapsWith e (some (.Name x pos')) pos.line X.env = pure false := by rfl) (hf : X.fn x = true ∨ X.env.scope.names.lookup x = some .local := by first | exact .inl rfl | exact .inr rfl | assumption) :
    PS X (.Assign [.Name x pos'] e pos) (tAsg te (gName i)) := by
  intro pins s σ H D I h
  refine wpAny_Assign_Name (thn (he pins s σ H _ I h) fun v s1 hx9 => ?_) hs
  obtain ⟨y, H1, I1, r1, q1⟩ := hx9
  exact store_ok I1 hN hi hx r1 (fun s2 I2 => ⟨_, H1, I2, q1⟩) hf
end

section
variable {X : Cx} {pos : Pos}
def tWhile (c : TT) (tb : TS) : TS := fun D σ H => ∃ W : Nat → St → Hp → Prop, (∃ m, W m σ H) ∧ ∀ m σ H, W m σ H →
  c σ H fun b H1 => if b = true then ∃ N : St → Hp → Prop, (∀ σ' H', N σ' H' → ∃ m', m' < m ∧ W m' σ' H') ∧ tb { D with nx := N, ct := N, bk := D.nx } σ H1 else D.nx σ H1
theorem ps_while {c : Expr} {body : List Stmt} {tc : TT} {tb : TS} (hp : PassesOwn (model X.prog X.w) X.A X.env X.xe) (hc : PT X c tc) (hb : PSs X body tb) : PS X (.While c body [] pos) (tWhile tc tb) := by
  intro pins s σ H D I h
  obtain ⟨W, ⟨m0, w0⟩, turn⟩ := h
  refine wpAny_While (codeAny_whileLoop (fun n s' => ∃ σ' H', Inv X pins σ' H' s' ∧ W n σ' H') ?_ m0 ⟨σ, H, I, w0⟩)
  rintro n s1 ⟨σ1, H1, I1, w1⟩
  refine wpAny_passesOwn hp (thn (hc pins s1 σ1 H1 _ I1 (turn n σ1 H1 w1)) fun b s2 hx9 => ?_)
  obtain ⟨H2, I2, q2⟩ := hx9
  cases b with
  | true =>
    obtain ⟨N, hN, q2⟩ := q2
    rw [if_pos rfl]
    refine wpAny_passesOwn hp (thn (hb pins s2 σ1 H2 _ I2 q2) fun f s3 q3 => ?_)
    cases f with
    | next =>
      obtain ⟨σ3, H3, I3, n3⟩ := q3
      obtain ⟨m', hm, w3⟩ := hN σ3 H3 n3
      exact ⟨m', hm, σ3, H3, I3, w3⟩
    | cont =>
      obtain ⟨σ3, H3, I3, n3⟩ := q3
      obtain ⟨m', hm, w3⟩ := hN σ3 H3 n3
      exact ⟨m', hm, σ3, H3, I3, w3⟩
    | brk => exact q3
    | ret v => exact q3
  | false =>
    rw [if_neg Bool.false_ne_true]
    exact wpAny_execs_nil ⟨σ1, H2, I2, q2⟩
end

structure It where
  go : Nat → Hp → Prop
  yld : Nat → Hp → V → Hp → Prop
  stop : Nat → Hp → Prop
def FpOk (X : Cx) (pins : List (Addr × Obj)) (H : Hp) (b : Addr) : Prop :=
  H b = none ∧ b ≠ X.env.locals ∧ b ∉ X.fs ∧ (b ∈ X.ex ∨ X.s₀.heap.objs.size ≤ b) ∧ (∀ x c, X.env.cells.lookup x = some c → c ≠ b) ∧ ∀ p ∈ X.pn ++ pins, p.1 ≠ b
theorem Inv.fpOk {X : Cx} {pins : List (Addr × Obj)} {σ : St} {H H' : Hp} {s : Shared} {b : Addr} (I : Inv X pins σ H s) (hb : s.heap.objs.size ≤ b) (hn : H' b = none) : FpOk X pins H' b := by
  refine ⟨hn, Nat.ne_of_gt (Nat.lt_of_lt_of_le I.lt hb), I.nofs hb, .inr (Nat.le_trans I.sz hb), fun x c e z => ?_, fun p hp z => ?_⟩
  · obtain ⟨v, q⟩ := I.cell x c e
    exact absurd (Nat.lt_of_lt_of_le q.lt (by rw [z]; exact hb)) (Nat.lt_irrefl _)
  · exact absurd (Nat.lt_of_lt_of_le (Heap.lt_size (I.pin p hp).1) (by rw [z]; exact hb)) (Nat.lt_irrefl _)
structure Turn (P : Program) (w : World) (K : PySem.W.Frag) (tg : Expr) (J : It) (fp : List Addr) (it : Addr) (tn : Nat → Heap → Prop) : Prop where
  mem : it ∈ fp
  obj : ∀ i h, tn i h → ∀ b ∈ fp, ∃ o, h.get? b = some o ∧ ∀ v, o.data ≠ .cell v
  keep : ∀ i h h', tn i h → (∀ b ∈ fp, ∀ o, h.get? b = some o → h'.get? b = some o) → tn i h'
  item : ∀ (X : Cx), X.prog = P → X.w = w → X.K = K → X.calm = true → ∀ (i : Nat) (pins : List (Addr × Obj)) (s : Shared) (σ : St) (H : Hp) (E : Value → Shared → Prop), Inv X pins σ H s → (∀ b ∈ fp, FpOk X pins H b) → tn i s.heap → J.go i H →
    wpAny (model P w) X.A (pyNext (.ref it)) (fun r s1 => ∃ u, r = some u ∧
      wpAny (model P w) X.A (letOwnedTupleGo tg (.ref it) u) (fun _ s2 => ∃ x H', Inv X pins σ H' s2 ∧ RelV x u ∧ J.yld i H x H' ∧ tn (i + 1) s2.heap ∧ ∀ b ∈ fp, H' b = none) E s1) E s
  done : ∀ (X : Cx), X.prog = P → X.w = w → X.K = K → X.calm = true → ∀ (i : Nat) (pins : List (Addr × Obj)) (s : Shared) (σ : St) (H : Hp) (E : Value → Shared → Prop), Inv X pins σ H s → (∀ b ∈ fp, FpOk X pins H b) → tn i s.heap → J.stop i H →
    wpAny (model P w) X.A (pyNext (.ref it)) (fun r s1 => r = none ∧ Inv X pins σ H s1) E s
  self : ∀ (A : Around) (i : Nat) (s : Shared) (Q : Value → Shared → Prop) (E : Value → Shared → Prop), tn i s.heap → Q (.ref it) s → wpAny (model P w) A (pyIter (.ref it)) Q E s
abbrev TI := St → Hp → (It → Hp → Prop) → Prop
def PIE (X : Cx) (pins : List (Addr × Obj)) (σ : St) (tg : Expr) (R : It → Hp → Prop) (itv : Value) (s2 : Shared) : Prop :=
  ∃ (it : Addr) (fp : List Addr) (tn : Nat → Heap → Prop) (J : It) (H' : Hp), itv = .ref it ∧ Inv X pins σ H' s2 ∧ Turn X.prog X.w X.K tg J fp it tn ∧ tn 0 s2.heap ∧ (∀ b ∈ fp, FpOk X pins H' b) ∧ R J H'
def PI (X : Cx) (tg iter : Expr) (wi : TI) : Prop :=
  ∀ (pins : List (Addr × Obj)) (s : Shared) (σ : St) (H : Hp) (R : It → Hp → Prop), Inv X pins σ H s → wi σ H R →
    wpAny (model X.prog X.w) X.A (eval iter X.env) (fun v s1 => wpAny (model X.prog X.w) X.A (pyIter v) (PIE X pins σ tg R) X.xe s1) X.xe s

theorem go_of {M : Model} {A : Around} {E : Value → Shared → Prop} {s : Shared} {tg : Expr} {it : Addr} {u : Value} {o : Obj} {n : String} {vs : Array Value} {Q : Unit → Shared → Prop} (ho : s.heap.get? it = some o) (hc : o.cls = .type n) (hd : o.data = .fields vs)
    (hn : ["enumerate", "zip", "dict_itemiterator", "dict_reverseitemiterator", "odict_iterator", "itertools.zip_longest", "itertools.pairwise"].contains n = false) (hQ : Q () s) : wpAny M A (letOwnedTupleGo tg (.ref it) u) Q E s := by
  unfold letOwnedTupleGo
  cases tg <;> first
    | exact wpAny_pure hQ
    | (cases u <;> first
        | exact wpAny_pure hQ
        | (refine wpAny_bind (wpAny_load ho ?_)
           rw [hc, hd]
           show wpAny M A (if (["enumerate", "zip", "dict_itemiterator", "dict_reverseitemiterator", "odict_iterator", "itertools.zip_longest", "itertools.pairwise"].contains n && vs[0]? == some (rawInt _)) = true then _ else _) Q E s
           rw [if_neg (by intro h; rw [hn, Bool.false_and] at h; cases h)]
           exact wpAny_pure hQ))

def Itl (K : PySem.W.Frag) (a : Addr) : It :=
  ⟨fun i H => ∃ xs x, SqL K H a xs ∧ xs[i]? = some x, fun i H x H' => H' = H ∧ ∀ xs, SqL K H a xs → xs[i]? = some x, fun i H => ∃ xs, SqL K H a xs ∧ xs.length ≤ i⟩
def Itt (K : PySem.W.Frag) (a : Addr) : It :=
  ⟨fun i H => ∃ xs x, SqT K H a xs ∧ xs[i]? = some x, fun i H x H' => H' = H ∧ ∀ xs, SqT K H a xs → xs[i]? = some x, fun i H => ∃ xs, SqT K H a xs ∧ xs.length ≤ i⟩
def Itr (lo : Int) (n : Nat) : It := ⟨fun i _ => i < n, fun i H x H' => H' = H ∧ x = .int (lo + i), fun i _ => n ≤ i⟩
theorem turn_list {P : Program} {w : World} {K : PySem.W.Frag} {tg : Expr} (a it : Addr) : Turn P w K tg (Itl K a) [it] it (fun i h => h.IsListIter it a i) where
  mem := by simp
  obj := fun i h st b hb => by
    have e : b = it := by simpa using hb
    subst e
    obtain ⟨o, e, c, d⟩ := st
    exact ⟨o, e, fun v z => by rw [d] at z; cases z⟩
  keep := fun i h h' st k => st.at fun o e => k it (by simp) o e
  item := by
    intro X hP hw hK hc i pins s σ H E I hf st hg
    subst hP hw hK
    obtain ⟨xs, x, hq, hx⟩ := hg
    obtain ⟨its, rv, p, hz⟩ := I.list hq
    obtain ⟨u, hu, ru⟩ := rv.get hx
    obtain ⟨f0, f1, f2, f3, f4, f5⟩ := hf it (by simp)
    refine wpAny_pyNext_list_item st p.isList (x := u) (by simpa using hu) fun h' st' sb => ?_
    have I1 : Inv X pins σ H { s with heap := h' } := I.turned (t' := s.toks) (fun b o hb e => (sb.2 b hb).trans e) f0 f1 f3 f4 f5
    obtain ⟨o, e, c, d⟩ := id st'
    exact ⟨u, rfl, go_of (s := { s with heap := h' }) e c d (by decide) ⟨x, H, I1, ru, ⟨rfl, fun ys hy => by rw [I.list_inj hy hq]; exact hx⟩, st', fun b hb => (hf b hb).1⟩⟩
  done := by
    intro X hP hw hK hc i pins s σ H E I hf st hg
    subst hP hw hK
    obtain ⟨xs, hq, hx⟩ := hg
    obtain ⟨its, rv, p, hz⟩ := I.list hq
    obtain ⟨f0, f1, f2, f3, f4, f5⟩ := hf it (by simp)
    have hl := rv.length
    exact wpAny_pyNext_list_end (I.ok.hd hc) st p.isList (by simp; omega) fun h' eb => ⟨rfl, I.turned (t' := s.toks) (fun b o hb e => eb b o hb e) f0 f1 f3 f4 f5⟩
  self := fun _ _ _ _ _ st h => wpAny_pyIter_listiter st h
theorem turn_tuple {P : Program} {w : World} {K : PySem.W.Frag} {tg : Expr} (a it : Addr) : Turn P w K tg (Itt K a) [it] it (fun i h => h.IsTupleIter it a i) where
  mem := by simp
  obj := fun i h st b hb => by
    have e : b = it := by simpa using hb
    subst e
    obtain ⟨o, e, c, d⟩ := st
    exact ⟨o, e, fun v z => by rw [d] at z; cases z⟩
  keep := fun i h h' st k => st.at fun o e => k it (by simp) o e
  item := by
    intro X hP hw hK hc i pins s σ H E I hf st hg
    subst hP hw hK
    obtain ⟨xs, x, hq, hx⟩ := hg
    obtain ⟨its, rv, p, hz⟩ := I.tuple hq
    obtain ⟨u, hu, ru⟩ := rv.get hx
    obtain ⟨f0, f1, f2, f3, f4, f5⟩ := hf it (by simp)
    refine wpAny_pyNext_tuple_item st (show s.heap.IsTuple a its.toArray from p) (x := u) (by simpa using hu) fun h' st' sb => ?_
    have I1 : Inv X pins σ H { s with heap := h' } := I.turned (t' := s.toks) (fun b o hb e => (sb.2 b hb).trans e) f0 f1 f3 f4 f5
    obtain ⟨o, e, c, d⟩ := id st'
    exact ⟨u, rfl, go_of (s := { s with heap := h' }) e c d (by decide) ⟨x, H, I1, ru, ⟨rfl, fun ys hy => by rw [I.tuple_inj hy hq]; exact hx⟩, st', fun b hb => (hf b hb).1⟩⟩
  done := by
    intro X hP hw hK hc i pins s σ H E I hf st hg
    subst hP hw hK
    obtain ⟨xs, hq, hx⟩ := hg
    obtain ⟨its, rv, p, hz⟩ := I.tuple hq
    obtain ⟨f0, f1, f2, f3, f4, f5⟩ := hf it (by simp)
    have hl := rv.length
    exact wpAny_pyNext_tuple_end (I.ok.hd hc) st (show s.heap.IsTuple a its.toArray from p) (by simp; omega) fun h' eb => ⟨rfl, I.turned (t' := s.toks) (fun b o hb e => eb b o hb e) f0 f1 f3 f4 f5⟩
  self := fun _ _ _ _ _ st h => wpAny_pyIter_tupleiter st h
theorem turn_range {P : Program} {w : World} {K : PySem.W.Frag} {tg : Expr} (it : Addr) (lo : Int) (n : Nat) : Turn P w K tg (Itr lo n) [it] it (fun i h => IsRangeIter h it (lo + (i : Nat) * 1) ((n : Int) - (i : Nat)) 1) where
  mem := by simp
  obj := fun i h st b hb => by
    have e : b = it := by simpa using hb
    subst e
    exact ⟨_, st, fun v z => by
      have z' : Data.fields _ = Data.cell v := z
      cases z'⟩
  keep := fun i h h' st k => k it (by simp) _ st
  item := by
    intro X hP hw hK hc i pins s σ H E I hf st hg
    subst hP hw hK
    obtain ⟨f0, f1, f2, f3, f4, f5⟩ := hf it (by simp)
    have W := Walks.range (prog := X.prog) (w := X.w) (I.ok.hd hc) it lo 1 n
    refine W.item i s _ _ hg st fun v h' tk hv st' kk => ?_
    obtain ⟨t, rfl⟩ := hv
    have I1 : Inv X pins σ H { s with heap := h', toks := tk } := I.turned (fun b o hb e => kk b o (by simpa using hb) e) f0 f1 f3 f4 f5
    refine ⟨_, rfl, go_of (s := { s with heap := h', toks := tk }) (n := "range_iterator") st' rfl rfl (by decide) ⟨.int (lo + i), H, I1, ⟨t, ?_⟩, ⟨rfl, rfl⟩, st', fun b hb => (hf b hb).1⟩⟩
    rw [Int.mul_one]
  done := by
    intro X hP hw hK hc i pins s σ H E I hf st hg
    subst hP hw hK
    obtain ⟨f0, f1, f2, f3, f4, f5⟩ := hf it (by simp)
    exact wpAny_pyNext_range_end (I.ok.hd hc) st (by have : n ≤ i := hg; omega) fun h' eb => ⟨rfl, I.turned (t' := s.toks) (fun b o hb e => eb b o hb e) f0 f1 f3 f4 f5⟩
  self := fun _ _ _ _ _ st h => wpAny_pyIter_rangeiter st h
end L2

namespace L2
open PySem PySem.Spec PyProof.Rows
section
variable {X : Cx} {tg : Expr}
def iList (K : PySem.W.Frag) (tl : TE) : TI := fun σ H R => tl σ H fun x H1 => ∃ a, x = .ref a ∧ (∃ xs, SqL K H1 a xs) ∧ R (Itl K a) H1
def iTup (K : PySem.W.Frag) (tl : TE) : TI := fun σ H R => tl σ H fun x H1 => ∃ a, x = .ref a ∧ (∃ xs, SqT K H1 a xs) ∧ R (Itt K a) H1
theorem pi_list {l : Expr} {tl : TE} (hl : PE X l tl) : PI X tg l (iList X.K tl) := by
  intro pins s σ H R I h
  refine thn (hl pins s σ H _ I h) fun v s1 hx9 => ?_
  obtain ⟨x, H1, I1, r1, q1⟩ := hx9
  obtain ⟨a, e, ⟨xs, hq⟩, q⟩ := q1
  subst e
  cases r1
  obtain ⟨its, rv, p, hz⟩ := I1.list hq
  refine wpAny_pyIter_list p.isList ?_
  refine ⟨s1.heap.objs.size, [s1.heap.objs.size], _, _, H1, rfl, I1.kept (t' := s1.toks) fun b o e => Heap.get?_push_of_some _ e, turn_list a _, ⟨_, Heap.get?_push_size _ rfl, rfl, rfl⟩, fun b hb => ?_, q⟩
  have e : b = s1.heap.objs.size := by simpa using hb
  subst e
  exact I1.fpOk (Nat.le_refl _) (I1.hok.fresh (Nat.le_refl _))
theorem pi_tup {l : Expr} {tl : TE} (hl : PE X l tl) : PI X tg l (iTup X.K tl) := by
  intro pins s σ H R I h
  refine thn (hl pins s σ H _ I h) fun v s1 hx9 => ?_
  obtain ⟨x, H1, I1, r1, q1⟩ := hx9
  obtain ⟨a, e, ⟨xs, hq⟩, q⟩ := q1
  subst e
  cases r1
  obtain ⟨its, rv, p, hz⟩ := I1.tuple hq
  refine wpAny_pyIter_tuple (show s1.heap.IsTuple a its.toArray from p) ?_
  refine ⟨s1.heap.objs.size, [s1.heap.objs.size], _, _, H1, rfl, I1.kept (t' := s1.toks) fun b o e => Heap.get?_push_of_some _ e, turn_tuple a _, ⟨_, Heap.get?_push_size _ rfl, rfl, rfl⟩, fun b hb => ?_, q⟩
  have e : b = s1.heap.objs.size := by simpa using hb
  subst e
  exact I1.fpOk (Nat.le_refl _) (I1.hok.fresh (Nat.le_refl _))
theorem range_it {pins : List (Addr × Obj)} {σ : St} {H : Hp} {s : Shared} {R : It → Hp → Prop} {E : Value → Shared → Prop} {lo hi : Int} {t u v : Tok} {tk : Nat} (I : Inv X pins σ H s) (h1 : -(2 ^ 62) ≤ lo) (h2 : lo < 2 ^ 62) (h3 : -(2 ^ 62) ≤ hi) (h4 : hi < 2 ^ 62)
    (q : R (Itr lo (hi - lo).toNat) H) : wpAny (model X.prog X.w) X.A (pyIter (.ref s.heap.objs.size)) (PIE X pins σ tg R) E { s with heap := s.heap.push { cls := .type "range", data := .fields #[.int lo t, .int hi u, .int 1 v] }, toks := tk } := by
  refine wpAny_pyIter_range (IsRange.new ..) (small_one h1 h2 h3 h4) ?_
  have I1 : Inv X pins σ H { s with heap := s.heap.push { cls := .type "range", data := .fields #[.int lo t, .int hi u, .int 1 v] }, toks := tk } := I.kept fun b o e => Heap.get?_push_of_some _ e
  refine ⟨(s.heap.push { cls := .type "range", data := .fields #[.int lo t, .int hi u, .int 1 v] }).objs.size, [(s.heap.push { cls := .type "range", data := .fields #[.int lo t, .int hi u, .int 1 v] }).objs.size], _, _, H, rfl,
    I1.kept (t' := tk) fun b o e => Heap.get?_push_of_some _ e, turn_range _ lo (hi - lo).toNat, ?_, fun b hb => ?_, q⟩
  · have e1 : lo + ((0 : Nat) : Int) * 1 = lo := by simp
    have e2 : (((hi - lo).toNat : Nat) : Int) - ((0 : Nat) : Int) = Builtin.Range.rangeSize lo hi 1 := by rw [rangeSize_one]; split <;> omega
    show IsRangeIter _ _ (lo + ((0 : Nat) : Int) * 1) ((((hi - lo).toNat : Nat) : Int) - ((0 : Nat) : Int)) 1
    rw [e1, e2]
    exact Heap.get?_push_size _ rfl
  · have e : b = (s.heap.push { cls := .type "range", data := .fields #[.int lo t, .int hi u, .int 1 v] }).objs.size := by simpa using hb
    subst e
    exact I1.fpOk (Nat.le_refl _) (I1.hok.fresh (Nat.le_refl _))
def iRng1 (ta : TA) : TI := fun σ H R => ta σ H fun vs H1 => ∃ j : Int, vs = [.int j] ∧ -(2 ^ 62) ≤ j ∧ j < 2 ^ 62 ∧ R (Itr 0 j.toNat) H1
theorem pi_range1 {a : Expr} {ta : TA} {p pos : Pos} (hg : Gl X "range") (hm : X.mg "range" = none) (ha : PA X [a] ta) (hs : starEach [a] X.env = [(false, eval a X.env)] := by rfl) : PI X tg (.Call (.Name "range" p) [a] [] pos) (iRng1 ta) := by
  intro pins s σ H R I h
  refine Call_ (ld_blt I hg hm boot_range (PyProof.Rows.callWith_type1 (thn (ha pos pins s σ H _ I h) fun us s1 hx9 => ?_) hs rfl))
  obtain ⟨vs, H1, I1, r1, q1⟩ := hx9
  obtain ⟨j, e, q1, q2, q⟩ := q1
  subst e
  cases r1 with
  | cons r rr =>
    cases rr
    obtain ⟨t, rfl⟩ := r
    exact call_range_1 (range_it I1 (by omega) (by omega) q1 q2 (by simpa using q))
def tFor (wi : TI) (g : TG) (tb : TS) : TS := fun D σ H => wi σ H fun J H1 => ∃ W : Nat → Nat → St → Hp → Prop, (∃ m, W 0 m σ H1) ∧ ∀ i m σ H, W i m σ H →
  (J.stop i H ∧ D.nx σ H) ∨ (J.go i H ∧ ∃ N : St → Hp → Prop, (∀ σ' H', N σ' H' → ∃ m', m' < m ∧ W (i + 1) m' σ' H') ∧ ∀ x H', J.yld i H x H' → g x σ H' fun σ2 H2 => tb { D with nx := N, ct := N, bk := D.nx } σ2 H2)
def pinsAt (fp : List Addr) (h : Heap) : List (Addr × Obj) := fp.filterMap fun b => (h.get? b).map fun o => (b, o)
theorem mem_pinsAt {fp : List Addr} {h : Heap} {b : Addr} {o : Obj} (hb : b ∈ fp) (e : h.get? b = some o) : (b, o) ∈ pinsAt fp h := List.mem_filterMap.mpr ⟨b, hb, by rw [e]; rfl⟩
theorem of_pinsAt {fp : List Addr} {h : Heap} {p : Addr × Obj} (hp : p ∈ pinsAt fp h) : p.1 ∈ fp ∧ h.get? p.1 = some p.2 := by
  obtain ⟨b, hb, e⟩ := List.mem_filterMap.mp hp
  cases q : h.get? b with
  | none => rw [q] at e; cases e
  | some o =>
    rw [q] at e
    have e' : (b, o) = p := Option.some.inj e
    subst e'
    exact ⟨hb, q⟩
theorem Inv.pinned {pins : List (Addr × Obj)} {σ : St} {H : Hp} {s : Shared} {fp : List Addr} (I : Inv X pins σ H s) (hf : ∀ b ∈ fp, FpOk X pins H b) (ho : ∀ b ∈ fp, ∃ o, s.heap.get? b = some o ∧ ∀ v, o.data ≠ .cell v) : Inv X (pins ++ pinsAt fp s.heap) σ H s :=
  I.pins_of fun p hp => (List.mem_append.mp hp).elim (fun z => I.pin p (List.mem_append_right _ z)) fun z => by
    obtain ⟨hb, e⟩ := of_pinsAt z
    obtain ⟨f0, f1, f2, _⟩ := hf p.1 hb
    obtain ⟨o, e', d⟩ := ho p.1 hb
    rw [e] at e'; cases e'
    exact ⟨e, f0, f1, f2, d⟩
theorem Inv.unpinned {pins pl : List (Addr × Obj)} {σ : St} {H : Hp} {s : Shared} (I : Inv X (pins ++ pl) σ H s) : Inv X pins σ H s := I.pins_of fun p hp => I.pin p (List.mem_append_right _ (List.mem_append_left _ hp))
theorem ps_for {iter : Expr} {body : List Stmt} {wi : TI} {g : TG} {tb : TS} {pos : Pos} (hp : PassesOwn (model X.prog X.w) X.A X.env X.xe) (hc : X.calm = true) (hi : PI X tg iter wi) (hg : PG X tg g) (hb : PSs X body tb)
    (hs : ∀ x, foldedSetIterable iter X.env x = pure x := by intro _; rfl) : PS X (.For tg iter body [] pos) (tFor wi g tb) := by
  intro pins s σ H D I h
  refine wpAny_For (thn (hi pins s σ H _ I h) fun v s1 h1 => thn h1 fun itv s2 h2 => ?_) hs
  obtain ⟨it, fp, tn, J, H2, e, I2, T, st2, f2, W, ⟨m0, w0⟩, turn⟩ := h2
  subst e
  -- what stays true of the iterator's objects through the loop
  have stat : ∀ {H' : Hp}, (∀ b ∈ fp, H' b = none) → ∀ b ∈ fp, FpOk X pins H' b := fun hn b hb => ⟨hn b hb, (f2 b hb).2⟩
  refine codeAny_forLoop_any (fun n s' => ∃ i σ' H', Inv X pins σ' H' s' ∧ tn i s'.heap ∧ (∀ b ∈ fp, H' b = none) ∧ W i n σ' H') ?_ m0 ⟨0, σ, H2, I2, st2, fun b hb => (f2 b hb).1, w0⟩
  rintro n s3 ⟨i, σ3, H3, I3, st3, fr3, w3⟩
  rcases turn i n σ3 H3 w3 with ⟨stop, qn⟩ | ⟨go, N, hN, step⟩
  · refine wpAny_passesOwn hp (thn (T.done X rfl rfl rfl hc i pins s3 σ3 H3 X.xe I3 (stat fr3) st3 stop) fun r s4 hx9 => ?_)
    obtain ⟨hr, I4⟩ := hx9
    subst hr
    exact wpAny_execs_nil ⟨σ3, H3, I4, qn⟩
  · refine wpAny_passesOwn hp (thn (T.item X rfl rfl rfl hc i pins s3 σ3 H3 X.xe I3 (stat fr3) st3 go) fun r s4 hx9 => ?_)
    obtain ⟨u, hr, h4⟩ := hx9
    subst hr
    refine wpAny_passesOwn hp (thn h4 fun _ s5 hx9 => ?_)
    obtain ⟨x, H5, I5, r5, y5, st5, fr5⟩ := hx9
    have I5' := I5.pinned (stat fr5) (T.obj _ _ st5)
    refine wpAny_passesOwn hp (thn (hg _ s5 σ3 H5 x u _ I5' r5 (step x H5 y5)) fun _ s6 hx9 => ?_)
    obtain ⟨σ6, H6, I6, q6⟩ := hx9
    refine wpAny_passesOwn hp (thn (hb _ s6 σ6 H6 _ I6 q6) fun f s7 q7 => ?_)
    have again : ∀ {σ7 : St} {H7 : Hp}, Inv X (pins ++ pinsAt fp s5.heap) σ7 H7 s7 → N σ7 H7 → ∃ m, m < n ∧ ∃ i σ' H', Inv X pins σ' H' s7 ∧ tn i s7.heap ∧ (∀ b ∈ fp, H' b = none) ∧ W i m σ' H' := fun {σ7 H7} I7 n7 => by
      obtain ⟨m', hm, w7⟩ := hN σ7 H7 n7
      refine ⟨m', hm, i + 1, σ7, H7, I7.unpinned, T.keep _ _ _ st5 fun b hb o e => (I7.pin (b, o) (List.mem_append_right _ (List.mem_append_right _ (mem_pinsAt hb e)))).1, fun b hb => ?_, w7⟩
      obtain ⟨o, e, d⟩ := T.obj _ _ st5 b hb
      exact (I7.pin (b, o) (List.mem_append_right _ (List.mem_append_right _ (mem_pinsAt hb e)))).2.1
    cases f with
    | next => obtain ⟨σ7, H7, I7, n7⟩ := q7; exact again I7 n7
    | cont => obtain ⟨σ7, H7, I7, n7⟩ := q7; exact again I7 n7
    | brk => obtain ⟨σ7, H7, I7, q7⟩ := q7; exact ⟨σ7, H7, I7.unpinned, q7⟩
    | ret v => obtain ⟨x7, σ7, H7, I7, r7, q7⟩ := q7; exact ⟨x7, σ7, H7, I7.unpinned, r7, q7⟩
end

theorem for_list {K : PySem.W.Frag} {a : Addr} {xs : List V} {g : TG} {tb : TS} {D : Ends} {σ : St} {H : Hp} (Pv : Nat → St → Hp → Prop) (h0 : Pv 0 σ H) (hl : ∀ i σ H, i ≤ xs.length → Pv i σ H → SqL K H a xs)
    (hs : ∀ i x σ H, xs[i]? = some x → Pv i σ H → g x σ H fun σ2 H2 => tb { D with nx := Pv (i + 1), ct := Pv (i + 1), bk := D.nx } σ2 H2) (hd : ∀ σ H, Pv xs.length σ H → D.nx σ H) :
    ∃ W : Nat → Nat → St → Hp → Prop, (∃ m, W 0 m σ H) ∧ ∀ i m σ H, W i m σ H →
      ((Itl K a).stop i H ∧ D.nx σ H) ∨ ((Itl K a).go i H ∧ ∃ N : St → Hp → Prop, (∀ σ' H', N σ' H' → ∃ m', m' < m ∧ W (i + 1) m' σ' H') ∧ ∀ x H', (Itl K a).yld i H x H' → g x σ H' fun σ2 H2 => tb { D with nx := N, ct := N, bk := D.nx } σ2 H2) := by
  refine ⟨fun i m σ H => m = xs.length - i ∧ i ≤ xs.length ∧ Pv i σ H, ⟨xs.length, by simp, Nat.zero_le _, h0⟩, ?_⟩
  rintro i m σ H ⟨rfl, hi, p⟩
  have q := hl i σ H hi p
  by_cases hlt : i < xs.length
  · refine .inr ⟨⟨xs, xs[i], q, by simp [hlt]⟩, Pv (i + 1), fun σ' H' p' => ⟨xs.length - (i + 1), by omega, rfl, hlt, p'⟩, fun x H' y => ?_⟩
    obtain ⟨e, y⟩ := y
    subst e
    exact hs i x σ _ (y xs q) p
  · have e : i = xs.length := by omega
    subst e
    exact .inl ⟨⟨xs, q, Nat.le_refl _⟩, hd σ H p⟩
theorem for_tup {K : PySem.W.Frag} {a : Addr} {xs : List V} {g : TG} {tb : TS} {D : Ends} {σ : St} {H : Hp} (Pv : Nat → St → Hp → Prop) (h0 : Pv 0 σ H) (hl : ∀ i σ H, i ≤ xs.length → Pv i σ H → SqT K H a xs)
    (hs : ∀ i x σ H, xs[i]? = some x → Pv i σ H → g x σ H fun σ2 H2 => tb { D with nx := Pv (i + 1), ct := Pv (i + 1), bk := D.nx } σ2 H2) (hd : ∀ σ H, Pv xs.length σ H → D.nx σ H) :
    ∃ W : Nat → Nat → St → Hp → Prop, (∃ m, W 0 m σ H) ∧ ∀ i m σ H, W i m σ H →
      ((Itt K a).stop i H ∧ D.nx σ H) ∨ ((Itt K a).go i H ∧ ∃ N : St → Hp → Prop, (∀ σ' H', N σ' H' → ∃ m', m' < m ∧ W (i + 1) m' σ' H') ∧ ∀ x H', (Itt K a).yld i H x H' → g x σ H' fun σ2 H2 => tb { D with nx := N, ct := N, bk := D.nx } σ2 H2) := by
  refine ⟨fun i m σ H => m = xs.length - i ∧ i ≤ xs.length ∧ Pv i σ H, ⟨xs.length, by simp, Nat.zero_le _, h0⟩, ?_⟩
  rintro i m σ H ⟨rfl, hi, p⟩
  have q := hl i σ H hi p
  by_cases hlt : i < xs.length
  · refine .inr ⟨⟨xs, xs[i], q, by simp [hlt]⟩, Pv (i + 1), fun σ' H' p' => ⟨xs.length - (i + 1), by omega, rfl, hlt, p'⟩, fun x H' y => ?_⟩
    obtain ⟨e, y⟩ := y
    subst e
    exact hs i x σ _ (y xs q) p
  · have e : i = xs.length := by omega
    subst e
    exact .inl ⟨⟨xs, q, Nat.le_refl _⟩, hd σ H p⟩
theorem for_range {lo : Int} {n : Nat} {g : TG} {tb : TS} {D : Ends} {σ : St} {H : Hp} (Pv : Nat → St → Hp → Prop) (h0 : Pv 0 σ H)
    (hs : ∀ i σ H, i < n → Pv i σ H → g (.int (lo + i)) σ H fun σ2 H2 => tb { D with nx := Pv (i + 1), ct := Pv (i + 1), bk := D.nx } σ2 H2) (hd : ∀ σ H, Pv n σ H → D.nx σ H) :
    ∃ W : Nat → Nat → St → Hp → Prop, (∃ m, W 0 m σ H) ∧ ∀ i m σ H, W i m σ H →
      ((Itr lo n).stop i H ∧ D.nx σ H) ∨ ((Itr lo n).go i H ∧ ∃ N : St → Hp → Prop, (∀ σ' H', N σ' H' → ∃ m', m' < m ∧ W (i + 1) m' σ' H') ∧ ∀ x H', (Itr lo n).yld i H x H' → g x σ H' fun σ2 H2 => tb { D with nx := N, ct := N, bk := D.nx } σ2 H2) := by
  refine ⟨fun i m σ H => m = n - i ∧ i ≤ n ∧ Pv i σ H, ⟨n, by simp, Nat.zero_le _, h0⟩, ?_⟩
  rintro i m σ H ⟨rfl, hi, p⟩
  by_cases hlt : i < n
  · refine .inr ⟨hlt, Pv (i + 1), fun σ' H' p' => ⟨n - (i + 1), by omega, rfl, hlt, p'⟩, fun x H' y => ?_⟩
    obtain ⟨e, y⟩ := y
    subst e y
    exact hs i σ _ hlt p
  · have e : i = n := by omega
    subst e
    exact .inl ⟨Nat.le_refl _, hd σ H p⟩
end L2

namespace L2
open PySem PySem.Spec PyProof.Rows

abbrev R2 := V → V → Hp → VK → Prop
def OpR (X : Cx) (f : Value → Value → Sem Value) (r : R2) : Prop :=
  ∀ (pins : List (Addr × Obj)) (s : Shared) (σ : St) (H : Hp) (x y : V) (v u : Value) (Q : VK), Inv X pins σ H s → RelV x v → RelV y u → r x y H Q →
    wpAny (model X.prog X.w) X.A (f v u) (EP X pins σ Q) X.xe s
def UnR (X : Cx) (f : Value → Sem Value) (r : V → Hp → VK → Prop) : Prop :=
  ∀ (pins : List (Addr × Obj)) (s : Shared) (σ : St) (H : Hp) (x : V) (v : Value) (Q : VK), Inv X pins σ H s → RelV x v → r x H Q →
    wpAny (model X.prog X.w) X.A (f v) (EP X pins σ Q) X.xe s
def CallR (X : Cx) (f : Value) (r : List V → Hp → VK → Prop) : Prop :=
  ∀ (pins : List (Addr × Obj)) (s : Shared) (σ : St) (H : Hp) (xs : List V) (us : List Value) (Q : VK), Inv X pins σ H s → Vals xs us → r xs H Q →
    wpAny (model X.prog X.w) X.A (call f us) (EP X pins σ Q) X.xe s
def tOp (r : R2) (ta tb : TE) : TE := fun σ H Q => ta σ H fun x H1 => tb σ H1 fun y H2 => r x y H2 Q
def tUn (r : V → Hp → VK → Prop) (ta : TE) : TE := fun σ H Q => ta σ H fun x H1 => r x H1 Q
def rI (C : Int → Int → Prop) (g : Int → Int → V) : R2 := fun x y H Q => ∃ i j, x = .int i ∧ y = .int j ∧ C i j ∧ Q (g i j) H
def rI0 (g : Int → Int → V) : R2 := fun x y H Q => ∃ i j, x = .int i ∧ y = .int j ∧ Q (g i j) H
def rU (g : Int → V) : V → Hp → VK → Prop := fun x H Q => ∃ i, x = .int i ∧ Q (g i) H

section
variable {X : Cx} {a b c : Expr} {ta tb tc : TE} {pos : Pos}

theorem binT (ha : PE X a ta) (hb : PE X b tb) {pins : List (Addr × Obj)} {s : Shared} {σ : St} {H : Hp} {R : V → V → Hp → Prop} (I : Inv X pins σ H s)
    (h : ta σ H fun x H1 => tb σ H1 fun y H2 => R x y H2) {Q : Value → Shared → Prop} {f : Value → Value → Sem Value}
    (hf : ∀ v u s2 x y H2, Inv X pins σ H2 s2 → RelV x v → RelV y u → R x y H2 → wpAny (model X.prog X.w) X.A (f v u) Q X.xe s2) :
    wpAny (model X.prog X.w) X.A (eval a X.env) (fun v s₁ => wpAny (model X.prog X.w) X.A (eval b X.env) (fun u s₂ => wpAny (model X.prog X.w) X.A (f v u) Q X.xe s₂) X.xe s₁) X.xe s := by
  refine thn (ha pins s σ H _ I h) fun v s1 hx9 => ?_
  obtain ⟨x, H1, I1, r1, q1⟩ := hx9
  refine thn (hb pins s1 σ H1 _ I1 q1) fun u s2 hx9 => ?_
  obtain ⟨y, H2, I2, r2, q2⟩ := hx9
  exact hf v u s2 x y H2 I2 r1 r2 q2

theorem pe_op {op : Operator} {r : R2} (ho : OpR X (binaryOp op) r) (ha : PE X a ta) (hb : PE X b tb) : PE X (.BinOp a op b pos) (tOp r ta tb) := by
  intro pins s σ H Q I h
  exact wpAny_BinOp (binT ha hb I h fun v u s2 x y H2 I2 rx ry q => ho pins s2 σ H2 x y v u Q I2 rx ry q)
theorem pe_un {op : UnaryOp} {r : V → Hp → VK → Prop} (ho : UnR X (unaryOp op) r) (ha : PE X a ta) : PE X (.UnaryOp op a pos) (tUn r ta) := by
  intro pins s σ H Q I h
  refine UnaryOp_ (thn (ha pins s σ H _ I h) fun v s1 hx9 => ?_)
  obtain ⟨x, H1, I1, r1, q1⟩ := hx9
  exact ho pins s1 σ H1 x v Q I1 r1 q1
theorem opI {f : Value → Value → Sem Value} {C : Int → Int → Prop} {g : Int → Int → Int}
    (rule : ∀ (i j : Int) (t u : Tok) (s : Shared) (Q : Value → Shared → Prop) (E : Value → Shared → Prop), C i j → Q (.int (g i j) s.toks) { s with toks := s.toks + 1 } → wpAny (model X.prog X.w) X.A (f (.int i t) (.int j u)) Q E s) :
    OpR X f (rI C fun i j => .int (g i j)) := by
  intro pins s σ H x y v u Q I rx ry h
  obtain ⟨i, j, rfl, rfl, hc, q⟩ := h
  obtain ⟨t, rfl⟩ := rx
  obtain ⟨t', rfl⟩ := ry
  exact rule i j t t' s _ _ hc ⟨.int (g i j), H, I.tok _, ⟨_, rfl⟩, q⟩
theorem opI0 {f : Value → Value → Sem Value} {g : Int → Int → Int}
    (rule : ∀ (i j : Int) (t u : Tok) (s : Shared) (Q : Value → Shared → Prop) (E : Value → Shared → Prop), Q (.int (g i j) s.toks) { s with toks := s.toks + 1 } → wpAny (model X.prog X.w) X.A (f (.int i t) (.int j u)) Q E s) :
    OpR X f (rI0 fun i j => .int (g i j)) := by
  intro pins s σ H x y v u Q I rx ry h
  obtain ⟨i, j, rfl, rfl, q⟩ := h
  obtain ⟨t, rfl⟩ := rx
  obtain ⟨t', rfl⟩ := ry
  exact rule i j t t' s _ _ ⟨.int (g i j), H, I.tok _, ⟨_, rfl⟩, q⟩
theorem opB0 {f : Value → Value → Sem Value} {g : Int → Int → Bool}
    (rule : ∀ (i j : Int) (t u : Tok) (s : Shared) (Q : Value → Shared → Prop) (E : Value → Shared → Prop), Q (.bool (g i j)) s → wpAny (model X.prog X.w) X.A (f (.int i t) (.int j u)) Q E s) :
    OpR X f (rI0 fun i j => .bl (g i j)) := by
  intro pins s σ H x y v u Q I rx ry h
  obtain ⟨i, j, rfl, rfl, q⟩ := h
  obtain ⟨t, rfl⟩ := rx
  obtain ⟨t', rfl⟩ := ry
  exact rule i j t t' s _ _ ⟨.bl (g i j), H, I, rfl, q⟩

def CPow (i j : Int) : Prop := 0 ≤ j ∧ j ≤ 1000000 ∧ i.natAbs < 2 ^ 64
def CMul (i j : Int) : Prop := (-(2 ^ 64) < i ∧ i < 2 ^ 64) ∨ (-(2 ^ 64) < j ∧ j < 2 ^ 64)
theorem CMul.ok {i j : Int} (h : CMul i j) : IntMulOk i j := by
  rcases h with ⟨h1, h2⟩ | ⟨h1, h2⟩
  · exact .of_left (intBits_le_64 h1 h2)
  · exact .of_right (intBits_le_64 h1 h2)
theorem op_add : OpR X (binaryOp .Add) (rI0 fun i j => .int (i + j)) := opI0 fun _ _ _ _ _ _ _ q => add_int q
theorem op_sub : OpR X (binaryOp .Sub) (rI0 fun i j => .int (i - j)) := opI0 fun _ _ _ _ _ _ _ q => sub_int q
theorem op_mul : OpR X (binaryOp .Mult) (rI CMul fun i j => .int (i * j)) := opI fun _ _ _ _ _ _ _ hc q => mul_int q hc.ok
theorem op_mod : OpR X (binaryOp .Mod) (rI (fun _ j => 0 < j) fun i j => .int (i % j)) := opI fun i j _ _ _ _ _ hc q => by
  have h1 : (0 : Int) < j := hc
  exact mod_int' (by omega) (by rw [Int.fmod_eq_emod_of_nonneg i (by omega)]; exact q)
theorem op_pow : OpR X (binaryOp .Pow) (rI CPow fun i j => .int (i ^ j.toNat)) := opI fun _ _ _ _ _ _ _ hc q => pow_int_small hc.1 hc.2.1 hc.2.2 q
theorem unI {f : Value → Sem Value} {g : Int → Int}
    (rule : ∀ (i : Int) (t : Tok) (s : Shared) (Q : Value → Shared → Prop) (E : Value → Shared → Prop), Q (.int (g i) s.toks) { s with toks := s.toks + 1 } → wpAny (model X.prog X.w) X.A (f (.int i t)) Q E s) :
    UnR X f (rU fun i => .int (g i)) := by
  intro pins s σ H x v Q I rx h
  obtain ⟨i, rfl, q⟩ := h
  obtain ⟨t, rfl⟩ := rx
  exact rule i t s _ _ ⟨.int (g i), H, I.tok _, ⟨_, rfl⟩, q⟩
theorem un_neg : UnR X (unaryOp .USub) (rU fun i => .int (-i)) := unI fun _ _ _ _ _ q => neg_int q
end

def scal : V → V → Bool
  | .non, .non => true | .non, .int _ => true | .int _, .non => true | .non, .bl _ => true | .bl _, .non => true | .non, .str _ => true | .str _, .non => true
  | .int _, .int _ => true | .bl _, .bl _ => true | .str _, .str _ => true | .byt _, .byt _ => true
  | .int _, .str _ => true | .str _, .int _ => true | .bl _, .str _ => true | .str _, .bl _ => true
  | _, _ => false
def rEq : R2 := fun x y H Q => scal x y = true ∧ Q (.bl (decide (x = y))) H
def rNe : R2 := fun x y H Q => scal x y = true ∧ Q (.bl (!decide (x = y))) H

theorem dec_int {i j : Int} : decide (V.int i = V.int j) = (i == j) := by
  rw [Bool.eq_iff_iff]
  simp
theorem dec_bl {i j : Bool} : decide (V.bl i = V.bl j) = (i == j) := by
  rw [Bool.eq_iff_iff]
  simp
theorem dec_str {i j : Str} : decide (V.str i = V.str j) = (i == j) := by
  rw [Bool.eq_iff_iff]
  simp
theorem dec_byt {i j : Array UInt8} : decide (V.byt i = V.byt j) = (i.toList == j.toList) := by
  rw [Bool.eq_iff_iff]
  cases i
  cases j
  simp

section
variable {X : Cx} {a b c : Expr} {ta tb tc : TE} {pos : Pos}
theorem fin_bl {pins : List (Addr × Obj)} {σ : St} {H : Hp} {s : Shared} {Q : VK} {k k' : Bool} (I : Inv X pins σ H s) (q : Q (.bl k) H) (e : k = k') : EP X pins σ Q (.bool k') s := by
  subst e
  exact ⟨.bl k, H, I, rfl, q⟩
theorem op_eq : OpR X (compareOp .Eq) rEq := by
  intro pins s σ H x y v u Q I rx ry h
  obtain ⟨hs, q⟩ := h
  cases x with
  | non =>
    cases rx
    cases y with
    | non => cases ry; exact PySem.EqNone.eq_none_none (fin_bl I q (by simp))
    | bl j => cases ry; exact PySem.EqNone.eq_none_bool (fin_bl I q (by simp))
    | int j => obtain ⟨t', rfl⟩ := ry; exact PySem.EqNone.eq_none_int (fin_bl I q (by simp))
    | str j => obtain ⟨t', rfl⟩ := ry; exact PySem.EqNone.eq_none_str (fin_bl I q (by simp))
    | _ => exact absurd (show false = true from hs) Bool.false_ne_true
  | bl i =>
    cases rx
    cases y with
    | non => cases ry; exact PySem.EqNone.eq_bool_none (fin_bl I q (by simp))
    | bl j => cases ry; exact eq_bool (fin_bl I q dec_bl)
    | str j => obtain ⟨t', rfl⟩ := ry; exact PySem.EqMixed.eq_bool_str (fin_bl I q (by simp))
    | _ => exact absurd (show false = true from hs) Bool.false_ne_true
  | int i =>
    obtain ⟨t, rfl⟩ := rx
    cases y with
    | non => cases ry; exact PySem.EqNone.eq_int_none (fin_bl I q (by simp))
    | int j => obtain ⟨t', rfl⟩ := ry; exact eq_int (fin_bl I q dec_int)
    | str j => obtain ⟨t', rfl⟩ := ry; exact PySem.EqMixed.eq_int_str (fin_bl I q (by simp))
    | _ => exact absurd (show false = true from hs) Bool.false_ne_true
  | str i =>
    obtain ⟨t, rfl⟩ := rx
    cases y with
    | non => cases ry; exact PySem.EqNone.eq_str_none (fin_bl I q (by simp))
    | bl j => cases ry; exact PySem.EqMixed.eq_str_bool (fin_bl I q (by simp))
    | int j => obtain ⟨t', rfl⟩ := ry; exact PySem.EqMixed.eq_str_int (fin_bl I q (by simp))
    | str j => obtain ⟨t', rfl⟩ := ry; exact eq_str (fin_bl I q dec_str)
    | _ => exact absurd (show false = true from hs) Bool.false_ne_true
  | byt i =>
    obtain ⟨t, rfl⟩ := rx
    cases y with
    | byt j => obtain ⟨t', rfl⟩ := ry; exact PySem.W.eq_bytes (fin_bl I q dec_byt)
    | _ => exact absurd (show false = true from hs) Bool.false_ne_true
  | _ => cases y <;> exact absurd (show false = true from hs) Bool.false_ne_true
theorem op_ne : OpR X (compareOp .NotEq) rNe := by
  intro pins s σ H x y v u Q I rx ry h
  obtain ⟨hs, q⟩ := h
  cases x with
  | non =>
    cases rx
    cases y with
    | non => cases ry; exact PySem.EqNone.ne_none_none (fin_bl I q (by simp))
    | bl j => cases ry; exact PySem.EqNone.ne_none_bool (fin_bl I q (by simp))
    | int j => obtain ⟨t', rfl⟩ := ry; exact PySem.EqNone.ne_none_int (fin_bl I q (by simp))
    | str j => obtain ⟨t', rfl⟩ := ry; exact PySem.EqNone.ne_none_str (fin_bl I q (by simp))
    | _ => exact absurd (show false = true from hs) Bool.false_ne_true
  | bl i =>
    cases rx
    cases y with
    | non => cases ry; exact PySem.EqNone.ne_bool_none (fin_bl I q (by simp))
    | bl j => cases ry; exact ne_bool (fin_bl I q (congrArg not dec_bl))
    | str j => obtain ⟨t', rfl⟩ := ry; exact PySem.EqMixed.ne_bool_str (fin_bl I q (by simp))
    | _ => exact absurd (show false = true from hs) Bool.false_ne_true
  | int i =>
    obtain ⟨t, rfl⟩ := rx
    cases y with
    | non => cases ry; exact PySem.EqNone.ne_int_none (fin_bl I q (by simp))
    | int j => obtain ⟨t', rfl⟩ := ry; exact ne_int (fin_bl I q (congrArg not dec_int))
    | str j => obtain ⟨t', rfl⟩ := ry; exact PySem.EqMixed.ne_int_str (fin_bl I q (by simp))
    | _ => exact absurd (show false = true from hs) Bool.false_ne_true
  | str i =>
    obtain ⟨t, rfl⟩ := rx
    cases y with
    | non => cases ry; exact PySem.EqNone.ne_str_none (fin_bl I q (by simp))
    | bl j => cases ry; exact PySem.EqMixed.ne_str_bool (fin_bl I q (by simp))
    | int j => obtain ⟨t', rfl⟩ := ry; exact PySem.EqMixed.ne_str_int (fin_bl I q (by simp))
    | str j => obtain ⟨t', rfl⟩ := ry; exact ne_str (fin_bl I q (congrArg not dec_str))
    | _ => exact absurd (show false = true from hs) Bool.false_ne_true
  | byt i =>
    obtain ⟨t, rfl⟩ := rx
    cases y with
    | byt j => obtain ⟨t', rfl⟩ := ry; exact PySem.W.ne_bytes (fin_bl I q (congrArg not dec_byt))
    | _ => exact absurd (show false = true from hs) Bool.false_ne_true
  | _ => cases y <;> exact absurd (show false = true from hs) Bool.false_ne_true

theorem op_lt : OpR X (compareOp .Lt) (rI0 fun i j => .bl (decide (i < j))) := opB0 fun _ _ _ _ _ _ _ q => lt_int q
theorem op_le : OpR X (compareOp .LtE) (rI0 fun i j => .bl (decide (i ≤ j))) := opB0 fun _ _ _ _ _ _ _ q => le_int q
theorem op_gt : OpR X (compareOp .Gt) (rI0 fun i j => .bl (decide (j < i))) := opB0 fun _ _ _ _ _ _ _ q => gt_int q
theorem op_ge : OpR X (compareOp .GtE) (rI0 fun i j => .bl (decide (j ≤ i))) := opB0 fun _ _ _ _ _ _ _ q => ge_int q
theorem op_isN : OpR X (compareOp .Is) (fun x y H Q => y = .non ∧ Q (.bl (decide (x = .non))) H) := by
  intro pins s σ H x y v u Q I rx ry h
  obtain ⟨rfl, q⟩ := h
  cases ry
  refine is_none_gen (fin_bl I q ?_)
  cases x <;> first
    | (cases rx; rfl)
    | (obtain ⟨t, rfl⟩ := rx; rfl)
theorem OpR.or {f : Value → Value → Sem Value} {r r' : R2} (h : OpR X f r) (h' : OpR X f r') : OpR X f (fun x y H Q => r x y H Q ∨ r' x y H Q) := by
  intro pins s σ H x y v u Q I rx ry q
  rcases q with q | q
  · exact h pins s σ H x y v u Q I rx ry q
  · exact h' pins s σ H x y v u Q I rx ry q

theorem nomark (b : Expr) {op : CmpOp} (h : op ≠ .In := by decide) (h2 : op ≠ .NotIn := by decide) : behindInMarks op b = false := by
  have e1 : (op == CmpOp.In) = false := by cases op <;> first | rfl | exact absurd rfl h
  have e2 : (op == CmpOp.NotIn) = false := by cases op <;> first | rfl | exact absurd rfl h2
  cases b <;> simp [behindInMarks, e1, e2]
theorem pe_cmpR {op : CmpOp} {r : R2} (ho : OpR X (compareOp op) r) (ha : PE X a ta) (hb : PE X b tb) (hm : behindInMarks op b = false) : PE X (.Compare a [op] [b] pos) (tOp r ta tb) := by
  intro pins s σ H Q I h
  exact wpAny_Compare1 (binT ha hb I h fun v u s2 x y H2 I2 rx ry q => ho pins s2 σ H2 x y v u Q I2 rx ry q) hm
def tTest (t : TE) : TT := fun σ H Q => t σ H fun x H' => ∃ k, x = .bl k ∧ Q k H'
theorem pt_cmpR {op : CmpOp} {r : R2} (ho : OpR X (compareOp op) r) (ha : PE X a ta) (hb : PE X b tb) (hm : behindInMarks op b = false) : PT X (.Compare a [op] [b] pos) (tTest (tOp r ta tb)) := by
  intro pins s σ H Q I h
  refine wpAny_isTrue_Compare1 (thn (ha pins s σ H _ I h) fun v s1 ⟨x, H1, I1, r1, q1⟩ => thn (hb pins s1 σ H1 _ I1 q1) fun u s2 ⟨y, H2, I2, r2, q2⟩ =>
    thn (ho pins s2 σ H2 x y v u _ I2 r1 r2 q2) fun c s3 ⟨z, H3, I3, r3, k, e, q3⟩ => ?_) hm
  subst e
  cases r3
  exact wpAny_truthy_bool ⟨H3, I3, q3⟩
def tChain (r r' : R2) (ta tb tc : TE) : TE := fun σ H Q => ta σ H fun x H1 => tb σ H1 fun y H2 => r x y H2 fun z H3 => ∃ k, z = .bl k ∧
  (if k = true then tc σ H3 fun w' H4 => r' y w' H4 Q else Q (.bl false) H3)
theorem pe_chain {op op' : CmpOp} {r r' : R2} (ho : OpR X (compareOp op) r) (ho' : OpR X (compareOp op') r') (ha : PE X a ta) (hb : PE X b tb) (hc : PE X c tc)
    (hm : lastMarks [op, op'] [b, c] = false := by with_unfolding_all rfl) : PE X (.Compare a [op, op'] [b, c] pos) (tChain r r' ta tb tc) := by
  intro pins s σ H Q I h
  refine Compare_chain (thn (ha pins s σ H _ I h) fun v s1 ⟨x, H1, I1, r1, q1⟩ => chain_link (thn (hb pins s1 σ H1 _ I1 q1) fun u s2 ⟨y, H2, I2, r2, q2⟩ =>
    thn (ho pins s2 σ H2 x y v u _ I2 r1 r2 q2) fun d s3 ⟨z, H3, I3, r3, k, e, q3⟩ => ?_)) hm
  subst e
  cases r3
  refine wpAny_truthy_bool ?_
  cases k with
  | false => exact ite_ff ⟨.bl false, H3, I3, rfl, q3⟩
  | true => exact ite_tt (chain_last (thn (hc pins s3 σ H3 _ I3 q3) fun w' s4 ⟨z', H4, I4, r4, q4⟩ => ho' pins s4 σ H4 y z' u w' Q I4 r2 r4 q4))
theorem pt_chain {op op' : CmpOp} {r r' : R2} (ho : OpR X (compareOp op) r) (ho' : OpR X (compareOp op') r') (ha : PE X a ta) (hb : PE X b tb) (hc : PE X c tc)
    (hm : lastMarks [op, op'] [b, c] = false := by with_unfolding_all rfl) : PT X (.Compare a [op, op'] [b, c] pos) (tTest (tChain r r' ta tb tc)) := by
  intro pins s σ H Q I h
  refine isTrue_chain (thn (ha pins s σ H _ I h) fun v s1 ⟨x, H1, I1, r1, q1⟩ => test_link (thn (hb pins s1 σ H1 _ I1 q1) fun u s2 ⟨y, H2, I2, r2, q2⟩ =>
    thn (ho pins s2 σ H2 x y v u _ I2 r1 r2 q2) fun d s3 ⟨z, H3, I3, r3, k, e, q3⟩ => ?_)) hm
  subst e
  cases r3
  refine wpAny_truthy_bool ?_
  cases k with
  | false =>
    obtain ⟨k', e', q'⟩ := q3
    cases e'
    exact ite_ff ⟨H3, I3, q'⟩
  | true =>
    refine ite_tt (test_last (thn (hc pins s3 σ H3 _ I3 q3) fun w' s4 ⟨z', H4, I4, r4, q4⟩ => thn (ho' pins s4 σ H4 y z' u w' _ I4 r2 r4 q4) fun d' s5 hx9 => ?_))
    obtain ⟨z2, H5, I5, r5, k2, e2, q5⟩ := hx9
    subst e2
    cases r5
    exact wpAny_truthy_bool ⟨H5, I5, q5⟩

theorem line63 : (sizeLine : Nat) < 2 ^ 63 := by rw [sizeLine_eq]; decide
theorem vals1 {x : V} {us : List Value} (r : Vals [x] us) : ∃ u, us = [u] ∧ RelV x u := by
  cases r with
  | cons r1 r2 => cases r2; exact ⟨_, rfl, r1⟩
theorem vals2 {x y : V} {us : List Value} (r : Vals [x, y] us) : ∃ u w', us = [u, w'] ∧ RelV x u ∧ RelV y w' := by
  cases r with
  | cons r1 r2 =>
    cases r2 with
    | cons r3 r4 => cases r4; exact ⟨_, _, rfl, r1, r3⟩
theorem call_int1 : CallR X (.type "int") (fun xs H Q => (∃ i, xs = [.int i] ∧ Q (.int i) H) ∨ ∃ k, xs = [.bl k] ∧ Q (.int (if k then 1 else 0)) H) := by
  intro pins s σ H xs us Q I r h
  rcases h with ⟨i, rfl, q⟩ | ⟨k, rfl, q⟩
  · obtain ⟨u, rfl, t, rfl⟩ := vals1 r
    exact call_int_int ⟨.int i, H, I, ⟨_, rfl⟩, q⟩
  · obtain ⟨u, rfl, r1⟩ := vals1 r
    cases r1
    exact call_int_bool ⟨.int (if k then 1 else 0), H, I.tok _, ⟨_, rfl⟩, q⟩
end
end L2

namespace L2
open PySem PySem.Spec PyProof.Rows

structure ObjM (h : Heap) (x dx C : Addr) (mA : Str → Option Value) : Prop where
  obj : h.get? x = some (PySem.W.instObj C dx)
  ns : h.Ns1 dx mA
  ne : dx ≠ x

section
variable {prog : Program} {w : World} {A : Around} {E : Value → Shared → Prop} {s : Shared} {K : PySem.W.Frag} {x dx C f : Addr} {mA : Str → Option Value} {name : Str} {v : Value}

end

section
variable {P : Program} {w : World} {H H' : Hp} {h h' : Heap} {a C dx : Addr} {fs fs' : List (Str × V)}
end

structure Cls (K : PySem.W.Frag) (C : Addr) : Prop where
  pg : PySem.W.plainGet K C Str.empty = true
  hd : PySem.W.hasDictIn K C = true
  po : PySem.W.plainOver K C = true
  sa : PySem.W.findIn K (.ref C) "__setattr__" = some (some (.builtin "object.__setattr__"))
theorem Cls.get {K : PySem.W.Frag} {C : Addr} (c : Cls K C) (f : Str) : PySem.W.plainGet K C f = true := c.pg
def NoAttr (K : PySem.W.Frag) (C : Addr) (f : Str) : Prop := PySem.W.findIn K (.ref C) f = some none
theorem NoAttr.taker {K : PySem.W.Frag} {C : Addr} {f : Str} (n : NoAttr K C f) : PySem.W.takerIn K C f = some none := by
  unfold PySem.W.takerIn
  rw [show PySem.W.findIn K (.ref C) f = some none from n]
  rfl
structure Con (K : PySem.W.Frag) (C : Addr) (f : Str) (v : V) (u : Value) : Prop where
  at_ : PySem.W.findIn K (.ref C) f = some (some u)
  rel : RelV v u
  get : PySem.W.specialIn K u "__get__" = some none
  cp : PySem.W.copiedNames.contains f = false
structure Meth (K : PySem.W.Frag) (C : Addr) (m : Str) (f : Addr) : Prop where
  at_ : PySem.W.findIn K (.ref C) m = some (some (.ref f))
  fn : PySem.W.isFn K (.ref f) = true
  kp : PySem.W.keepIn K (.ref f) = true

section
variable {X : Cx} {pins : List (Addr × Obj)} {σ : St} {H : Hp} {s : Shared} {a C dx : Addr} {fs : List (Str × V)} {f : Str} {v : V} {A : Around} {E : Value → Shared → Prop}

theorem Inv.made (I : Inv X pins σ H s) : Inv X pins σ (upd (upd H s.heap.objs.size (.own (s.heap.objs.size + 1))) (s.heap.objs.size + 1) (.ins C s.heap.objs.size []))
    { s with heap := (s.heap.push PySem.W.emptyDict).push (PySem.W.instObj C s.heap.objs.size) } := by
  have e1 : (s.heap.push PySem.W.emptyDict).get? s.heap.objs.size = some PySem.W.emptyDict := Heap.get?_push_size s.heap rfl
  have e2 : ((s.heap.push PySem.W.emptyDict).push (PySem.W.instObj C s.heap.objs.size)).get? (s.heap.objs.size + 1) = some (PySem.W.instObj C s.heap.objs.size) := by
    have := Heap.get?_push_size (s.heap.push PySem.W.emptyDict) (o := PySem.W.instObj C s.heap.objs.size) rfl
    rwa [Heap.size_push] at this
  have e3 : (s.heap.push PySem.W.emptyDict).Ns s.heap.objs.size (fun _ => none) := ⟨PySem.W.emptyDict, #[], _, e1, rfl, (fun e he => absurd he (by simp)), fun _ => rfl⟩
  have I1 := I.laid (a := s.heap.objs.size) (o := .own (s.heap.objs.size + 1)) (h' := s.heap.push PySem.W.emptyDict) (t' := s.toks) (fun b u q => Heap.get?_push_of_some _ q) (Nat.le_refl _) ⟨_, e1⟩
  refine I1.laid (a := s.heap.objs.size + 1) (o := .ins C s.heap.objs.size []) (t' := s.toks) (fun b u q => Heap.get?_push_of_some _ q) (Nat.le_of_eq (Heap.size_push _ _)) ?_
  have ne : s.heap.objs.size ≠ s.heap.objs.size + 1 := Nat.ne_of_lt (Nat.lt_succ_self _)
  refine ⟨by rw [upd_ne ne, upd_same], Nat.zero_le _, ne, e2, fun _ => none, (Heap.Ns1.of_empty e3).at fun o q => Heap.get?_push_of_some _ q, fun _ => True.intro, fun y hy => absurd rfl hy⟩

end

section
variable {X : Cx} {o e value : Expr} {f : Str} {pos pos' tpos : Pos} {ta tv : TE}
end

section
variable {X : Cx} {pins : List (Addr × Obj)} {σ : St} {H : Hp} {s : Shared} {A : Around} {E : Value → Shared → Prop} {Q : Value → Shared → Prop} {c : Value} {b : Bool}
inductive TyOf (K : PySem.W.Frag) (H : Hp) : V → Value → Prop where
  | non : TyOf K H .non (.type "NoneType")
  | bl (x : Bool) : TyOf K H (.bl x) (.type "bool")
  | int (i : Int) : TyOf K H (.int i) (.type "int")
  | str (x : Str) : TyOf K H (.str x) (.type "str")
  | flt (x : UInt64) : TyOf K H (.flt x) (.type "float")
  | lst {a : Addr} {xs : List V} (e : H a = some (.lst xs)) : TyOf K H (.ref a) (.type "list")
  | frz {a : Addr} {o : Obj} {xs : List V} (e : H a = some (.frz o (.lst xs))) : TyOf K H (.ref a) (.type "list")
  | tup {a : Addr} {xs : List V} (e : H a = some (.tup xs)) : TyOf K H (.ref a) (.type "tuple")
  | dK {a : Addr} {kvs : List (Key × V)} (e : H a = some (.dK kvs)) : TyOf K H (.ref a) (.type "dict")
  | dT {a : Addr} {kvs : List (List Key × V)} (e : H a = some (.dT kvs)) : TyOf K H (.ref a) (.type "dict")
  | ins {a C dx : Addr} {fs : List (Str × V)} (e : H a = some (.ins C dx fs)) (cl : Cls K C) (ha : PySem.W.findIn K (.ref C) "__class__" = some (some (.builtin "object.__class__")))
      (hn : PySem.W.specialIn K (.builtin "object.__class__") "__get__" = some (some (.builtin "getset_descriptor.__get__"))) (htk : PySem.W.takesIn K (.builtin "object.__class__") = some true)
      (hm : PySem.W.mroIn K C (.type "object") = some true) : TyOf K H (.ref a) (.ref C)
end
end L2

namespace L2
open PySem PySem.Spec PyProof.Rows

structure Room (k : Nat) (A : Around) : Prop where
  hd : A.handled = none
  dp : A.depth + 3 * k + 5 < recursionLimit
  un : A.units + 16 * k + 200 < cLine
  gd : A.guards = some []
theorem Room.mono {j k : Nat} {A : Around} (r : Room k A) (h : j ≤ k) : Room j A := ⟨r.hd, by have := r.dp; omega, by have := r.un; omega, r.gd⟩
theorem Room.deeper {k : Nat} {A : Around} (r : Room (k + 1) A) (env : Env) : Room k (A.deeper env) :=
  ⟨r.hd, by have := r.dp; show A.depth + 1 + 3 * k + 5 < _; omega, by have := r.un; show A.units + 3 + 16 * k + 200 < _; omega, r.gd⟩
theorem Room.in1 {k : Nat} {A : Around} (r : Room (k + 1) A) : Room k A.in1 :=
  ⟨r.hd, by have := r.dp; show A.depth + 3 * k + 5 < _; omega, by have := r.un; show A.units + 1 + 16 * k + 200 < _; omega, r.gd⟩
theorem Room.depth {k : Nat} {A : Around} (r : Room k A) : A.depth < recursionLimit := by have := r.dp; omega
theorem Room.units {k : Nat} {A : Around} (r : Room k A) : A.units + 64 < cLine := by have := r.un; omega
abbrev tNil : TA := fun _ H Q => Q [] H
abbrev tCons (ta : TE) (tr : TA) : TA := fun σ H Q => ta σ H fun x H1 => tr σ H1 fun xs H2 => Q (x :: xs) H2
section
variable {X : Cx} {e : Expr} {es : List Expr} {te : TE} {t : TA} {pos : Pos}
theorem pa_nil : PA X [] tNil := fun _ _ _ _ H Q I h => Calls.spliced_nil ⟨[], H, I, .nil, h⟩
theorem pa_cons (ha : PE X e te) (hr : PA X es t) (hs : starEach (e :: es) X.env = (false, eval e X.env) :: starEach es X.env := by rfl) : PA X (e :: es) (tCons te t) := by
  intro pos pins s σ H Q I h
  rw [hs]
  show wpAny _ _ (spliced ((false, eval e X.env) :: backTo pos (starEach es X.env))) _ _ s
  refine Calls.spliced_cons (thn (ha pins s σ H _ I h) fun u s1 hx9 => ?_)
  obtain ⟨x, H1, I1, r1, q1⟩ := hx9
  refine thn (hr pos pins s1 σ H1 _ I1 q1) fun us s2 hx9 => ?_
  obtain ⟨xs, H2, I2, r2, q2⟩ := hx9
  exact ⟨x :: xs, H2, I2, .cons r1 r2, q2⟩

def tTup (t : TA) : TE := fun σ H Q => t σ H fun xs H1 => xs.length ≤ sizeLine ∧ ∀ p, H1 p = none → Q (.ref p) (upd H1 p (.tup xs))
def tLst (t : TA) : TE := fun σ H Q => t σ H fun xs H1 => xs.length ≤ sizeLine ∧ ∀ p, H1 p = none → Q (.ref p) (upd H1 p (.lst xs))
theorem pe_tup {x1} (h : PA X es t) : PE X (.Tuple es x1 pos) (tTup t) := by
  intro pins s σ H Q I hq
  refine wpAny_Tuple_spliced (thn (h pos pins s σ H _ I hq) fun us s1 ⟨xs, H1, I1, r, z, q⟩ => ⟨by rw [← r.length]; exact z, ?_⟩)
  have hf : H1 s1.heap.objs.size = none := I1.hok.fresh (Nat.le_refl _)
  refine ⟨.ref s1.heap.objs.size, upd H1 s1.heap.objs.size (.tup xs), I1.laid (t' := s1.toks) (fun b u e => Heap.get?_push_of_some _ e) (Nat.le_refl _) ?_, rfl, q _ hf⟩
  exact ⟨z, us, 0, r, Heap.get?_push_size _ rfl⟩
theorem pe_lst (h : PA X es t) : PE X (.List es pos) (tLst t) := by
  intro pins s σ H Q I hq
  refine wpAny_List_spliced (thn (h pos pins s σ H _ I hq) fun us s1 ⟨xs, H1, I1, r, z, q⟩ => ⟨by rw [← r.length]; exact z, ?_⟩)
  have hf : H1 s1.heap.objs.size = none := I1.hok.fresh (Nat.le_refl _)
  refine ⟨.ref s1.heap.objs.size, upd H1 s1.heap.objs.size (.lst xs), I1.laid (t' := s1.toks) (fun b u e => Heap.get?_push_of_some _ e) (Nat.le_refl _) ?_, rfl, q _ hf⟩
  exact ⟨z, us, 0, r, Heap.get?_push_size _ rfl⟩
end

abbrev Sp := List V → Hp → VK → XK → Prop
abbrev CXT := List Env → Hp → Shared → XK → Value → Shared → Prop

structure Env0 (P : Program) (w : World) (K : PySem.W.Frag) (mg : Str → Option Value) (base : Heap) (A : Around) (outer : List Env) (s : Shared) (H : Hp) : Prop where
  frames : A.frames = some outer
  mod : Mod K mg base
  bs : ∀ b o, base.get? b = some o → s.heap.get? b = some o ∧ H b = none
  bsz : base.objs.size ≤ s.heap.objs.size
  funs : s.heap.FunFrames base outer
  frf : ∀ b ∈ frs outer, H b = none
  hok : HOk P w H s.heap
  bare : AllBare s.gens
def CE (outer : List Env) (P : Program) (w : World) (H : Hp) (s : Shared) (Q : VK) (u : Value) (s' : Shared) : Prop :=
  ∃ v H', s'.os = s.os ∧ AllBare s'.gens ∧ Un (frs outer) [] H H' s.heap s'.heap ∧ HOk P w H' s'.heap ∧ RelV v u ∧ Q v H'
def CR (CX : CXT) (outer : List Env) (P : Program) (w : World) (H : Hp) (s : Shared) (Q : VK) (E : XK) (r : Result) (s' : Shared) : Prop :=
  match r with
  | .ok (.ret u) => CE outer P w H s Q u s'
  | .ok _ => False
  | .error e => CX outer H s E e s'
structure FnOk (P : Program) (w : World) (K : PySem.W.Frag) (mg : Str → Option Value) (base : Heap) (CX : CXT) (k : Nat) (f : Addr) (fd : FuncData) (ps : List Str) (sp : Sp) : Prop where
  len : ∀ vs H Q E, sp vs H Q E → vs.length = ps.length
  run : ∀ (A : Around) (outer : List Env) (s : Shared) (H : Hp) (args : Args) (us : List Value) (vs : List V) (Q : VK) (E : XK), Room k A → Env0 P w K mg base A outer s H → BindsTo s fd args (ps.zip us) → Vals vs us → sp vs H Q E →
    codeAny (model P w) A (.call (.ref f) args) (CR CX outer P w H s Q E) s
theorem FnOk.mono {P : Program} {w : World} {K : PySem.W.Frag} {mg : Str → Option Value} {base : Heap} {CX : CXT} {j k : Nat} {f : Addr} {fd : FuncData} {ps : List Str} {sp : Sp} (F : FnOk P w K mg base CX j f fd ps sp) (h : j ≤ k) :
    FnOk P w K mg base CX k f fd ps sp := ⟨F.len, fun A outer s H args us vs Q E hr => F.run A outer s H args us vs Q E (hr.mono h)⟩
theorem FnOk.imp {P : Program} {w : World} {K : PySem.W.Frag} {mg : Str → Option Value} {base : Heap} {CX : CXT} {k : Nat} {f : Addr} {fd : FuncData} {ps : List Str} {sp sp' : Sp} (F : FnOk P w K mg base CX k f fd ps sp)
    (h : ∀ vs H Q E, sp' vs H Q E → sp vs H Q E) : FnOk P w K mg base CX k f fd ps sp' :=
  ⟨fun vs H Q E q => F.len vs H Q E (h _ _ _ _ q), fun A outer s H args us vs Q E hr he hb hv hs => F.run A outer s H args us vs Q E hr he hb hv (h _ _ _ _ hs)⟩

theorem Env0.in1 {P : Program} {w : World} {K : PySem.W.Frag} {mg : Str → Option Value} {base : Heap} {A : Around} {outer : List Env} {s : Shared} {H : Hp} (e : Env0 P w K mg base A outer s H) :
    Env0 P w K mg base A.in1 outer s H := ⟨e.frames, e.mod, e.bs, e.bsz, e.funs, e.frf, e.hok, e.bare⟩

section
variable {X : Cx} {pins : List (Addr × Obj)} {σ : St} {H : Hp} {s s' : Shared}
theorem Inv.env0 (I : Inv X pins σ H s) : Env0 X.prog X.w X.K X.mg X.base X.A X.stack s H :=
  ⟨I.ok.frames, I.ok.mod, I.bs, Nat.le_trans I.ok.bsz I.sz, I.stack, I.stkFree, I.hok, I.bare⟩
theorem Inv.after {Q : VK} {u : Value} (I : Inv X pins σ H s) (h : CE X.stack X.prog X.w H s Q u s') : EP X pins σ Q u s' := by
  obtain ⟨v, H', os, bare, un, hok, r, q⟩ := h
  obtain ⟨hh, g, d, t, os'⟩ := s'
  obtain rfl : os' = s.os := os
  exact ⟨v, H', I.call (h' := hh) (g' := g) (d' := d) (t' := t) (ch := []) un hok bare (fun b z => absurd z (by simp)), r, q⟩
end

def tCall (sp : Sp) (dvs : List V) (E : XK) (t : TA) : TE := fun σ H Q => t σ H fun vs H1 => sp (vs ++ dvs) H1 Q E
def Binds (K : PySem.W.Frag) (fd : FuncData) (ps : List Str) (ds : List Value) : Prop :=
  ∀ (s : Shared) (us : List Value), K.In s.heap → (us ++ ds).length = ps.length → BindsTo s fd ⟨us, []⟩ (ps.zip (us ++ ds))
theorem Binds.all {K : PySem.W.Frag} {fd : FuncData} {ps : List Str} (h : ∀ us : List Value, us.length = ps.length → bindArgs fd ⟨us, []⟩ = pure (ps.zip us)) : Binds K fd ps [] := fun s us _ hl => by
  rw [List.append_nil] at hl ⊢
  exact .of_eq (h us hl)

def Passes (CX : CXT) (X : Cx) (E : XK) : Prop := ∀ (pins : List (Addr × Obj)) (σ : St) (H : Hp) (s : Shared) (e : Value) (s' : Shared), Inv X pins σ H s → CX X.stack H s E e s' → X.xe e s'

section
variable {X : Cx} {CX : CXT} {k : Nat} {f C : Addr} {fd : FuncData} {ps : List Str} {sp : Sp} {dvs : List V} {ds : List Value} {E : XK} {x m : Str} {p pos apos : Pos} {e o : Expr} {es : List Expr} {ta : TE} {t : TA}

theorem run_fn {pins : List (Addr × Obj)} {σ : St} {H : Hp} {s : Shared} {Q : VK} {us : List Value} {vs : List V} (F : FnOk X.prog X.w X.K X.mg X.base CX k f fd ps sp) (hr : Room k X.A) (hb : Binds X.K fd ps ds) (hd : Vals dvs ds) (hx : Passes CX X E)
    (I : Inv X pins σ H s) (r : Vals vs us) (h : sp (vs ++ dvs) H Q E) : wpAny (model X.prog X.w) X.A (call (.ref f) us) (EP X pins σ Q) X.xe s := by
  have r2 : Vals (vs ++ dvs) (us ++ ds) := r.append hd
  have hl : (us ++ ds).length = ps.length := by rw [← r2.length]; exact F.len _ _ _ _ h
  refine wpAny_call (codeAny_mono (F.run X.A X.stack s H ⟨us, []⟩ (us ++ ds) (vs ++ dvs) Q E hr I.env0 (hb s us I.kIn hl) r2 h) fun r s' hq => ?_)
  cases r with
  | error e => exact hx pins σ H s e s' I hq
  | ok fl =>
    cases fl with
    | ret u => exact I.after hq
    | next => exact False.elim hq
    | brk => exact False.elim hq
    | cont => exact False.elim hq

theorem pe_call (F : FnOk X.prog X.w X.K X.mg X.base CX k f fd ps sp) (hr : Room k X.A) (hg : Gl X x) (hm : X.mg x = some (.ref f)) (hk : PySem.W.keepIn X.K (.ref f) = true) (hb : Binds X.K fd ps ds) (hd : Vals dvs ds) (hx : Passes CX X E)
    (ha : PA X (e :: es) t) (hdb : (x == ("__debug__" : Str)) = false := by decide) (he : starEach (e :: es) X.env = (false, eval e X.env) :: starEach es X.env := by rfl) (hpl : (backTo pos (starEach es X.env)).any (·.1) = false := by rfl) :
    PE X (.Call (.Name x p) (e :: es) [] pos) (tCall sp dvs E t) := by
  intro pins s σ H Q I h
  refine wpAny_Call_Name_kw (ld_glob I hg hm ?_ hdb)
  refine PySem.W.callWith_K (h₀ := X.base) I.ok.mod.kin hk (thn (ha pos pins s σ H _ I h) fun us s1 ⟨vs, H1, I1, r, q⟩ => ⟨I1.kIn, ?_⟩) he hpl
  exact run_fn F hr hb hd hx I1 r q
structure Mk (K : PySem.W.Frag) (C f : Addr) : Prop where
  makes : PySem.W.makesIn K C = true
  init : PySem.W.findIn K (.ref C) "__init__" = some (some (.ref f))
  fn : PySem.W.isFn K (.ref f) = true
  kp : PySem.W.keepIn K (.ref C) = true

end

section
variable {X : Cx} {CX : CXT} {k : Nat} {f C : Addr} {fd : FuncData} {ps ks : List Str} {sp : Sp} {E : XK} {x m : Str} {p pos apos kpos : Pos} {e o : Expr} {es : List Expr} {kws : List Keyword} {te ta : TE} {t tk : TA} {nm : Option Str}
structure KBinds (K : PySem.W.Frag) (fd : FuncData) (ps ks : List Str) (g : List Value → List Value → List Value) (gV : List V → List V → List V) : Prop where
  to : ∀ (s : Shared) (us ws : List Value), K.In s.heap → (g us ws).length = ps.length → BindsTo s fd ⟨us, ks.zip ws⟩ (ps.zip (g us ws))
  rel : ∀ {vs : List V} {us : List Value} {zs : List V} {ws : List Value}, Vals vs us → Vals zs ws → Vals (gV vs zs) (g us ws)
variable {g : List Value → List Value → List Value} {gV : List V → List V → List V}
end

structure FnScope (N P : List Str) (sc : Scope) : Prop where
  kind : sc.kind = .function
  co : sc.isCoroutine = false
  gen : sc.isGenerator = false
  nd : N.Nodup
  pre : N.take P.length = P
  par : ∀ x ∈ P, sc.names.lookup x = some .local ∨ sc.names.lookup x = some .cell
  nofree : ∀ y ∈ sc.names, y.2 ≠ .free

theorem bindL_out {kindOf : Str → Option NameKind} {x : Str} : ∀ {binds : List (Str × Value)} {m : Str → Option Value}, (∀ v, (x, v) ∉ binds) → bindL kindOf binds m x = m x
  | [], _, _ => rfl
  | (n, v) :: r, m, h => by
    unfold bindL
    rw [bindL_out fun w hw => h w (List.mem_cons_of_mem _ hw)]
    split
    · have : x ≠ n := by rintro rfl; exact h v List.mem_cons_self
      simp [this]
    · rfl
theorem bindC_out {kindOf : Str → Option NameKind} {x : Str} : ∀ {binds : List (Str × Value)} {m : Str → Option Value}, (∀ v, (x, v) ∉ binds) → bindC kindOf binds m x = m x
  | [], _, _ => rfl
  | (n, v) :: r, m, h => by
    unfold bindC
    rw [bindC_out fun w hw => h w (List.mem_cons_of_mem _ hw)]
    split
    · rfl
    · have : x ≠ n := by rintro rfl; exact h v List.mem_cons_self
      simp [this]
theorem bindL_get {kindOf : Str → Option NameKind} {x : Str} {v : Value} : ∀ {P : List Str} {vs : List Value} {i : Nat} {m : Str → Option Value}, P.Nodup → P[i]? = some x → vs[i]? = some v → kindOf x = some .local →
    bindL kindOf (P.zip vs) m x = some v
  | [], _, _, _, _, h, _, _ => by simp at h
  | _ :: _, [], _, _, _, _, h, _ => by simp at h
  | p :: P, w :: vs, 0, m, nd, h1, h2, hk => by
    simp at h1 h2; subst h1; subst h2
    show bindL kindOf ((p, w) :: P.zip vs) m p = _
    unfold bindL
    rw [bindL_out fun v hv => (List.nodup_cons.mp nd).1 (List.of_mem_zip hv).1, if_pos hk]
    simp
  | p :: P, w :: vs, i + 1, m, nd, h1, h2, hk => by
    show bindL kindOf ((p, w) :: P.zip vs) m x = _
    unfold bindL
    exact bindL_get (i := i) (List.nodup_cons.mp nd).2 (by simpa using h1) (by simpa using h2) hk
theorem bindC_get {kindOf : Str → Option NameKind} {x : Str} {v : Value} : ∀ {P : List Str} {vs : List Value} {i : Nat} {m : Str → Option Value}, P.Nodup → P[i]? = some x → vs[i]? = some v → kindOf x ≠ some .local →
    bindC kindOf (P.zip vs) m x = some v
  | [], _, _, _, _, h, _, _ => by simp at h
  | _ :: _, [], _, _, _, _, h, _ => by simp at h
  | p :: P, w :: vs, 0, m, nd, h1, h2, hk => by
    simp at h1 h2; subst h1; subst h2
    show bindC kindOf ((p, w) :: P.zip vs) m p = _
    unfold bindC
    rw [bindC_out fun v hv => (List.nodup_cons.mp nd).1 (List.of_mem_zip hv).1, if_neg hk]
    simp
  | p :: P, w :: vs, i + 1, m, nd, h1, h2, hk => by
    show bindC kindOf ((p, w) :: P.zip vs) m x = _
    unfold bindC
    exact bindC_get (i := i) (List.nodup_cons.mp nd).2 (by simpa using h1) (by simpa using h2) hk

def start (N : List Str) (vs : List V) : St := vs.map some ++ List.replicate (N.length - vs.length) none

def cxOf (CX : CXT) (P : Program) (w : World) (K : PySem.W.Frag) (mg : Str → Option Value) (base : Heap) (N : List Str) (qual : Str) (scope : Scope) (f : Addr) (cd : Value) (A : Around) (outer : List Env) (s : Shared) (H : Hp) (E : XK) : Cx where
  prog := P
  w := w
  K := K
  mg := mg
  base := base
  A := A.deeper (envOfC qual scope s.heap.objs.size f cd)
  N := N
  s₀ := s
  H₀ := H
  env := envOfC qual scope s.heap.objs.size f cd
  outer := outer
  stack := envOfC qual scope s.heap.objs.size f cd :: outer
  ex := []
  calm := true
  fn := fun _ => true
  pn := []
  xe := fun e s' => wpAny (model P w) (A.deeper (envOfC qual scope s.heap.objs.size f cd)) (leaving (envOfC qual scope s.heap.objs.size f cd) e) (fun _ s'' => CX outer H s E e s'') (fun e' s'' => CX outer H s E e' s'') s'

theorem cell_has {sc : Scope} {n : Nat} {x : Str} (h : sc.names.lookup x = some .cell) : ∃ c, (cellsFrom n sc.names []).lookup x = some c := by
  have q := PySem.W.cellsFrom_some sc.names n [] (.inl h)
  exact Option.isSome_iff_exists.mp q

theorem inv_start {CX : CXT} {P : Program} {w : World} {K : PySem.W.Frag} {mg : Str → Option Value} {base : Heap} {N ps : List Str} {qual : Str} {scope : Scope} {f : Addr} {cd : Value} {A : Around} {outer : List Env} {s s1 : Shared} {H : Hp} {E : XK} {us : List Value} {vs : List V}
    (S : FnScope N ps scope) (hd : A.handled = none) (e0 : Env0 P w K mg base A outer s H) (hl : vs.length = ps.length) (r : Vals vs us)
    (x : InCallC s s.heap.objs.size (bindL (envOfC qual scope s.heap.objs.size f cd).kindOf (ps.zip us) fun _ => none) (cellsFrom (s.heap.objs.size + 1) scope.names []) (bindC (envOfC qual scope s.heap.objs.size f cd).kindOf (ps.zip us) fun _ => none) s1) :
    Inv (cxOf CX P w K mg base N qual scope f cd A outer s H E) [] (start N vs) H s1 := by
  have hpl : ps.length ≤ N.length := by have := congrArg List.length S.pre; rw [List.length_take] at this; omega
  obtain ⟨h1, tk, rfl, hk⟩ := x.done
  have noA : ∀ b : Addr, b ∉ (cxOf CX P w K mg base N qual scope f cd A outer s H E).ex := fun b z => absurd (show b ∈ ([] : List Addr) from z) (by simp)
  refine ⟨⟨e0.mod, S.kind, rfl, rfl, Nat.le_refl _, fun y z c h1 h2 => ?_, fun y hy => ?_, fun y c _ h => ?_, fun _ => hd, Around.frames_deeper e0.frames, .inr ⟨rfl, rfl⟩, fun b z => absurd z (noA b), e0.bs, e0.bsz, fun b _ _ => noA b, fun b z => absurd z (noA b), e0.funs, e0.frf⟩,
    rfl, e0.bare, Un.kept hk, ⟨_, x.toInCall.ns, fun i y v h1 h2 h3 => ?_⟩, fun y c h => ⟨_, x.cell y c h⟩, e0.hok.fresh (Nat.le_refl _), fun y c h => ?_, fun p hp => absurd (show p ∈ ([] : List (Addr × Obj)) from hp) (by simp), e0.hok.kept hk, ?_⟩
  · exact name_of_addr x.apart (PySem.mem_of_lookup h1) (PySem.mem_of_lookup h2)
  · have hy : scope.names.lookup y = some .cell ∨ scope.names.lookup y = some .free := hy
    rcases hy with hy | hy
    · exact cell_has hy
    · exact absurd rfl (S.nofree _ (PySem.mem_of_lookup hy))
  · exact Nat.le_of_lt (x.above y c (PySem.mem_of_lookup h))
  · have hi : i < vs.length := by
      unfold start at h2
      by_cases hi : i < vs.length
      · exact hi
      · rw [List.getElem?_append_right (by simpa using hi)] at h2
        rw [List.getElem?_replicate] at h2
        split at h2 <;> cases h2
    have ha : vs[i]? = some v := by
      unfold start at h2
      rw [List.getElem?_append_left (by simpa using hi), List.getElem?_map] at h2
      cases e : vs[i]? with
      | none => rw [e] at h2; cases h2
      | some a => rw [e] at h2; cases h2; rfl
    obtain ⟨u, hu, rv⟩ := r.get ha
    have hp : ps[i]? = some y := by
      rw [← S.pre, List.getElem?_take_of_lt (by omega)]; exact h1
    have ndP : ps.Nodup := by rw [← S.pre]; exact S.nd.sublist (List.take_sublist _ _)
    refine ⟨u, rv, ?_⟩
    rcases S.par y (List.mem_of_getElem? hp) with k | k
    · exact .inl ⟨k, bindL_get ndP hp hu k⟩
    · obtain ⟨c, e⟩ := cell_has (n := s.heap.objs.size + 1) k
      refine .inr ⟨.inl k, c, e, ?_⟩
      have q := x.cell y c e
      rw [bindC_get ndP hp hu (by show scope.names.lookup y ≠ _; rw [k]; decide)] at q
      exact q
  · exact e0.hok.fresh (Nat.le_of_lt (x.above y c (PySem.mem_of_lookup h)))
  · unfold start
    show _ = N.length
    rw [List.length_append, List.length_map, List.length_replicate]
    omega

theorem fn_of {CX : CXT} {P : Program} {w : World} {K : PySem.W.Frag} {mg : Str → Option Value} {base : Heap} {k : Nat} {f : Addr} {name qual : Str} {params : Arguments} {body : List Stmt} {scope : Scope} {dV kV doc pm cdv ct oc : Value} {an od : Option Addr}
    {osl : Array (Option Value)} {N ps : List Str} {sp : Sp} (lk : K.lookup f = some ⟨oc, od, .func (PySem.W.fnOf name qual params body scope dV kV doc pm an cdv ct), osl⟩) (hcd : PySem.W.codeIn K cdv qual = true) (S : FnScope N ps scope)
    (len : ∀ vs H Q E, sp vs H Q E → vs.length = ps.length)
    (hbody : ∀ (A : Around) (outer : List Env) (s : Shared) (H : Hp) (vs : List V) (Q : VK) (E : XK), Room k (A.deeper (envOfC qual scope s.heap.objs.size f cdv)) → sp vs H Q E →
      ∃ t, PSs (cxOf CX P w K mg base N qual scope f cdv A outer s H E) body t ∧ t { nx := fun _ H' => Q .non H', rt := Q } (start N vs) H) :
    FnOk P w K mg base CX (k + 1) f (PySem.W.fnOf name qual params body scope dV kV doc pm an cdv ct) ps sp := by
  refine ⟨len, fun A outer s H args us vs Q E hr e0 hb r hsp => ?_⟩
  have hl := len _ _ _ _ hsp
  have KX : K.In s.heap := e0.mod.kin.keeps fun b o e => (e0.bs b o e).1
  have lim : s.heap.NoLimit := e0.mod.nolimit.keeps fun b o e => (e0.bs b o e).1
  have hkind : ∀ y ∈ ps.zip us, scope.names.lookup y.1 = some .local ∨ (scope.names.lookup y.1 = some .cell ∧ ((cellsFrom (s.heap.objs.size + 1) scope.names []).lookup y.1).isSome = true) := fun ⟨n, v⟩ hy => by
    rcases S.par n (List.of_mem_zip hy).1 with q | q
    · exact .inl q
    · exact .inr ⟨q, PySem.W.cellsFrom_some _ _ _ (.inl q)⟩
  refine codeAny_call_function hr.depth (KX _ _ lk) rfl S.co S.gen rfl (PySem.W.codeRec_of KX hcd) (hb _ _ _ _ ?_)
  refine wpAny_newFunctionEnv_cells S.kind hkind fun env he s1 x => ?_
  subst he
  refine ⟨lim.keeps x.toInCall.keep, codeAny_func ?_⟩
  obtain ⟨t, ht, hq⟩ := hbody A outer s H vs Q E (hr.deeper _) hsp
  have I : Inv (cxOf CX P w K mg base N qual scope f cdv A outer s H E) [] (start N vs) H s1 := inv_start S hr.hd e0 hl r x
  refine wpAny_mono (ht [] s1 (start N vs) H _ I hq) (fun fl s' hs => ?_) fun e s' hs => hs
  have fin : ∀ {σ' : St} {H' : Hp} {v : V} {u : Value}, Inv (cxOf CX P w K mg base N qual scope f cdv A outer s H E) [] σ' H' s' → RelV v u → Q v H' → CE outer P w H s Q u s' :=
    fun {σ' H' v u} J rv q => ⟨v, H', J.os, J.bare, J.base, J.hok, rv, q⟩
  cases fl with
  | ret u =>
    obtain ⟨v, σ', H', J, rv, q⟩ := hs
    exact fin J rv q
  | next =>
    obtain ⟨σ', H', J, q⟩ := hs
    exact fin (v := V.non) (u := Value.none) J rfl q
  | brk =>
    obtain ⟨_, _, _, q⟩ := hs
    exact False.elim q
  | cont =>
    obtain ⟨_, _, _, q⟩ := hs
    exact False.elim q
end L2

namespace L2
open PySem PySem.Spec PyProof.Rows
section
variable {X : Cx} {x : Str} {p pos : Pos} {e : Expr} {es : List Expr} {t : TA} {id T : String} {r : List V → Hp → VK → Prop}

def tCB (r : List V → Hp → VK → Prop) (t : TA) : TE := fun σ H Q => t σ H fun vs H1 => r vs H1 Q
theorem pe_callB (hc : CallR X (.builtin id) r) (hg : Gl X x) (hm : X.mg x = none) (hv : bootBuiltins x = some (.builtin id)) (ha : PA X (e :: es) t) (hn : x ≠ "__name__" := by decide) (hdb : (x == ("__debug__" : Str)) = false := by decide)
    (he : starEach (e :: es) X.env = (false, eval e X.env) :: starEach es X.env := by rfl) (hpl : (backTo pos (starEach es X.env)).any (·.1) = false := by rfl) : PE X (.Call (.Name x p) (e :: es) [] pos) (tCB r t) := by
  intro pins s σ H Q I h
  refine wpAny_Call_Name_kw (ld_blt I hg hm hv ?_ hn hdb)
  refine PyProof.Rows.callWith_builtin1 (thn (ha pos pins s σ H _ I h) fun us s1 hx9 => ?_) he hpl
  obtain ⟨vs, H1, I1, r1, q1⟩ := hx9
  exact hc pins s1 σ H1 vs us Q I1 r1 q1
theorem pe_callTy (hc : CallR X (.type T) r) (hg : Gl X x) (hm : X.mg x = none) (hv : bootBuiltins x = some (.type T)) (ha : PA X (e :: es) t) (hn : x ≠ "__name__" := by decide) (hdb : (x == ("__debug__" : Str)) = false := by decide)
    (he : starEach (e :: es) X.env = (false, eval e X.env) :: starEach es X.env := by rfl) (hpl : (backTo pos (starEach es X.env)).any (·.1) = false := by rfl) : PE X (.Call (.Name x p) (e :: es) [] pos) (tCB r t) := by
  intro pins s σ H Q I h
  refine wpAny_Call_Name_kw (ld_blt I hg hm hv ?_ hn hdb)
  refine PyProof.Rows.callWith_type1 (thn (ha pos pins s σ H _ I h) fun us s1 hx9 => ?_) he hpl
  obtain ⟨vs, H1, I1, r1, q1⟩ := hx9
  exact hc pins s1 σ H1 vs us Q I1 r1 q1
end
end L2

namespace HT
open PySem PyProof.Rows

section
open PySem.SeqAt
open PySem.AutoSeq1 (wpAny_loadPart')
open PySem.MeetsSeq PySem.MeetsSeq2 PySem.MeetsSeq3

end

section
variable {prog : Program} {w : World} {A : Around} {E : Value → Shared → Prop} {s : Shared}

theorem cat_tup {t b : Addr} {vs ws : List Value} {Q : Value → Shared → Prop} (ht : IsTup s.heap t vs.toArray) (hb : IsTup s.heap b ws.toArray) (hv : vs ≠ [])
    (h1 : ws = [] → Q (.ref t) s) (h2 : ws ≠ [] → Q (.ref s.heap.objs.size) { s with heap := s.heap.push { cls := .type "tuple", data := .seq (vs ++ ws).toArray } })
    (hsz : vs.length + ws.length ≤ sizeLine) : wpAny (model prog w) A (binaryOp .Add (.ref t) (.ref b)) Q E s := by
  obtain ⟨⟨cls, dd, data, sl⟩, ho, hc, n, hd⟩ := id ht
  obtain ⟨⟨cls2, dd2, data2, sl2⟩, ho2, hc2, n2, hd2⟩ := id hb
  simp only at hc hd hc2 hd2
  subst hc hd hc2 hd2
  have e : vs.toArray ++ ws.toArray = (vs ++ ws).toArray := by simp
  by_cases hw : ws = []
  · exact concat_meets ⟨_, ho, rfl⟩ ⟨_, ho2, rfl⟩ noFill_tuple_add seq_tuple_add PySem.F.slot_tuple_add PySem.F.entry_tuple_add (PySem.F.args_tuple_add_2 _ _)
      (tuple_addW1 t b vs.toArray ws.toArray n n2 dd dd2 sl sl2 (by simpa using hv) (by simp [hw])) ⟨ho, ho2, h1 hw⟩
  · refine concat_meets ⟨_, ho, rfl⟩ ⟨_, ho2, rfl⟩ noFill_tuple_add seq_tuple_add PySem.F.slot_tuple_add PySem.F.entry_tuple_add (PySem.F.args_tuple_add_2 _ _)
      (tuple_addW2 t b vs.toArray ws.toArray n n2 dd dd2 sl sl2 (by simpa using hv) (by simpa using hw) (by rw [List.size_toArray, List.size_toArray]; exact hsz)) ⟨ho, ho2, ?_⟩
    rw [e]
    exact h2 hw

def sIx (n d : Nat) : Option Int → Nat
  | none => d
  | some v => if v < 0 then (v + (n : Int)).toNat else min v.toNat n
theorem sIx_none (n d : Nat) : sIx n d none = d := rfl
theorem sIx_nat (n d k : Nat) : sIx n d (some (k : Int)) = min k n := by
  show (if (k : Int) < 0 then ((k : Int) + (n : Int)).toNat else min (k : Int).toNat n) = min k n
  rw [if_neg (by omega), Int.toNat_natCast]
theorem sIx_le (n d : Nat) (hd : d ≤ n) (o : Option Int) : sIx n d o ≤ n := by
  cases o with
  | none => exact hd
  | some v =>
    show (if v < 0 then (v + (n : Int)).toNat else min v.toNat n) ≤ n
    by_cases hv : v < 0
    · rw [if_pos hv]; omega
    · rw [if_neg hv]; exact Nat.min_le_right _ _
theorem clip_eq (v : Int) (n d : Nat) : (if v < 0 then max (v + (n : Int)) 0 else min v (n : Int)) = ((sIx n d (some v) : Nat) : Int) := by
  show (if v < 0 then max (v + (n : Int)) 0 else min v (n : Int)) = (((if v < 0 then (v + (n : Int)).toNat else min v.toNat n) : Nat) : Int)
  by_cases hv : v < 0
  · simp only [if_pos hv]; omega
  · simp only [if_neg hv]; omega
theorem adjust_gen (lo hi : Option Int) (n : Nat) : Builtin.Slice.sliceAdjust lo hi 1 (n : Int) = (((sIx n 0 lo : Nat) : Int), ((sIx n n hi : Nat) : Int)) := by
  have h1 : ¬ ((1 : Int) < 0) := by omega
  unfold Builtin.Slice.sliceAdjust
  simp only [h1, if_false]
  refine Prod.ext ?_ ?_
  · cases lo with
    | none => rfl
    | some v => exact clip_eq v n 0
  · cases hi with
    | none => rfl
    | some v => exact clip_eq v n n
theorem places_gen (i j : Nat) : Builtin.Slice.slicePlaces (i : Int) (j : Int) 1 = j - i := by
  unfold Builtin.Slice.slicePlaces
  have h1 : (1 : Int) > 0 := by omega
  simp only [h1, if_true, Int.ediv_one]
  split <;> omega
theorem slicePart_ {v : Value} {o : Option Int} {Q : Option Int → Shared → Prop} (p : IsPart v o) (h : Q o s) : wpAny (model prog w) A (Builtin.Slice.slicePartIndex v) Q E s := by
  cases p with
  | none => exact slicePart_none h
  | int i t => exact slicePart_int h
theorem sliceApplied_gen {sl : Addr} {vl vu : Value} {lo hi : Option Int} {n : Nat} {Q : Int × Int × Nat → Shared → Prop} (hs : s.heap.IsSliceOf sl vl vu .none) (pl : IsPart vl lo) (pu : IsPart vu hi)
    (h : Q (((sIx n 0 lo : Nat) : Int), 1, sIx n n hi - sIx n 0 lo) s) : wpAny (model prog w) A (Builtin.Slice.sliceApplied (.ref sl) (pure (n : Int))) Q E s := by
  obtain ⟨os, hos, hcs, hds⟩ := id hs
  unfold Builtin.Slice.sliceApplied Builtin.Slice.sliceFields
  refine wpAny_bind (wpAny_bind (wpAny_field hos hds (x := vl) rfl (wpAny_bind (wpAny_field hos hds (x := vu) rfl (wpAny_bind (wpAny_field hos hds (x := .none) rfl (wpAny_pure ?_)))))))
  refine wpAny_bind (slicePart_none ?_)
  show wpAny _ _ (if ((1 : Int) == 0) = true then _ else _) _ _ s
  rw [if_neg (by decide)]
  refine wpAny_bind (slicePart_ pl (wpAny_bind (slicePart_ pu (wpAny_bind (wpAny_pure ?_)))))
  show wpAny _ _ (match Builtin.Slice.sliceAdjust lo hi 1 (n : Int) with | (lo, hi) => pure (lo, (1 : Int), Builtin.Slice.slicePlaces lo hi 1)) _ _ s
  rw [adjust_gen lo hi n]
  show wpAny _ _ (pure (((sIx n 0 lo : Nat) : Int), (1 : Int), Builtin.Slice.slicePlaces ((sIx n 0 lo : Nat) : Int) ((sIx n n hi : Nat) : Int) 1)) _ _ s
  rw [places_gen]
  exact wpAny_pure h
theorem pick_gen (xs : Array Value) (i k : Nat) : ((List.range k).filterMap fun (m : Nat) => xs[((i : Int) + (m : Int) * 1).toNat]?).toArray = ((xs.toList.drop i).take k).toArray := by
  have e : (fun (m : Nat) => xs[((i : Int) + (m : Int) * 1).toNat]?) = fun m => xs[i + m]? := by
    funext m
    have : ((i : Int) + (m : Int) * 1).toNat = i + m := by omega
    rw [this]
  rw [e]
  have := pick_run xs i k
  rw [List.filterMap_map] at this
  have e2 : ((fun x => xs[x]?) ∘ fun x => i + x) = fun m => xs[i + m]? := rfl
  rw [e2] at this
  rw [this]

theorem getItem_tuple_cut {t sl : Addr} {items : Array Value} {vl vu : Value} {lo hi : Option Int} {Q : Value → Shared → Prop} (ht : IsTup s.heap t items) (hs : s.heap.IsSliceOf sl vl vu .none) (pl : IsPart vl lo) (pu : IsPart vu hi)
    (hw : ¬ (sIx items.size 0 lo = 0 ∧ sIx items.size items.size hi = items.size))
    (h : Q (.ref s.heap.objs.size) { s with heap := s.heap.push { cls := .type "tuple", data := .seq ((items.toList.drop (sIx items.size 0 lo)).take (sIx items.size items.size hi - sIx items.size 0 lo)).toArray } })
    (hsz : items.size ≤ sizeLine) : wpAny (model prog w) A (getItem (.ref t) (.ref sl)) Q E s := by
  have htake : sizeOk (.seq ((items.toList.drop (sIx items.size 0 lo)).take (sIx items.size items.size hi - sIx items.size 0 lo)).toArray) := by
    show ((items.toList.drop (sIx items.size 0 lo)).take (sIx items.size items.size hi - sIx items.size 0 lo)).toArray.size ≤ sizeLine
    rw [List.size_toArray, List.length_take, List.length_drop, Array.length_toList]
    omega
  have hj : sIx items.size items.size hi ≤ items.size := sIx_le _ _ (Nat.le_refl _) hi
  obtain ⟨os, hos, hcs, hds⟩ := id hs
  have hTs : s.TypeIs (.ref sl) "slice" := ⟨os, hos, hcs⟩
  unfold getItem
  try with_reducible refine wpAny_holding ?_
  first | refine wpAny_bind (wpAny_pure ?_) | skip
  refine wpAny_bind (wpAny_sequenceKey ht.typeIs (by decide) ?_)
  refine wpAny_bind (wpAny_callSpecial?_slot (name := Str.ofString "__getitem__") ht.typeIs PyProof.Rows.slot_tuple_getitem
    (wpAny_call_entry PyProof.Rows.slot_tuple_getitem ht.typeIs entry_tuple_getitem ?_ (args_tuple_getitem _ _)))
  show wpAny _ _ (Builtin.Tuple.tupleItemsOf (.ref t) >>= _) _ _ s
  refine wpAny_bind (tupleItemsOf_ ht ?_)
  refine wpAny_bind (wpAny_typeOf hTs ?_)
  rw [if_pos (by decide)]
  refine wpAny_bind (sliceApplied_gen hs pl pu ?_)
  have hno : ¬ ((((sIx items.size 0 lo : Nat) : Int) == 0 && (1 : Int) == 1 && (sIx items.size items.size hi - sIx items.size 0 lo) == items.size) = true) := by
    intro q
    rw [Bool.and_eq_true, Bool.and_eq_true] at q
    have q1 : ((sIx items.size 0 lo : Nat) : Int) = 0 := eq_of_beq q.1.1
    have q2 : sIx items.size items.size hi - sIx items.size 0 lo = items.size := eq_of_beq q.2
    exact hw ⟨by omega, by omega⟩
  show wpAny _ _ (if (((sIx items.size 0 lo : Nat) : Int) == 0 && (1 : Int) == 1 && (sIx items.size items.size hi - sIx items.size 0 lo) == items.size) = true then _ else _) _ _ s
  rw [if_neg hno, pick_gen]
  first
    | exact wpAny_bind (m := Builtin.Tuple.tupleExact _) (wpAny_newObj_type (wpAny_pure ⟨_, rfl, wpAny_pure h⟩) htake)
    | exact wpAny_bind (m := Builtin.Tuple.tupleExact _) (wpAny_newObj_type (wpAny_bind (wpAny_pure (wpAny_pure ⟨_, rfl, wpAny_pure h⟩))) htake)
    | exact wpAny_bind (wpAny_bind (m := Builtin.Tuple.tupleExact _) (wpAny_newObj_type (wpAny_pure (wpAny_pure ⟨_, rfl, wpAny_pure h⟩)) htake))
    | exact wpAny_bind (wpAny_bind (m := Builtin.Tuple.tupleExact _) (wpAny_newObj_type (wpAny_pure ⟨_, rfl, wpAny_pure h⟩) htake))
end
end HT

namespace L2
open PySem PySem.Spec PyProof.Rows

abbrev TO := St → Hp → (Option Int → Hp → Prop) → Prop
def PO (X : Cx) (e : Option Expr) (t : TO) : Prop :=
  ∀ (pins : List (Addr × Obj)) (s : Shared) (σ : St) (H : Hp) (Q : Option Int → Hp → Prop), Inv X pins σ H s → t σ H Q →
    wpAny (model X.prog X.w) X.A (evalPart e X.env) (fun u s' => ∃ o H', Inv X pins σ H' s' ∧ IsPart u o ∧ Q o H') X.xe s
def tNoPart : TO := fun _ H Q => Q none H
def tPart (t : TE) : TO := fun σ H Q => t σ H fun x H1 => ∃ i, x = .int i ∧ Q (some i) H1

theorem intsAre_of {ns : List Int} : ∀ {us : List Value}, Vals (ns.map V.int) us → IntsAre us ns := by
  induction ns with
  | nil => intro us r; rw [List.map_nil] at r; cases r; exact .nil
  | cons n ns ih =>
    intro us r
    rw [List.map_cons] at r
    cases r with
    | cons r1 r2 =>
      obtain ⟨t, e⟩ := r1
      subst e
      exact .cons n t (ih r2)

section
variable {X : Cx} {e : Expr} {te : TE} {lo hi : Option Expr} {tl th : TO} {pos p2 : Pos}

theorem po_none : PO X none tNoPart := by
  intro pins s σ H Q I h
  rw [evalPart_none]
  exact wpAny_pure ⟨none, H, I, .none, h⟩
theorem po_some (h : PE X e te) : PO X (some e) (tPart te) := by
  intro pins s σ H Q I hw
  rw [evalPart_some]
  refine thn (h pins s σ H _ I hw) fun u s1 hx9 => ?_
  obtain ⟨x, H1, I1, r1, q1⟩ := hx9
  obtain ⟨i, rfl, q⟩ := q1
  obtain ⟨t, rfl⟩ := r1
  exact ⟨some i, H1, I1, .int i t, q⟩

def SlR (X : Cx) (r : V → Option Int → Option Int → Hp → VK → Prop) : Prop :=
  ∀ (pins : List (Addr × Obj)) (s : Shared) (σ : St) (H : Hp) (x : V) (v vl vu : Value) (lo hi : Option Int) (sl : Addr) (Q : VK), Inv X pins σ H s → RelV x v → s.heap.IsSliceOf sl vl vu .none → IsPart vl lo → IsPart vu hi → r x lo hi H Q →
    ∃ T id, typeLookup (.type T) "__getitem__" = pure (some (.builtin id)) ∧ s.TypeIs v T ∧ wpAny (model X.prog X.w) X.A (getItem v (.ref sl)) (EP X pins σ Q) X.xe s
theorem SlR.or {r r' : V → Option Int → Option Int → Hp → VK → Prop} (h : SlR X r) (h' : SlR X r') : SlR X (fun x lo hi H Q => r x lo hi H Q ∨ r' x lo hi H Q) := by
  intro pins s σ H x v vl vu lo hi sl Q I rx hs pl pu q
  rcases q with q | q
  · exact h pins s σ H x v vl vu lo hi sl Q I rx hs pl pu q
  · exact h' pins s σ H x v vl vu lo hi sl Q I rx hs pl pu q
def tSl (r : V → Option Int → Option Int → Hp → VK → Prop) (te : TE) (tl th : TO) : TE := fun σ H Q => te σ H fun x H1 => tl σ H1 fun l H2 => th σ H2 fun u H3 => r x l u H3 Q
theorem pe_slice {r : V → Option Int → Option Int → Hp → VK → Prop} (hr : SlR X r) (he : PE X e te) (hl : PO X lo tl) (hu : PO X hi th) : PE X (.Subscript e (.Slice lo hi none p2) pos) (tSl r te tl th) := by
  intro pins s σ H Q I h
  refine Subscript_ (thn (he pins s σ H _ I h) fun v s1 hx9 => ?_)
  obtain ⟨x, H1, I1, r1, q1⟩ := hx9
  refine wpAny_Slice (thn (hl pins s1 σ H1 _ I1 q1) fun vl s2 ⟨l, H2, I2, pl, q2⟩ => thn (hu pins s2 σ H2 _ I2 q2) fun vu s3 hx9 => ?_)
  obtain ⟨u, H3, I3, pu, q3⟩ := hx9
  rw [evalPart_none]
  refine wpAny_pure ?_
  have I4 : Inv X pins σ H3 { s3 with heap := s3.heap.push { cls := .type "slice", data := .fields #[vl, vu, .none] } } := I3.kept (t' := s3.toks) fun b ob q => Heap.get?_push_of_some _ q
  obtain ⟨T, id, hT, ht, hg⟩ := hr pins { s3 with heap := s3.heap.push { cls := .type "slice", data := .fields #[vl, vu, .none] } } σ H3 x v vl vu l u s3.heap.objs.size Q I4 r1 (Heap.IsSliceOf.new ..) pl pu q3
  show wpAny (model X.prog X.w) X.A (subscriptTail e (.Slice lo hi none p2) v (.ref s3.heap.objs.size)) (EP X pins σ Q) X.xe { s3 with heap := s3.heap.push { cls := .type "slice", data := .fields #[vl, vu, .none] } }
  exact tail_any (ops := [.ref s3.heap.objs.size, v]) ht hT hg (by with_unfolding_all rfl)

def cutV (xs : List V) (lo hi : Option Int) : List V := (xs.drop (HT.sIx xs.length 0 lo)).take (HT.sIx xs.length xs.length hi - HT.sIx xs.length 0 lo)
theorem cutV_length (xs : List V) (lo hi : Option Int) : (cutV xs lo hi).length ≤ xs.length := by
  unfold cutV
  rw [List.length_take, List.length_drop]
  exact Nat.le_trans (Nat.min_le_right _ _) (Nat.sub_le _ _)
def rSlT (K : PySem.W.Frag) : V → Option Int → Option Int → Hp → VK → Prop := fun x lo hi H Q => ∃ a xs, x = .ref a ∧ SqT K H a xs ∧
  ¬ (HT.sIx xs.length 0 lo = 0 ∧ HT.sIx xs.length xs.length hi = xs.length) ∧ ∀ p, H p = none → Q (.ref p) (upd H p (.tup (cutV xs lo hi)))
theorem sl_tup : SlR X (rSlT X.K) := by
  intro pins s σ H x v vl vu lo hi sl Q I rx hs pl pu h
  obtain ⟨a, xs, rfl, hx, hw, q⟩ := h
  cases rx
  obtain ⟨its, r, ht, hz⟩ := I.tuple hx
  have hlen : its.toArray.size = xs.length := by rw [List.size_toArray]; exact r.length.symm
  refine ⟨"tuple", _, PyProof.Rows.slot_tuple_getitem.lookup, ht.typeIs, ?_⟩
  refine HT.getItem_tuple_cut ht hs pl pu (by rw [hlen]; exact hw) ?_ (by rw [hlen]; exact hz)
  rw [hlen]
  refine ⟨.ref s.heap.objs.size, _, I.laid (t' := s.toks) (o := .tup (cutV xs lo hi)) (fun b ob q => Heap.get?_push_of_some _ q) (Nat.le_refl _) ?_, rfl, q _ (I.hok.fresh (Nat.le_refl _))⟩
  exact ⟨Nat.le_trans (cutV_length xs lo hi) hz, _, 0, (r.drop (HT.sIx xs.length 0 lo)).take (HT.sIx xs.length xs.length hi - HT.sIx xs.length 0 lo), Heap.get?_push_size _ rfl⟩

def rCatT (K : PySem.W.Frag) : R2 := fun x y H Q => ∃ a b xs ys, x = .ref a ∧ y = .ref b ∧ SqT K H a xs ∧ SqT K H b ys ∧ xs ≠ [] ∧ xs.length + ys.length ≤ sizeLine ∧
  (ys = [] → Q (.ref a) H) ∧ (ys ≠ [] → ∀ p, H p = none → Q (.ref p) (upd H p (.tup (xs ++ ys))))
theorem Vals.nil_iff {xs : List V} {us : List Value} (r : Vals xs us) : us = [] ↔ xs = [] := by
  cases r with
  | nil => simp
  | cons _ _ => simp
theorem op_catT : OpR X (binaryOp .Add) (rCatT X.K) := by
  intro pins s σ H x y v u Q I rx ry h
  obtain ⟨a, b, xs, ys, rfl, rfl, ha, hb, hx, hz, q1, q2⟩ := h
  cases rx
  cases ry
  obtain ⟨its, r1, p1, _⟩ := I.tuple ha
  obtain ⟨its2, r2, p2, _⟩ := I.tuple hb
  refine HT.cat_tup p1 p2 (fun z => hx (r1.nil_iff.mp z)) (fun z => ⟨.ref a, H, I, rfl, q1 (r2.nil_iff.mp z)⟩) (fun z => ?_) (by rw [← r1.length, ← r2.length]; exact hz)
  refine ⟨.ref s.heap.objs.size, _, I.laid (t' := s.toks) (o := .tup (xs ++ ys)) (fun b ob q => Heap.get?_push_of_some _ q) (Nat.le_refl _) ?_, rfl, q2 (fun w => z (r2.nil_iff.mpr w)) _ (I.hok.fresh (Nat.le_refl _))⟩
  exact ⟨by rw [List.length_append]; exact hz, _, 0, r1.append r2, Heap.get?_push_size _ rfl⟩
end
end L2

namespace L2
open PySem PySem.Spec PyProof.Rows

def ixN (n : Nat) (i : Int) : Option Nat := if 0 ≤ i then (if i < n then some i.toNat else none) else if -(n : Int) ≤ i then some (i + n).toNat else none
def atI {α : Type} (xs : List α) (i : Int) : Option α := (ixN xs.length i).bind fun j => xs[j]?
theorem ixN_seq {n : Nat} {i : Int} {j : Nat} (h : ixN n i = some j) : seqIndex? i n = some j ∧ j < n ∧ -(n : Int) ≤ i ∧ i < n := by
  unfold ixN at h
  by_cases h0 : 0 ≤ i
  · rw [if_pos h0] at h
    by_cases h1 : i < n
    · rw [if_pos h1] at h
      have e : i.toNat = j := Option.some.inj h
      exact ⟨by rw [seqIndex_of h0 h1, e], by omega, by omega, h1⟩
    · rw [if_neg h1] at h; cases h
  · rw [if_neg h0] at h
    by_cases h1 : -(n : Int) ≤ i
    · rw [if_pos h1] at h
      have e : (i + n).toNat = j := Option.some.inj h
      exact ⟨by rw [seqIndex_neg (by omega) h1, e], by omega, h1, by omega⟩
    · rw [if_neg h1] at h; cases h
theorem atI_get {α : Type} {xs : List α} {i : Int} {v : α} (h : atI xs i = some v) : ∃ j, seqIndex? i xs.length = some j ∧ xs[j]? = some v ∧ j < xs.length ∧ -(xs.length : Int) ≤ i ∧ i < xs.length := by
  unfold atI at h
  cases e : ixN xs.length i with
  | none => rw [e] at h; cases h
  | some j =>
    rw [e] at h
    obtain ⟨h1, h2, h3, h4⟩ := ixN_seq e
    exact ⟨j, h1, h, h2, h3, h4⟩
theorem atI_nat {α : Type} {xs : List α} {j : Nat} {v : α} (h : xs[j]? = some v) : atI xs (j : Int) = some v := by
  have hj : j < xs.length := (List.getElem?_eq_some_iff.mp h).1
  have e : ixN xs.length (j : Int) = some j := by
    unfold ixN
    rw [if_pos (by omega), if_pos (by omega)]; simp
  unfold atI; rw [e]; exact h
theorem atI_last {α : Type} (xs : List α) (v : α) : atI (xs ++ [v]) (-1) = some v := by
  have hl : (xs ++ [v]).length = xs.length + 1 := by simp
  have e : ixN (xs ++ [v]).length (-1) = some xs.length := by
    unfold ixN
    rw [hl, if_neg (by decide), if_pos (by omega)]
    congr 1
    omega
  unfold atI
  rw [e]
  show (xs ++ [v])[xs.length]? = some v
  simp

def PlainIx (b : Expr) : Prop := ∀ o i, subscripted b false o i = operate [o, i] (getItem o i)
def IxR (X : Cx) (r : R2) : Prop :=
  ∀ (value slice : Expr) (pins : List (Addr × Obj)) (s : Shared) (σ : St) (H : Hp) (x y : V) (v u : Value) (Q : VK), Inv X pins σ H s → RelV x v → RelV y u → r x y H Q →
    subscripted slice false v u = operate [v, u] (getItem v u) → wpAny (model X.prog X.w) X.A (subscriptTail value slice v u) (EP X pins σ Q) X.xe s
def MtR (X : Cx) (id : String) (r : V → List V → Hp → VK → Prop) : Prop :=
  ∀ (pins : List (Addr × Obj)) (s : Shared) (σ : St) (H : Hp) (x : V) (xs : List V) (v : Value) (us : List Value) (Q : VK), Inv X pins σ H s → RelV x v → Vals xs us → r x xs H Q →
    wpAny (model X.prog X.w) X.A (call (.builtin id) (v :: us)) (EP X pins σ Q) X.xe s
section
variable {X : Cx} {a b : Expr} {ta tb : TE} {pos : Pos}
theorem IxR.or {r r' : R2} (h : IxR X r) (h' : IxR X r') : IxR X (fun x y H Q => r x y H Q ∨ r' x y H Q) := by
  intro value slice pins s σ H x y v u Q I rx ry q hs
  rcases q with q | q
  · exact h value slice pins s σ H x y v u Q I rx ry q hs
  · exact h' value slice pins s σ H x y v u Q I rx ry q hs
theorem MtR.or {id : String} {r r' : V → List V → Hp → VK → Prop} (h : MtR X id r) (h' : MtR X id r') : MtR X id (fun x xs H Q => r x xs H Q ∨ r' x xs H Q) := by
  intro pins s σ H x xs v us Q I rx rs q
  rcases q with q | q
  · exact h pins s σ H x xs v us Q I rx rs q
  · exact h' pins s σ H x xs v us Q I rx rs q
theorem pe_ix {r : R2} (hr : IxR X r) (ha : PE X a ta) (hb : PE X b tb) (hs : PlainIx b) : PE X (.Subscript a b pos) (tOp r ta tb) := by
  intro pins s σ H Q I h
  exact Subscript_ (binT ha hb I h fun v u s2 x y H2 I2 rx ry q => hr a b pins s2 σ H2 x y v u Q I2 rx ry q (hs _ _))

def rIxL (K : PySem.W.Frag) : R2 := fun x y H Q => ∃ p xs i v, x = .ref p ∧ y = .int i ∧ SqL K H p xs ∧ atI xs i = some v ∧ Q v H
def rIxT (K : PySem.W.Frag) : R2 := fun x y H Q => ∃ p xs i v, x = .ref p ∧ y = .int i ∧ SqT K H p xs ∧ atI xs i = some v ∧ Q v H
def rIxS : R2 := fun x y H Q => ∃ z i c, x = .str z ∧ y = .int i ∧ z.length ≤ sizeLine ∧ atI z.cps.toList i = some c ∧ Q (.str ⟨#[c]⟩) H
theorem ix_list : IxR X (rIxL X.K) := by
  intro value slice pins s σ H x y v u Q I rx ry h hs
  obtain ⟨p, xs, i, z, rfl, rfl, hq, he, q⟩ := h
  cases rx
  obtain ⟨t, rfl⟩ := ry
  obtain ⟨its, r, pl, hz⟩ := I.list hq
  obtain ⟨j, h1, h2, h3, h4, h5⟩ := atI_get he
  obtain ⟨w, ew, rw'⟩ := r.get h2
  have hl := r.length
  have hn := line63
  have fin : EP X pins σ Q w s := ⟨z, H, I, rw', q⟩
  by_cases h0 : 0 ≤ i
  · have hj : i.toNat = j := by
      rw [seqIndex_of h0 h5] at h1
      exact Option.some.inj h1
    exact item_listR pl.isList h0 (by omega) (by rw [hj]; simpa using ew) fin hs
  · have hj : (i + (its.toArray.size : Int)).toNat = j := by
      rw [seqIndex_neg (by omega) h4] at h1
      rw [List.size_toArray, ← hl]
      exact Option.some.inj h1
    exact subscriptTail_builtinR (x := w) pl.isList.typeIs slot_list_getitem.lookup
      (wpAny_getItem_list_neg (Q := fun r s' => r = w ∧ EP X pins σ Q r s') pl.isList (by omega) (by rw [List.size_toArray] <;> omega) (by omega) (by rw [hj]; simpa using ew) ⟨rfl, fin⟩) hs
theorem ix_tup : IxR X (rIxT X.K) := by
  intro value slice pins s σ H x y v u Q I rx ry h hs
  obtain ⟨p, xs, i, z, rfl, rfl, hq, he, q⟩ := h
  cases rx
  obtain ⟨t, rfl⟩ := ry
  obtain ⟨its, r, pl, hz⟩ := I.tuple hq
  obtain ⟨j, h1, h2, h3, h4, h5⟩ := atI_get he
  obtain ⟨w, ew, rw'⟩ := r.get h2
  have hl := r.length
  have hn := line63
  have fin : EP X pins σ Q w s := ⟨z, H, I, rw', q⟩
  exact subscriptTail_builtinR (x := w) pl.typeIs slot_tuple_getitem.lookup
    (getItem_tuple (j := j) (Q := fun r s' => r = w ∧ EP X pins σ Q r s') pl (by omega) (by omega) (by rw [List.size_toArray, ← hl]; exact h1) (by simpa using ew) ⟨rfl, fin⟩) hs
theorem ix_str : IxR X rIxS := by
  intro value slice pins s σ H x y v u Q I rx ry h hs
  obtain ⟨z, i, c, rfl, rfl, hz, he, q⟩ := h
  obtain ⟨t, rfl⟩ := rx
  obtain ⟨t', rfl⟩ := ry
  obtain ⟨j, h1, h2, h3, h4, h5⟩ := atI_get he
  have hl : z.cps.toList.length = z.length := by simp [Str.length]
  rw [hl] at h1 h4 h5
  have hn := line63
  exact tail_any (typeIs_str s z t) slot_str_getitem.lookup (getItem_str (c := c) (by
    have e1 : decide (i < -(2 ^ 63 : Int)) = false := decide_eq_false (by omega)
    have e2 : decide (i ≥ 2 ^ 63) = false := decide_eq_false (by omega)
    rw [e1, e2, Bool.or_false]) (by rw [h1]; simpa using h2) ⟨.str ⟨#[c]⟩, H, I.tok _, ⟨_, rfl⟩, q⟩) hs
def rIx (K : PySem.W.Frag) : R2 := fun x y H Q => rIxL K x y H Q ∨ rIxT K x y H Q ∨ rIxS x y H Q
theorem ix_seq : IxR X (rIx X.K) := ix_list.or (ix_tup.or ix_str)

theorem mapSeq_set (its : List Value) (n j : Nat) (u : Value) : Obj.mapSeq (·.setIfInBounds j u) { cls := .type "list", data := .seq its.toArray n } = { cls := .type "list", data := .seq (its.set j u).toArray n } := by
  simp [Obj.mapSeq]
theorem Inv.lst {pins : List (Addr × Obj)} {σ : St} {H : Hp} {s : Shared} {p : Addr} {xs : List V} (I : Inv X pins σ H s) (h : H p = some (.lst xs)) :
    ∃ (its : List Value) (n : Nat), Vals xs its ∧ s.heap.get? p = some { cls := .type "list", data := .seq its.toArray n } ∧ xs.length ≤ sizeLine := by
  obtain ⟨z, its, n, r, e⟩ := I.hok p _ h
  exact ⟨its, n, r, e, z⟩
theorem Inv.lstUpd {pins : List (Addr × Obj)} {σ : St} {H : Hp} {s : Shared} {p : Addr} {xs ys : List V} {its its' : List Value} {n n' : Nat} {f : Obj → Obj} (I : Inv X pins σ H s) (h : H p = some (.lst xs))
    (ho : s.heap.get? p = some { cls := .type "list", data := .seq its.toArray n }) (hf : f { cls := .type "list", data := .seq its.toArray n } = { cls := .type "list", data := .seq its'.toArray n' }) (r : Vals ys its') (hz : ys.length ≤ sizeLine) (t : Nat) :
    Inv X pins σ (upd H p (.lst ys)) { s with heap := s.heap.update p f, toks := t } := by
  have e : (s.heap.update p f).get? p = some { cls := .type "list", data := .seq its'.toArray n' } := by
    rw [Heap.get?_update_self f ho (by rw [hf] <;> rfl), hf]
  refine I.write (x := p) (e := p) (by rw [h]; trivial) (.inl rfl) (fun b u hb q => (Heap.get?_update_other _ _ (Ne.symm hb)).trans q) ⟨_, e⟩ ?_
  exact ⟨hz, its', n', r, e⟩
def rSetL : V → V → V → Hp → (Hp → Prop) → Prop := fun o i v H Q => ∃ p xs k j, o = .ref p ∧ i = .int k ∧ H p = some (.lst xs) ∧ ixN xs.length k = some j ∧ Q (upd H p (.lst (xs.set j v)))
theorem set_list : PSet X rSetL := by
  intro pins s σ H o i v ov iv u Q I ro ri rv h
  obtain ⟨p, xs, k, j, rfl, rfl, hp, hj, q⟩ := h
  cases ro
  obtain ⟨t, rfl⟩ := ri
  obtain ⟨its, n, r, ho, hz⟩ := I.lst hp
  obtain ⟨h1, h2, h3, h4⟩ := ixN_seq hj
  have hl := r.length
  have hn := line63
  have I' : Inv X pins σ (upd H p (.lst (xs.set j v))) { s with heap := s.heap.update p (Obj.mapSeq (·.setIfInBounds j u)) } :=
    I.lstUpd hp ho (mapSeq_set its n j u) (r.set rv j) (by rw [List.length_set]; exact hz) s.toks
  by_cases h0 : 0 ≤ k
  · have hk : k.toNat = j := by
      rw [seqIndex_of h0 h4] at h1
      exact Option.some.inj h1
    exact PySem.W.ki_setAt ho h0 (by omega) (by rw [List.size_toArray, ← hl]; exact h4) (by rw [hk]; exact ⟨_, I', q⟩)
  · have hk : (k + (its.toArray.size : Int)).toNat = j := by
      rw [seqIndex_neg (by omega) h3] at h1
      rw [List.size_toArray, ← hl]
      exact Option.some.inj h1
    exact PySem.W.ki_setBack ho (by omega) (by rw [List.size_toArray, ← hl]; exact h3) (by omega) (by rw [hk]; exact ⟨_, I', q⟩)

theorem slice_bounds (lo hi : Option Int) (n : Nat) : (sliceBounds lo hi none n).1 = ((HT.sIx n 0 lo : Nat) : Int) ∧ (sliceBounds lo hi none n).2.1 = ((HT.sIx n n hi : Nat) : Int) ∧ (sliceBounds lo hi none n).2.2 = 1 := by
  refine ⟨?_, ?_, rfl⟩
  · cases lo with
    | none => simp [sliceBounds, HT.sIx]
    | some i =>
      simp only [sliceBounds, HT.sIx, Option.getD_none, show (1 : Int) > 0 by decide, if_true]
      by_cases h : i < 0
      · simp only [h, if_true] <;> omega
      · simp only [h, if_false] <;> omega
  · cases hi with
    | none => simp [sliceBounds, HT.sIx]
    | some i =>
      simp only [sliceBounds, HT.sIx, Option.getD_none, show (1 : Int) > 0 by decide, if_true]
      by_cases h : i < 0
      · simp only [h, if_true] <;> omega
      · simp only [h, if_false] <;> omega
theorem slicePick_cut (its : List Value) (lo hi : Option Int) : slicePick its.toArray lo hi none = ((its.drop (HT.sIx its.length 0 lo)).take (HT.sIx its.length its.length hi - HT.sIx its.length 0 lo)).toArray := by
  obtain ⟨h1, h2, h3⟩ := slice_bounds lo hi its.toArray.size
  unfold slicePick
  rw [h1, h2, h3]
  simp only [sliceRange_one, pick_run, List.size_toArray] <;> rfl
def rSlL (K : PySem.W.Frag) : V → Option Int → Option Int → Hp → VK → Prop := fun x lo hi H Q => ∃ a xs, x = .ref a ∧ SqL K H a xs ∧ ∀ p, H p = none → Q (.ref p) (upd H p (.lst (cutV xs lo hi)))
theorem sl_list : SlR X (rSlL X.K) := by
  intro pins s σ H x v vl vu lo hi sl Q I rx hs pl pu h
  obtain ⟨a, xs, rfl, hx, q⟩ := h
  cases rx
  obtain ⟨its, r, ht, hz⟩ := I.list hx
  have hlen := r.length
  refine ⟨"list", _, slot_list_getitem.lookup, ht.isList.typeIs, ?_⟩
  refine wpAny_getItem_list_slice ht.isList hs pl pu .none (by simp) ?_ (by rw [List.size_toArray] <;> omega)
  rw [slicePick_cut, ← hlen]
  refine ⟨.ref s.heap.objs.size, _, I.laid (t' := s.toks) (o := .lst (cutV xs lo hi)) (fun b ob q => Heap.get?_push_of_some _ q) (Nat.le_refl _) ?_, rfl, q _ (I.hok.fresh (Nat.le_refl _))⟩
  exact ⟨Nat.le_trans (cutV_length xs lo hi) hz, _, 0, (r.drop (HT.sIx xs.length 0 lo)).take (HT.sIx xs.length xs.length hi - HT.sIx xs.length 0 lo), Heap.get?_push_size _ rfl⟩

def flatV : V → Bool
  | .non => true
  | .bl _ => true
  | .int _ => true
  | .str _ => true
  | _ => false
def eqV : V → V → Bool
  | .non, .non => true
  | .bl a, .bl b => a == b
  | .bl a, .int b => (if a then 1 else 0) == b
  | .int a, .bl b => a == (if b then 1 else 0)
  | .int a, .int b => a == b
  | .str a, .str b => a == b
  | _, _ => false
theorem eqAt_V {A : Around} {s : Shared} {y x : V} {u v : Value} (ry : RelV y u) (rx : RelV x v) (fy : flatV y = true) (fx : flatV x = true) : SeqAt.EqAt A s u v (eqV y x) := by
  cases y with
  | non =>
    cases ry
    cases x with
    | non => cases rx; exact SeqAt.EqAt.same _
    | bl b => cases rx; exact SeqAt.EqAt.none_bool b
    | int b => obtain ⟨t, rfl⟩ := rx; exact SeqAt.EqAt.none_int b t
    | str b => obtain ⟨t, rfl⟩ := rx; exact SeqAt.EqAt.none_str b t
    | _ => exact absurd (show false = true from fx) Bool.false_ne_true
  | bl a =>
    cases ry
    cases x with
    | non => cases rx; exact SeqAt.EqAt.bool_none a
    | bl b => cases rx; exact SeqAt.EqAt.bool_bool a b
    | int b => obtain ⟨t, rfl⟩ := rx; exact SeqAt.EqAt.bool_int a b t
    | str b => obtain ⟨t, rfl⟩ := rx; exact SeqAt.EqAt.bool_str a b t
    | _ => exact absurd (show false = true from fx) Bool.false_ne_true
  | int a =>
    obtain ⟨t', rfl⟩ := ry
    cases x with
    | non => cases rx; exact SeqAt.EqAt.int_none a t'
    | bl b => cases rx; exact SeqAt.EqAt.int_bool a t' b
    | int b => obtain ⟨t, rfl⟩ := rx; exact SeqAt.EqAt.int_int a t' b t
    | str b => obtain ⟨t, rfl⟩ := rx; exact SeqAt.EqAt.int_str a t' b t
    | _ => exact absurd (show false = true from fx) Bool.false_ne_true
  | str a =>
    obtain ⟨t', rfl⟩ := ry
    cases x with
    | non => cases rx; exact SeqAt.EqAt.str_none a t'
    | bl b => cases rx; exact SeqAt.EqAt.str_bool a t' b
    | int b => obtain ⟨t, rfl⟩ := rx; exact SeqAt.EqAt.str_int a t' b t
    | str b => obtain ⟨t, rfl⟩ := rx; exact SeqAt.EqAt.str_str a t' b t
    | _ => exact absurd (show false = true from fx) Bool.false_ne_true
  | _ => exact absurd (show false = true from fy) Bool.false_ne_true
def eqU (x : V) (u : Value) : Bool := match u with
  | .none => eqV .non x
  | .bool b => eqV (.bl b) x
  | .int i _ => eqV (.int i) x
  | .str z _ => eqV (.str z) x
  | _ => false
theorem eqU_of {x y : V} {u : Value} (r : RelV y u) (f : flatV y = true) : eqU x u = eqV y x := by
  cases y with
  | non => cases r; rfl
  | bl b => cases r; rfl
  | int i => obtain ⟨t, rfl⟩ := r; rfl
  | str z => obtain ⟨t, rfl⟩ := r; rfl
  | _ => exact absurd (show false = true from f) Bool.false_ne_true
theorem any_eqU {x : V} : ∀ {xs : List V} {us : List Value}, Vals xs us → xs.all flatV = true → us.any (eqU x) = xs.any fun y => eqV y x
  := by
  intro xs us h
  induction h with
  | nil => intro _; rfl
  | cons r t ih =>
    intro f
    rw [List.all_cons, Bool.and_eq_true] at f
    rw [List.any_cons, List.any_cons, eqU_of r f.1, ih f.2]
theorem mem_eqAt {A : Around} {s : Shared} {x : V} {v : Value} (rx : RelV x v) (fx : flatV x = true) : ∀ {xs : List V} {us : List Value}, Vals xs us → xs.all flatV = true → ∀ u ∈ us, SeqAt.EqAt A s u v (eqU x u)
  | _, _, .nil, _ => fun u hu => by cases hu
  | y :: xs, u :: us, .cons r t, f => fun u' hu => by
    rw [List.all_cons, Bool.and_eq_true] at f
    rcases List.mem_cons.mp hu with rfl | hu
    · rw [eqU_of r f.1]; exact eqAt_V r rx f.1 fx
    · exact mem_eqAt rx fx t f.2 u' hu
def inV (x : V) (xs : List V) : Bool := xs.any fun y => eqV y x
def rIn (K : PySem.W.Frag) (neg : Bool) : R2 := fun x y H Q => ∃ p xs, y = .ref p ∧ (SqL K H p xs ∨ SqT K H p xs) ∧ flatV x = true ∧ xs.all flatV = true ∧ Q (.bl (if neg then !inV x xs else inV x xs)) H
theorem op_in_seq : OpR X (compareOp .In) (rIn X.K false) := by
  intro pins s σ H x y v u Q I rx ry h
  obtain ⟨p, xs, rfl, hq, fx, fs, q⟩ := h
  cases ry
  rcases hq with hq | hq
  · obtain ⟨its, r, pl, hz⟩ := I.list hq
    refine SeqAt.in_listAt (eqU x) pl.isList (fun w hw => mem_eqAt rx fx r fs w (by simpa using hw)) ⟨.bl _, H, I, rfl, ?_⟩
    rw [show its.toArray.any (eqU x) = its.any (eqU x) by simp, any_eqU r fs]
    exact q
  · obtain ⟨its, r, pl, hz⟩ := I.tuple hq
    refine SeqAt.in_tupleAt (eqU x) pl (fun w hw => mem_eqAt rx fx r fs w (by simpa using hw)) ⟨.bl _, H, I, rfl, ?_⟩
    rw [show its.toArray.any (eqU x) = its.any (eqU x) by simp, any_eqU r fs]
    exact q
theorem op_notIn_seq : OpR X (compareOp .NotIn) (rIn X.K true) := by
  intro pins s σ H x y v u Q I rx ry h
  obtain ⟨p, xs, rfl, hq, fx, fs, q⟩ := h
  cases ry
  rcases hq with hq | hq
  · obtain ⟨its, r, pl, hz⟩ := I.list hq
    refine SeqAt.notIn_listAt (eqU x) pl.isList (fun w hw => mem_eqAt rx fx r fs w (by simpa using hw)) ⟨.bl _, H, I, rfl, ?_⟩
    rw [show its.toArray.any (eqU x) = its.any (eqU x) by simp, any_eqU r fs]
    exact q
  · obtain ⟨its, r, pl, hz⟩ := I.tuple hq
    refine SeqAt.notIn_tupleAt (eqU x) pl (fun w hw => mem_eqAt rx fx r fs w (by simpa using hw)) ⟨.bl _, H, I, rfl, ?_⟩
    rw [show its.toArray.any (eqU x) = its.any (eqU x) by simp, any_eqU r fs]
    exact q
theorem call_len_seq : CallR X (.builtin "len") (fun xs H Q => ∃ p ys, xs = [.ref p] ∧ (SqL X.K H p ys ∨ SqT X.K H p ys) ∧ Q (.int ys.length) H) := by
  intro pins s σ H xs us Q I r h
  obtain ⟨p, ys, rfl, hq, q⟩ := h
  obtain ⟨u, rfl, rx⟩ := vals1 r
  cases rx
  have hn := line63
  rcases hq with hq | hq
  · obtain ⟨its, r', pl, hz⟩ := I.list hq
    have hlen := r'.length
    exact Calls.call_len_list pl.isList (by simp only [List.size_toArray] <;> omega) ⟨.int ys.length, H, I.tok _, ⟨s.toks + 1, by rw [List.size_toArray, hlen]⟩, q⟩
  · obtain ⟨its, r', pl, hz⟩ := I.tuple hq
    have hlen := r'.length
    exact len_tuple pl (by simp only [List.size_toArray] <;> omega) ⟨.int ys.length, H, I.tok _, ⟨s.toks + 1, by rw [List.size_toArray, hlen]⟩, q⟩
theorem CallR.or {f : Value} {r r' : List V → Hp → VK → Prop} (h : CallR X f r) (h' : CallR X f r') : CallR X f (fun xs H Q => r xs H Q ∨ r' xs H Q) := by
  intro pins s σ H xs us Q I rs q
  rcases q with q | q
  · exact h pins s σ H xs us Q I rs q
  · exact h' pins s σ H xs us Q I rs q
theorem call_list_of : CallR X (.type "list") (fun xs H Q => ∃ p ys, xs = [.ref p] ∧ (SqL X.K H p ys ∨ SqT X.K H p ys) ∧ ∀ l, H l = none → Q (.ref l) (upd H l (.lst ys))) := by
  intro pins s σ H xs us Q I r h
  obtain ⟨p, ys, rfl, hq, q⟩ := h
  obtain ⟨u, rfl, rx⟩ := vals1 r
  cases rx
  have fin : ∀ (its : List Value), Vals ys its → ys.length ≤ sizeLine → ∀ (h' : Heap) (c' : Nat), (∀ b o', s.heap.get? b = some o' → h'.get? b = some o') →
      h'.get? s.heap.objs.size = some { cls := .type "list", dict := none, data := .seq its.toArray c', slots := #[] } → EP X pins σ Q (.ref s.heap.objs.size) { s with heap := h' } := fun its r' hz h' c' kp e =>
    ⟨.ref s.heap.objs.size, _, I.laid (t' := s.toks) kp (Nat.le_refl _) (show ObjOk X.prog X.w _ h' _ (.lst ys) from ⟨hz, its, c', r', e⟩), rfl, q _ (I.hok.fresh (Nat.le_refl _))⟩
  rcases hq with hq | hq
  · obtain ⟨its, r', pl, hz⟩ := I.list hq
    have hlen := r'.length
    obtain ⟨o, ho, hc, n, hd⟩ := pl.isList
    exact call_list_seq p (.inl rfl) ho hc hd (fun h' c' kp e => fin its r' hz h' c' kp e) (by simp only [List.size_toArray] <;> omega)
  · obtain ⟨its, r', pl, hz⟩ := I.tuple hq
    have hlen := r'.length
    obtain ⟨o, ho, hc, n, hd⟩ := pl
    exact call_list_seq p (.inr rfl) ho hc hd (fun h' c' kp e => fin its r' hz h' c' kp e) (by simp only [List.size_toArray] <;> omega)
theorem call_tuple_of : CallR X (.type "tuple") (fun xs H Q => ∃ p ys, xs = [.ref p] ∧ ((SqL X.K H p ys ∧ ∀ l, H l = none → Q (.ref l) (upd H l (.tup ys))) ∨ (SqT X.K H p ys ∧ Q (.ref p) H))) := by
  intro pins s σ H xs us Q I r h
  obtain ⟨p, ys, rfl, h⟩ := h
  obtain ⟨u, rfl, rx⟩ := vals1 r
  cases rx
  rcases h with ⟨hq, q⟩ | ⟨hq, q⟩
  · obtain ⟨its, r', pl, hz⟩ := I.list hq
    have hlen := r'.length
    refine call_tuple_list pl.isList (fun h' kp => ?_) (by simp only [List.size_toArray] <;> omega)
    have I1 : Inv X pins σ H { s with heap := h' } := I.kept (t' := s.toks) kp
    have I2 : Inv X pins σ (upd H h'.objs.size (.tup ys)) { s with heap := h'.push { cls := .type "tuple", data := .seq its.toArray } } :=
      I1.laid (t' := s.toks) (fun b o e => Heap.get?_push_of_some _ e) (Nat.le_refl _) (show ObjOk X.prog X.w _ _ _ (.tup ys) from ⟨hz, its, 0, r', Heap.get?_push_size _ rfl⟩)
    exact ⟨.ref h'.objs.size, _, I2, rfl, q _ (I1.hok.fresh (Nat.le_refl _))⟩
  · obtain ⟨its, r', pl, hz⟩ := I.tuple hq
    exact call_tuple_same pl ⟨.ref p, H, I, rfl, q⟩

def tyV (K : PySem.W.Frag) (T : String) (x : V) (H : Hp) : Prop := match x with
  | .str _ => T = "str"
  | .int _ => T = "int"
  | .ref p => (T = "list" ∧ ∃ xs, SqL K H p xs) ∨ (T = "tuple" ∧ ∃ xs, SqT K H p xs) ∨
      (T = "dict" ∧ ((∃ kvs, H p = some (.dK kvs)) ∨ ∃ kvs, H p = some (.dT kvs))) ∨ (T = "set" ∧ ∃ S n, H p = some (.set S n))
  | _ => False
theorem tyV_is {pins : List (Addr × Obj)} {σ : St} {H : Hp} {s : Shared} {T : String} {x : V} {v : Value} (I : Inv X pins σ H s) (r : RelV x v) (ty : tyV X.K T x H) :
    s.TypeIs v T ∧ ∀ a, v = .ref a → ∃ ob, s.heap.get? a = some ob ∧ ob.dict = none := by
  cases x with
  | str z =>
    obtain ⟨t, rfl⟩ := r
    cases (show T = "str" from ty)
    exact ⟨typeIs_str s z t, fun _ e => nomatch e⟩
  | int i =>
    obtain ⟨t, rfl⟩ := r
    cases (show T = "int" from ty)
    exact ⟨typeIs_int s i t, fun _ e => nomatch e⟩
  | ref p =>
    cases r
    rcases ty with ⟨rfl, xs, hq⟩ | ⟨rfl, xs, hq⟩ | ⟨rfl, hk⟩ | ⟨rfl, S, n, hk⟩
    · obtain ⟨its, _, pl, _⟩ := I.list hq
      refine ⟨pl.isList.typeIs, fun a e => ?_⟩
      cases e
      obtain ⟨o, n, e, c, hd, _⟩ := pl
      exact ⟨o, e, hd⟩
    · obtain ⟨o, e, hc, hd⟩ : ∃ o, s.heap.get? p = some o ∧ o.cls = .type "tuple" ∧ o.dict = none := by
        rcases hq with hq | ⟨o, _, _, hk, hc, hd, _⟩
        · obtain ⟨_, its, n, _, e⟩ := hq.ok I.hok
          exact ⟨_, e, rfl, rfl⟩
        · exact ⟨o, I.kIn p o hk, hc, hd⟩
      refine ⟨⟨o, e, hc⟩, fun a e2 => ?_⟩
      cases e2
      exact ⟨o, e, hd⟩
    · have z : ∃ o, s.heap.get? p = some o ∧ o.ExactDict := by
        rcases hk with ⟨kvs, hk⟩ | ⟨kvs, hk⟩
        · obtain ⟨_, _, _, _, o, _, _, e, ex, _⟩ := I.hok p _ hk
          exact ⟨o, e, ex⟩
        · obtain ⟨_, _, _, _, o, _, _, e, ex, _⟩ := I.hok p _ hk
          exact ⟨o, e, ex⟩
      obtain ⟨o, e, ex⟩ := z
      refine ⟨⟨o, e, ex.1⟩, fun a e2 => ?_⟩
      cases e2
      exact ⟨o, e, ex.2.1⟩
    · obtain ⟨o, _, _, _, e, ex, _⟩ := I.hok p _ hk
      refine ⟨⟨o, e, ex.1⟩, fun a e2 => ?_⟩
      cases e2
      exact ⟨o, e, ex.2.1⟩
  | _ => exact False.elim ty
def tBM (K : PySem.W.Frag) (T : String) (r : V → List V → Hp → VK → Prop) (to : TE) (t : TA) : TE := fun σ H Q => to σ H fun x H1 => tyV K T x H1 ∧ t σ H1 fun xs H2 => r x xs H2 Q
variable {o e : Expr} {es : List Expr} {to : TE} {t : TA} {name : Str} {apos cpos : Pos} {T id : String} {r : V → List V → Hp → VK → Prop}
theorem pe_bm (pa : PlainAttrs T) (slot : Slot T name id) (hty : typeOf (.builtin id) = pure (.type "method_descriptor")) (hm : MtR X id r) (ho : PE X o to) (ha : PA X (e :: es) t)
    (hbase : attributeBase o name X.env (eval o X.env) = eval o X.env := by rfl)
    (hfew : ((backTo cpos (starEach (e :: es) X.env)).all (fun x => !x.1) && (backToKw cpos (keywordEach [] X.env)).all (fun x => x.1.isSome)
      && decide ((e :: es).length + ([] : List Keyword).length + (if ([] : List Keyword).isEmpty then 0 else 1) < 30)) = true := by rfl)
    (hline : (apos.endLine == cpos.line) = true := by rfl) (hs : starEach (e :: es) X.env = (false, eval e X.env) :: starEach es X.env := by rfl) (hplain : (backTo cpos (starEach es X.env)).any (·.1) = false := by rfl) :
    PE X (.Call (.Attribute o name apos) (e :: es) [] cpos) (tBM X.K T r to t) := by
  intro pins s σ H Q I h
  refine wpAny_Call_method_late hbase hfew hline rfl (thn (ho pins s σ H _ I h) fun v s1 hx9 => ?_)
  obtain ⟨x, H1, I1, r1, ty, q1⟩ := hx9
  obtain ⟨h1, h2⟩ := tyV_is I1 r1 ty
  refine ⟨T, id, pa, slot, hty, h1, h2, ?_⟩
  have hA := ha cpos pins s1 σ H1 _ I1 q1
  rw [hs] at hA ⊢
  refine Calls.callWith_builtin (by show (false || (backTo cpos (starEach es X.env)).any (·.1)) = false; rw [hplain] <;> rfl) (Calls.evalArgs_plain ?_)
  refine thn hA fun us s2 hx9 => ?_
  obtain ⟨vs, H2, I2, r2, q2⟩ := hx9
  exact hm pins s2 σ H2 x vs v us Q I2 r1 r2 q2
/- xs.append(e), list.index on a module's tuple .. are MtR facts of 06m -/
end
end L2

namespace L2
open PySem PySem.Spec PyProof.Rows

def MtM (X : Cx) (id : String) (r : V → List V → Hp → VK → Prop) : Prop :=
  ∀ (pins : List (Addr × Obj)) (s : Shared) (σ : St) (H : Hp) (x : V) (xs : List V) (v : Value) (us : List Value) (Q : VK), Inv X pins σ H s → RelV x v → Vals xs us → r x xs H Q →
    wpAny (model X.prog X.w) X.A (call (.builtin id) (v :: us)) (EP X pins σ Q) X.xe s

theorem Vals.one {x : V} {us : List Value} (r : Vals [x] us) : ∃ u, us = [u] ∧ RelV x u := vals1 r
theorem Vals.two {x y : V} {us : List Value} (r : Vals [x, y] us) : ∃ u v, us = [u, v] ∧ RelV x u ∧ RelV y v := vals2 r
theorem Vals.zero : ∀ {us : List Value}, Vals [] us → us = []
  | _, .nil => rfl
theorem Vals.dropLast {xs : List V} {us : List Value} (h : Vals xs us) : Vals xs.dropLast us.dropLast := by
  induction h with
  | nil => exact .nil
  | cons r t ih =>
    cases t with
    | nil => exact .nil
    | cons q t' => exact .cons r ih
theorem Vals.reverse {xs : List V} {us : List Value} (h : Vals xs us) : Vals xs.reverse us.reverse := by
  induction h with
  | nil => exact .nil
  | cons r t ih => rw [List.reverse_cons, List.reverse_cons]; exact Vals.append ih (.cons r .nil)
theorem Vals.rep {xs : List V} {us : List Value} (h : Vals xs us) : ∀ k : Nat, Vals (List.replicate k xs).flatten (List.replicate k us).flatten
  | 0 => .nil
  | k + 1 => by
    rw [List.replicate_succ, List.replicate_succ, List.flatten_cons, List.flatten_cons]
    exact Vals.append h (Vals.rep h k)
theorem foldl_rep (its : List Value) : ∀ (k : Nat) (acc : List Value),
    List.foldl (fun x1 x2 => x1 ++ x2) acc.toArray (List.replicate k its.toArray) = (acc ++ (List.replicate k its).flatten).toArray
  | 0, acc => by simp
  | k + 1, acc => by
    have e : acc.toArray ++ its.toArray = (acc ++ its).toArray := by simp
    have e2 : (acc ++ its) ++ (List.replicate k its).flatten = acc ++ (List.replicate (k + 1) its).flatten := by
      rw [List.replicate_succ, List.flatten_cons, List.append_assoc]
    rw [← e2, ← foldl_rep its k (acc ++ its), ← e, List.replicate_succ, List.foldl_cons]

section
variable {X : Cx} {pins : List (Addr × Obj)} {σ : St} {H : Hp} {s : Shared} {l b : Addr} {xs ys zs : List V}

theorem Inv.lset {its its' : List Value} {n : Nat} {f : Array Value → Array Value} {t' : Nat} (I : Inv X pins σ H s) (hH : H l = some (.lst xs))
    (e : s.heap.get? l = some { cls := .type "list", data := .seq its.toArray n }) (hf : f its.toArray = its'.toArray) (hv : Vals ys its') (hz : ys.length ≤ sizeLine) :
    Inv X pins σ (upd H l (.lst ys)) { s with heap := s.heap.update l (Obj.mapSeq f), toks := t' } := by
  have q := PySem.IsL.update e f
  rw [hf] at q
  refine I.write (x := l) (e := l) (by rw [hH]; exact trivial) (.inl rfl) (fun b' u hb hu => (Heap.get?_update_other s.heap (Obj.mapSeq f) (Ne.symm hb)).trans hu) ⟨_, q⟩ ?_
  exact ⟨hz, its', _, hv, q⟩
theorem Inv.lnew {its : List Value} {t' : Nat} (I : Inv X pins σ H s) (hv : Vals ys its) (hz : ys.length ≤ sizeLine) :
    Inv X pins σ (upd H s.heap.objs.size (.lst ys)) { s with heap := s.heap.push { cls := .type "list", data := .seq its.toArray }, toks := t' } :=
  I.laid (fun _ _ q => Heap.get?_push_of_some _ q) (Nat.le_refl _) ⟨hz, its, 0, hv, Heap.get?_push_size _ rfl⟩
theorem Inv.fresh (I : Inv X pins σ H s) : H s.heap.objs.size = none := I.hok.fresh (Nat.le_refl _)
theorem Inv.lstM (I : Inv X pins σ H s) (hH : H l = some (.lst xs)) : xs.length ≤ sizeLine ∧ ∃ (its : List Value) (n : Nat), Vals xs its ∧ xs.length = its.length ∧ s.heap.get? l = some { cls := .type "list", data := .seq its.toArray n } := by
  obtain ⟨z, its, n, r, e⟩ := I.hok l _ hH
  exact ⟨z, its, n, r, r.length, e⟩

theorem notLongL {n : Nat} (h : n ≤ sizeLine) : Builtin.List.listTooLong n = false := by
  unfold Builtin.List.listTooLong
  exact decide_eq_false (by omega)
end

section
variable {X : Cx}

def rAppend : V → List V → Hp → VK → Prop := fun x vs H Q => ∃ l xs y, x = .ref l ∧ vs = [y] ∧ H l = some (.lst xs) ∧ xs.length < sizeLine ∧ Q .non (upd H l (.lst (xs ++ [y])))
theorem mt_append : MtM X "list.append" rAppend := by
  intro pins s σ H x vs v us Q I rx rv h
  obtain ⟨l, xs, y, rfl, rfl, hH, hz, q⟩ := h
  cases rx
  obtain ⟨u, rfl, ru⟩ := rv.one
  obtain ⟨z, its, n, r, hl, e⟩ := I.lstM hH
  refine call_meets F.slot_list_append ⟨_, e, rfl⟩ F.entry_list_append (F.args_list_append_2 _ _) (PySem.list_append l its.toArray n u (by rw [List.size_toArray]; omega)) ⟨e, ?_⟩
  refine ⟨.non, _, I.lset (its' := its ++ [u]) hH e (by simp) (r.append (.cons ru .nil)) ?_, rfl, q⟩
  rw [List.length_append, List.length_singleton]
  omega

def rCat : R2 := fun x y H Q => ∃ l b xs zs, x = .ref l ∧ y = .ref b ∧ H l = some (.lst xs) ∧ H b = some (.lst zs) ∧ xs.length + zs.length ≤ sizeLine ∧ ∀ p, H p = none → Q (.ref p) (upd H p (.lst (xs ++ zs)))
theorem op_cat : OpR X (binaryOp .Add) rCat := by
  intro pins s σ H x y v u Q I rx ry h
  obtain ⟨l, b, xs, zs, rfl, rfl, hH, hB, hz, q⟩ := h
  cases rx
  cases ry
  obtain ⟨z, its, n, r, hl, e⟩ := I.lstM hH
  obtain ⟨z2, its2, n2, r2, hl2, e2⟩ := I.lstM hB
  refine PySem.P.add_list e e2 ?_ (by rw [List.size_toArray, List.size_toArray]; omega)
  have ea : its.toArray ++ its2.toArray = (its ++ its2).toArray := by simp
  rw [ea]
  exact ⟨.ref _, _, I.lnew (t' := s.toks) (r.append r2) (by rw [List.length_append]; omega), rfl, q _ I.fresh⟩
def rRep : R2 := fun x y H Q => ∃ l k xs, x = .ref l ∧ y = .int k ∧ H l = some (.lst xs) ∧ -(2 ^ 63) ≤ k ∧ k < 2 ^ 63 ∧ xs.length * k.toNat ≤ sizeLine ∧
  ∀ p, H p = none → Q (.ref p) (upd H p (.lst (List.replicate k.toNat xs).flatten))
theorem len_rep {α : Type} (xs : List α) (k : Nat) : (List.replicate k xs).flatten.length = k * xs.length := by
  induction k with
  | zero => simp
  | succ k ih => rw [List.replicate_succ, List.flatten_cons, List.length_append, ih, Nat.succ_mul, Nat.add_comm]
theorem op_rep : OpR X (binaryOp .Mult) rRep := by
  intro pins s σ H x y v u Q I rx ry h
  obtain ⟨l, k, xs, rfl, rfl, hH, h1, h2, hz, q⟩ := h
  cases rx
  obtain ⟨t, rfl⟩ := ry
  obtain ⟨z, its, n, r, hl, e⟩ := I.lstM hH
  have hlen : its.toArray.size * k.toNat ≤ sizeLine := by rw [List.size_toArray, ← hl]; exact hz
  have hcap : ¬ its.toArray.size * k.toNat > (2 ^ 63 - 1) / 8 := by
    have : (sizeLine : Nat) ≤ (2 ^ 63 - 1) / 8 := by decide
    omega
  have hfit : ¬ (!Builtin.List.listFitsIndex k) = true := by
    rw [fitsIndex_both h1 h2]
    exact Bool.false_ne_true
  have hlong : ¬ Builtin.List.listTooLong (its.toArray.size * k.toNat) = true := by
    rw [notLongL hlen]
    exact Bool.false_ne_true
  have hnew : List.foldl (fun x1 x2 => x1 ++ x2) #[] (List.replicate (if its.toArray.isEmpty = true then 0 else k.toNat) its.toArray) = (List.replicate k.toNat its).flatten.toArray := by
    have f0 : ∀ m : Nat, List.foldl (fun x1 x2 => x1 ++ x2) #[] (List.replicate m its.toArray) = (List.replicate m its).flatten.toArray := fun m => by
      have := foldl_rep its m []
      rw [List.nil_append] at this
      exact this
    rw [f0]
    cases its with
    | nil => simp
    | cons a r' => rw [if_neg (by simp)]
  refine wpAny_binaryOp_repeat_ref (T := "list") (U := "int") (by decide) ⟨_, e, rfl⟩ (fun s' => typeIs_int s' k t) noFill_list_mul F.fills_int_mul F.slot_int_rmul repeat_list F.slot_int_index.lookup
    (call_meets F.slot_int_rmul (typeIs_int s k t) F.entry_int_rmul (F.args_int_rmul_2 _ _) (int___rmul___int_list k t l its.toArray n)
      ⟨e, rfl, ⟨_, e, rfl⟩, call_meets F.slot_list_mul ⟨_, e, rfl⟩ F.entry_list_mul (F.args_list_mul_2 _ _) (AutoListH.list___mul___list_int_3 l its.toArray n k t hfit hcap hlong) ⟨e, ?_⟩⟩)
  rw [hnew]
  exact ⟨.ref _, _, I.lnew (t' := s.toks) (r.rep k.toNat) (by rw [len_rep, Nat.mul_comm]; exact hz), rfl, q _ I.fresh⟩

end

section
variable {prog : Program} {w : World} {A : Around} {E : Value → Shared → Prop} {s : Shared}
end

section
variable {X : Cx}
end
end L2

namespace Att
open PySem PySem.W PySem.Calls PyProof.Rows

theorem ints_of_wellAll {P : Params} {h : Heap} : ∀ (ns : List Int) (vs : List Value), WellAll P h vs (ns.map WData.int) → IntsAre vs ns := by
  intro ns
  induction ns with
  | nil =>
    intro vs w
    rw [List.map_nil] at w
    cases w
    exact .nil
  | cons n ns ih =>
    intro vs w
    rw [List.map_cons] at w
    cases w with
    | cons a b =>
      cases a
      exact .cons _ _ (ih _ b)

theorem script_of {l : OpenLaw} {n : Nat} (hn : l.most = some n) {P : Params} {h : Heap} {args : List WData} {vals : List Value}
    (hpre : l.row.toRowW.claim.pre args = true) (hwl : WellAll P h vals args) :
    ∃ a vs ns, vals = [Value.ref a] ∧ args = [WData.list (ns.map WData.int)] ∧ h.get? a = some { cls := .type "list", data := .seq vs.toArray } ∧ IntsAre vs ns ∧ ns.length ≤ n := by
  have hsh : WShape.hasAll [] args [.list .int] = true := (pre_splitW hpre).1
  have hc : l.pre.holds [] { args := args } = true := (pre_splitW hpre).2
  obtain ⟨d, r, rfl, h1, h2⟩ := hasAllW_cons hsh
  obtain rfl := hasAllW_nil h2
  obtain ⟨xs, rfl, h3⟩ := hasW_list h1
  obtain ⟨ns, rfl⟩ := items_int h3
  have hlen : ns.length ≤ n := by
    unfold OpenLaw.pre at hc
    have h4 : (WTm.not (.lt (.lit (.int (n : Int))) (.len (.arg 0)))).holds [] { args := [.list (ns.map .int)] } = true := by
      have h4 := (holds_andW hc).1
      rw [hn] at h4
      exact h4
    have h5 := condW_of h4 (w_not (w_lt w_lit (w_len_list (w_arg rfl))))
    rw [List.length_map] at h5
    refine Nat.le_of_not_lt fun q => ?_
    have q' : (n : Int) < ((ns.length : Nat) : Int) := by omega
    first
      | (rw [decide_eq_true q'] at h5; exact absurd h5 (by decide))
      | (simp at h5; omega)
  cases hwl with
  | cons w1 w2 =>
    cases w2
    cases w1 with
    | list ho hall => exact ⟨_, _, ns, rfl, rfl, ho, ints_of_wellAll ns _ hall, hlen⟩

theorem post_true (l : OpenLaw) (args : List WData) : l.row.toRowW.claim.post args (.bool true) args = true :=
  postW_of (r := l.row.toRowW) (X := (true == true))
    (show WShape.has [] (.bool true) .bool = true by first | rfl | decide | simp [WShape.has, WShape.arms, WShape.armsAll])
    (show (WTm.eq .res (.lit (.bool true))).value [] { args := args, res := some (.bool true), after := args } = some (.bool (true == true)) from w_eq_bool (w_res rfl) w_lit) rfl

theorem attach_call {l : OpenLaw} {n : Nat} {q : Program} {loose : List Str} {XP : (Str → Option Value) → Heap → Prop} {YP : World → Heap → Prop} {d : DefRec}
    (hn : l.most = some n) (hdf : d.params.defaults = [])
    (call : ∀ (w : World) (s₀ s₁ : Shared) (mg mb : Str → Option Value) (fa : Addr) (o : Obj) (pm cd doc : Value) (a : Addr) (vs : List Value) (ns : List Int),
      Ground q loose [] XP w s₀ mg mb s₁.heap → YP w s₁.heap →
      s₁.heap.get? fa = some o → o.data = .func (docDef d.name d.params d.body d.scope pm cd doc) → s₁.heap.CodeRec cd d.name → mg d.name = some (.ref fa) →
      s₁.heap.get? a = some { cls := .type "list", data := .seq vs.toArray } → IntsAre vs ns → ns.length ≤ n → s₁.gens = #[] →
      codeAny (model l.prog w) callerA (.call (.ref fa) ⟨[.ref a], []⟩) (fun r s' => r = .ok (.ret (.bool true)) ∧ OldK s₁.heap s'.heap ∧ s'.os = s₁.os ∧ AllBare s'.gens) s₁) :
    WalkO q loose XP YP l.row.toRowW d [] (fun f vs => PySem.call f vs) := by
  intro w s₀ s₁ mg mb G Y fa o pm cd doc dV kV ho hd hcd hD hmg hg args vals as hpre hlay hrd hwl hlo
  obtain rfl : dV = .none := Dflts.none hD hdf
  obtain rfl : kV = .none := Dflts.noKw hD
  obtain ⟨a, vs, ns, rfl, rfl, hobj, hints, hlen⟩ := script_of hn hpre hwl
  refine enter_call (codeAny_mono (call w s₀ s₁ mg mb fa o pm cd doc a vs ns G Y ho (fd_plain hd) hcd hmg hobj hints hlen hg) fun r s' hq => ?_)
  obtain ⟨rfl, h2, h3, h4⟩ := hq
  exact ⟨.inl ⟨.bool true, .bool true, [], rfl, fun _ => rfl, .bool true, post_true l _, fun _ => ⟨List.Pairwise.nil, fun _ hm => (nomatch hm)⟩⟩, h2, h3, h4⟩

section
variable {prog : Program} {w : World} {A : Around} {E : Value → Shared → Prop} {s : Shared} {K : Frag}

end
end Att

namespace L2
open PySem PySem.Spec PyProof.Rows

theorem vals_ints : ∀ {vs : List Value} {ns : List Int}, IntsAre vs ns → Vals (ns.map V.int) vs
  := by
  intro vs ns h
  induction h with
  | nil => exact .nil
  | cons n t h ih => exact .cons ⟨t, rfl⟩ ih

def Only (H : Hp) : Prop := ∀ b, H b = none ∨ ∃ o xs, H b = some (.frz o (.lst xs))

theorem law_call {P : Program} {w : World} {K : PySem.W.Frag} {mg mb : Str → Option Value} {CX : CXT} {k : Nat} {fa a : Addr} {fd : FuncData} {x : Str} {sp : Sp} {s₁ : Shared} {vs : List Value} {ns : List Int}
    (KX : K.In s₁.heap) (hns : s₁.heap.Ns mainGlobals mg) (hb : s₁.heap.Ns builtinsNs mb) (hbb : ∀ x : Str, x ≠ "__name__" → mb x = bootBuiltins x) (hlim : s₁.heap.NoLimit) (hmod : ∃ mm, s₁.heap.Ns sysModules mm) (hg : s₁.gens = #[])
    (ha : s₁.heap.get? a = some { cls := .type "list", data := .seq vs.toArray }) (hi : IntsAre vs ns) (hl : ns.length ≤ sizeLine) (hr : Room k callerA)
    (F : ∀ base : Heap, K.In base → base.Ns mainGlobals mg → FnOk P w K mg base CX k fa fd [x] sp) (hbind : ∀ (s : Shared) (u : Value), BindsTo s fd ⟨[u], []⟩ [(x, u)])
    (hsp : ∀ H : Hp, Only H → SqL K H a (ns.map V.int) → sp [.ref a] H (fun v _ => v = .bl true) fun _ _ _ => False)
    (hCX : ∀ H e s', CX [] H s₁ (fun _ _ _ => False) e s' → False) :
    codeAny (model P w) callerA (.call (.ref fa) ⟨[.ref a], []⟩) (fun r s' => r = .ok (.ret (.bool true)) ∧ OldK s₁.heap s'.heap ∧ s'.os = s₁.os ∧ AllBare s'.gens) s₁ := by
  have rv := vals_ints hi
  have lenV := hi.length
  -- from an abstract heap in which nothing but the script may be tracked
  have core : ∀ H : Hp, Only H → SqL K H a (ns.map V.int) → HOk P w H s₁.heap → (∀ b, H b ≠ none → b = a) → (H a ≠ none → K.lookup a = none) →
      codeAny (model P w) callerA (.call (.ref fa) ⟨[.ref a], []⟩) (fun r s' => r = .ok (.ret (.bool true)) ∧ OldK s₁.heap s'.heap ∧ s'.os = s₁.os ∧ AllBare s'.gens) s₁ := by
    intro H hO hS hok hA hK
    have base_of : ∀ {b : Addr} {o : Obj}, s₁.heap.get? b = some o → H b = none → (hidT s₁.heap H).get? b = some o := fun e n => hidT_get e n
    have noA : ∀ {b : Addr} {o : Obj} {es : Array DictEntry} {ep : Nat}, s₁.heap.get? b = some o → o.data = .dict es ep → H b = none := fun {b o es ep} e d => by
      cases q : H b with
      | none => rfl
      | some u =>
        have e' : b = a := hA b (by rw [q]; simp)
        subst e'
        rw [ha] at e; cases e
        have d' : Data.seq vs.toArray _ = Data.dict es ep := d
        cases d'
    have nsK : ∀ {b : Addr} {m : Str → Option Value}, s₁.heap.Ns b m → (hidT s₁.heap H).Ns b m := fun {b m} ⟨o, es, ep, e, d, r⟩ => ⟨o, es, ep, base_of e (noA e d), d, r⟩
    have hKb : K.In (hidT s₁.heap H) := fun b o e => base_of (KX b o e) (by
      cases q : H b with
      | none => rfl
      | some u =>
        have e' : b = a := hA b (by rw [q]; simp)
        subst e'
        rw [hK (by rw [q]; simp)] at e; cases e)
    have hM : Mod K mg (hidT s₁.heap H) := ⟨hKb, nsK hns, ⟨mb, nsK hb, hbb⟩, let ⟨mc, h1, h2⟩ := hlim; ⟨mc, nsK h1, h2⟩, let ⟨mm, h1⟩ := hmod; ⟨mm, nsK h1⟩⟩
    have e0 : Env0 P w K mg (hidT s₁.heap H) callerA [] s₁ H := ⟨rfl, hM, fun b o e => of_hidT e, Nat.le_of_eq (hidT_size _ _), trivial, fun b hb => absurd (show b ∈ ([] : List Addr) from hb) (by simp), hok, .of_eq hg⟩
    refine codeAny_mono ((F _ hKb (nsK hns)).run callerA [] s₁ H ⟨[.ref a], []⟩ [.ref a] [.ref a] _ _ hr e0 (hbind s₁ (.ref a)) (.cons rfl .nil) (hsp H hO hS)) fun r s' h => ?_
    cases r with
    | error e => exact (hCX H e s' h).elim
    | ok fl =>
      cases fl with
      | next => exact False.elim h
      | brk => exact False.elim h
      | cont => exact False.elim h
      | ret u =>
        obtain ⟨v, H', os, bare, un, hok', r', q⟩ := h
        have q' : v = .bl true := q
        subst q'
        obtain rfl : u = Value.bool true := r'
        refine ⟨rfl, OldK.of_keep fun b o e => ?_, os, bare⟩
        cases q : H b with
        | none => exact un.keep b o e q (by intro z; exact absurd (show b ∈ ([] : List Addr) from z) (by simp)) (by simp)
        | some u =>
          rcases hO b with z | ⟨ob, xs, z⟩
          · rw [q] at z; cases z
          · have z2 := un.frzs b ob _ z
            obtain ⟨e1, _⟩ := hok b _ z
            obtain ⟨e2, _⟩ := hok' b _ z2
            rw [e] at e1; cases e1
            exact e2
  cases hk : K.lookup a with
  | some o =>
    -- the script is one of the module's own objects
    have e := KX a o hk
    rw [ha] at e
    cases e
    refine core (fun _ => none) (fun _ => .inl rfl) (.inr ⟨_, vs.toArray, _, hk, rfl, rfl, rfl, by rw [List.size_toArray, lenV]; exact hl, by simpa using rv⟩) (fun b u z => by have z' : (none : Option HO) = some u := z; cases z') (fun b z => absurd rfl z) fun z => absurd rfl z
  | none =>
    refine core (fun b => if b = a then some (.frz { cls := .type "list", data := .seq vs.toArray } (.lst (ns.map V.int))) else none) (fun b => ?_) (.inl (.inr ⟨{ cls := .type "list", data := .seq vs.toArray }, if_pos rfl⟩)) (fun b u z => ?_) (fun b z => ?_) fun _ => hk
    · by_cases hb : b = a
      · exact .inr ⟨_, _, if_pos hb⟩
      · exact .inl (if_neg hb)
    · by_cases hb : b = a
      · have z' := (if_pos hb).symm.trans z
        cases z'
        subst hb
        exact ⟨ha, by rw [List.length_map]; exact hl, vs, _, rv, ha⟩
      · have z' := (if_neg hb).symm.trans z
        cases z'
    · by_cases hb : b = a
      · exact hb
      · exact absurd (if_neg hb) z
end L2

namespace L2
open PySem PySem.Spec PyProof.Rows

theorem walk_of {l : PySem.W.OpenLaw} {n k : Nat} {q : Program} {loose : List Str} {XP : (Str → Option Value) → Heap → Prop} {YP : World → Heap → Prop} {d : DefRec} {K : Params → PySem.W.Frag} {CX : World → CXT} {sp : World → Sp} {x : Str}
    (hn : l.most = some n) (hn2 : n ≤ sizeLine) (hdf : d.params.defaults = []) (hr : Room k callerA) (hq : importsNone q = true)
    (hY : ∀ (w : World) (h : Heap), YP w h → (K w.params).In h)
    (F : ∀ (w : World) (mg : Str → Option Value) (fa : Addr) (h : Heap), (K w.params).In h → h.Ns mainGlobals mg → mg d.name = some (.ref fa) →
      ∃ fd : FuncData, (∀ (s : Shared) (u : Value), BindsTo s fd ⟨[u], []⟩ [(x, u)]) ∧
        ∀ base : Heap, (K w.params).In base → base.Ns mainGlobals mg → FnOk l.prog w (K w.params) mg base (CX w) k fa fd [x] (sp w))
    (hsp : ∀ (w : World) (H : Hp) (a : Addr) (ns : List Int), ns.length ≤ n → Only H → SqL (K w.params) H a (ns.map V.int) → sp w [.ref a] H (fun v _ => v = .bl true) fun _ _ _ => False)
    (hCX : ∀ (w : World) (H : Hp) (s : Shared) (e : Value) (s' : Shared), CX w [] H s (fun _ _ _ => False) e s' → False) :
    PySem.W.WalkO q loose XP YP l.row.toRowW d [] (fun f vs => PySem.call f vs) := by
  refine Att.attach_call hn hdf fun w s₀ s₁ mg mb fa o pm cd doc a vs ns G Y ho hd hcd hmg hobj hints hlen hg => ?_
  have KX := hY w _ Y
  obtain ⟨fd, hb, hF⟩ := F w mg fa _ KX G.T.g hmg
  exact law_call KX G.T.g G.T.b G.T.builtins G.T.nolimit (let ⟨mm, h1, _⟩ := (G.T.seer hq).mods; ⟨mm, h1⟩) hg hobj hints (Nat.le_trans hlen hn2) hr hF hb (fun H hO hS => hsp w H a ns hlen hO hS) fun H e s' => hCX w H s₁ e s'
end L2

namespace L2
open PySem PySem.Spec PyProof.Rows

def defArgs (s : Stmt) : Arguments := match s with
  | .FunctionDef _ a _ _ _ _ _ _ _ _ => a
  | _ => { posonlyargs := [], args := [], vararg := none, kwonlyargs := [], kw_defaults := [], kwarg := none, defaults := [] }
def defBody (s : Stmt) : List Stmt := match s with
  | .FunctionDef _ _ b _ _ _ _ _ _ _ => b
  | _ => []
def defScope (s : Stmt) : Scope := match s with
  | .FunctionDef _ _ _ _ _ _ sc _ _ _ => sc
  | _ => { kind := .function, names := [], isGenerator := false, isCoroutine := false }

abbrev CX0 : CXT := fun _ _ _ _ _ _ => False
abbrev E0 : XK := fun _ _ _ => False
theorem pass0 {X : Cx} : Passes CX0 X E0 := fun _ _ _ _ _ _ _ h => h.elim

structure Fun (K : PySem.W.Frag) (x qual : Str) (st : Stmt) (f : Addr) (fd : FuncData) : Prop where
  ex : ∃ (oc : Value) (od : Option Addr) (kV doc pm : Value) (an : Option Addr) (cdv ct : Value) (osl : Array (Option Value)),
    fd = PySem.W.fnOf x qual (defArgs st) (defBody st) (defScope st) .none kV doc pm an cdv ct ∧ K.lookup f = some ⟨oc, od, .func fd, osl⟩ ∧ PySem.W.codeIn K cdv qual = true
  kp : PySem.W.keepIn K (.ref f) = true
section
variable {P : Program} {w : World} {K : PySem.W.Frag} {mg : Str → Option Value} {base : Heap}
theorem Fun.ok {x qual : Str} {st : Stmt} {f : Addr} {fd : FuncData} {N ps : List Str} {k : Nat} {sp : Sp} (F : Fun K x qual st f fd) (S : FnScope N ps (defScope st)) (len : ∀ vs H Q E, sp vs H Q E → vs.length = ps.length)
    (hbody : ∀ (cdv : Value) (A : Around) (outer : List Env) (s : Shared) (H : Hp) (vs : List V) (Q : VK) (E : XK), Room k (A.deeper (envOfC qual (defScope st) s.heap.objs.size f cdv)) → sp vs H Q E →
      ∃ t, PSs (cxOf CX0 P w K mg base N qual (defScope st) f cdv A outer s H E).nox (defBody st) t ∧ t { nx := fun _ H' => Q .non H', rt := Q } (start N vs) H) : FnOk P w K mg base CX0 (k + 1) f fd ps sp := by
  obtain ⟨oc, od, kV, doc, pm, an, cdv, ct, osl, rfl, lk, hcd⟩ := F.ex
  refine fn_of lk hcd S len fun A outer s H vs Q E hr hsp => ?_
  obtain ⟨t, h, q⟩ := hbody cdv A outer s H vs Q E hr hsp
  exact ⟨t, h.nox, q⟩
theorem Fun.binds {x qual : Str} {st : Stmt} {f : Addr} {fd : FuncData} {ps : List Str} (F : Fun K x qual st f fd)
    (h : ∀ (kV doc pm : Value) (an : Option Addr) (cdv ct : Value) (us : List Value), us.length = ps.length → bindArgs (PySem.W.fnOf x qual (defArgs st) (defBody st) (defScope st) .none kV doc pm an cdv ct) ⟨us, []⟩ = pure (ps.zip us)) : Binds K fd ps [] := by
  obtain ⟨oc, od, kV, doc, pm, an, cdv, ct, osl, rfl, lk, hcd⟩ := F.ex
  exact .all (h kV doc pm an cdv ct)
theorem fun_mk {x qual : Str} {st : Stmt} {f : Addr} {oc : Value} {od an : Option Addr} {osl : Array (Option Value)} {kV doc pm cdv ct : Value} (l : K.lookup f = some ⟨oc, od, .func (PySem.W.fnOf x qual (defArgs st) (defBody st) (defScope st) .none kV doc pm an cdv ct), osl⟩)
    (c : PySem.W.codeIn K cdv qual = true) (k : PySem.W.keepIn K (.ref f) = true) : Fun K x qual st f (PySem.W.fnOf x qual (defArgs st) (defBody st) (defScope st) .none kV doc pm an cdv ct) := ⟨⟨oc, od, kV, doc, pm, an, cdv, ct, osl, rfl, l, c⟩, k⟩
end
theorem small1000 {n : Nat} (h : n ≤ 1000) : n < sizeLine := Nat.lt_of_le_of_lt h (by decide)

section
variable {X : Cx}
theorem pv (i : Nat) {x : Str} {pos : Pos} (hN : X.N[i]? = some x := by rfl) (hv : Vis X.env.scope x := by first | exact Or.inl rfl | exact Or.inr (Or.inl rfl) | exact Or.inr (Or.inr rfl)) (hd : (x == ("__debug__" : Str)) = false := by decide)
    (hcd : (x == ("__classdict__" : Str)) = false := by decide) : PE X (.Name x pos) (tVar i) := pe_var hN hv hd hcd
end

theorem iteF {A B : Prop} (h : B) : if false = true then A else B := by
  rw [if_neg Bool.false_ne_true]
  exact h
theorem iteT {A B : Prop} (h : A) : if true = true then A else B := by
  rw [if_pos rfl]
  exact h
theorem ite2 {c A B : Prop} [Decidable c] (h1 : c → A) (h2 : ¬ c → B) : if c then A else B := by
  by_cases h : c
  · rw [if_pos h]
    exact h1 h
  · rw [if_neg h]
    exact h2 h
def Same (H H' : Hp) : Prop := ∀ b o, H b = some o → H' b = some o
theorem Same.refl (H : Hp) : Same H H := fun _ _ h => h
theorem Same.trans {H H1 H2 : Hp} (a : Same H H1) (b : Same H1 H2) : Same H H2 := fun c o h => b c o (a c o h)
theorem Same.free {H H' : Hp} (e : Same H H') {l : Addr} (h : H' l = Option.none) : H l = Option.none := by
  cases q : H l with
  | none => rfl
  | some o =>
    rw [e l o q] at h
    cases h
theorem Same.seq {K : PySem.W.Frag} {H H' : Hp} {a : Addr} {xs : List V} (e : Same H H') (h : SqL K H a xs) : SqL K H' a xs := by
  rcases h with (h | ⟨o, h⟩) | h
  · exact .inl (.inl (e _ _ h))
  · exact .inl (.inr ⟨o, e _ _ h⟩)
  · exact .inr h

end L2
set_option Elab.async false
set_option linter.all false
set_option maxRecDepth 100000
namespace L2
open PySem PySem.Spec PyProof.Rows

def clOf (env : Env) : List (Str × NameKind) → List (Str × Addr) → List (Str × Addr)
  | [], acc => acc
  | (n, k) :: r, acc => if k == .free then (match env.cells.lookup n with | some c => clOf env r ((n, c) :: acc) | none => clOf env r acc) else clOf env r acc

theorem clo_loop {env : Env} : ∀ (names : List (Str × NameKind)) (acc : List (Str × Addr)), (∀ y ∈ names, y.2 = .free → ∃ c, env.cells.lookup y.1 = some c) →
    (forIn names acc fun (x : Str × NameKind) (r : List (Str × Addr)) => (match x with
      | (name, kind) => if (kind == NameKind.free) = true then (do let a ← cellOf env name; pure (ForInStep.yield ((name, a) :: r))) else pure (ForInStep.yield r) : Sem (ForInStep (List (Str × Addr))))) = (pure (clOf env names acc) : Sem _)
  | [], acc, _ => rfl
  | (n, k) :: r, acc, h => by
    have ih := fun acc => clo_loop r acc fun y hy => h y (List.mem_cons_of_mem _ hy)
    rw [List.forIn_cons]
    by_cases hk : (k == NameKind.free) = true
    · obtain ⟨c, hc⟩ := h (n, k) List.mem_cons_self (by simpa using hk)
      have e1 : clOf env ((n, k) :: r) acc = clOf env r ((n, c) :: acc) := by
        show (if k == .free then _ else _) = _
        rw [if_pos hk]; simp only at hc; rw [hc]
      simp only at hc
      rw [e1, ← ih]
      simp only [hk, if_true, cellOf, hc]
      rfl
    · have e1 : clOf env ((n, k) :: r) acc = clOf env r acc := by
        show (if k == .free then _ else _) = _
        rw [if_neg hk]
      rw [e1, ← ih]
      simp only [hk, if_false]
      rfl
theorem clo_of {env : Env} {scope : Scope} (h : ∀ y ∈ scope.names, y.2 = .free → ∃ c, env.cells.lookup y.1 = some c) : closureFor scope env = pure (clOf env scope.names []) := by
  unfold closureFor
  have e := clo_loop scope.names [] h
  show (forIn scope.names [] _ >>= _) = _
  exact (congrArg (fun z => z >>= fun r => pure r) e).trans rfl
theorem clOf_mem {env : Env} : ∀ (names : List (Str × NameKind)) (acc : List (Str × Addr)) (n : Str) (c : Addr), (n, c) ∈ clOf env names acc → (n, c) ∈ acc ∨ env.cells.lookup n = some c
  | [], _, _, _, h => .inl h
  | (m, k) :: r, acc, n, c, h => by
    by_cases hk : (k == NameKind.free) = true
    · rw [show clOf env ((m, k) :: r) acc = (match env.cells.lookup m with | some c => clOf env r ((m, c) :: acc) | none => clOf env r acc) from if_pos hk] at h
      cases e : env.cells.lookup m with
      | none => rw [e] at h; exact clOf_mem r acc n c h
      | some d =>
        rw [e] at h
        rcases clOf_mem r _ n c h with q | q
        · rcases List.mem_cons.mp q with q | q
          · cases q; exact .inr e
          · exact .inl q
        · exact .inr q
    · rw [show clOf env ((m, k) :: r) acc = clOf env r acc from if_neg hk] at h
      exact clOf_mem r acc n c h
theorem clOf_has {env : Env} : ∀ (names : List (Str × NameKind)) (acc : List (Str × Addr)) (n : Str), ((∃ c, (n, c) ∈ acc) ∨ ((n, NameKind.free) ∈ names ∧ ∃ c, env.cells.lookup n = some c)) → ∃ c, (n, c) ∈ clOf env names acc
  | [], _, _, h => by
    rcases h with h | ⟨h, _⟩
    · exact h
    · cases h
  | (m, k) :: r, acc, n, h => by
    by_cases hk : (k == NameKind.free) = true
    · rw [show clOf env ((m, k) :: r) acc = (match env.cells.lookup m with | some c => clOf env r ((m, c) :: acc) | none => clOf env r acc) from if_pos hk]
      cases e : env.cells.lookup m with
      | none =>
        refine clOf_has r acc n ?_
        rcases h with h | ⟨h, c, hc⟩
        · exact .inl h
        · rcases List.mem_cons.mp h with h | h
          · cases h; rw [e] at hc; cases hc
          · exact .inr ⟨h, c, hc⟩
      | some d =>
        refine clOf_has r _ n ?_
        rcases h with ⟨c, h⟩ | ⟨h, c, hc⟩
        · exact .inl ⟨c, List.mem_cons_of_mem _ h⟩
        · rcases List.mem_cons.mp h with h | h
          · cases h; exact .inl ⟨d, List.mem_cons_self⟩
          · exact .inr ⟨h, c, hc⟩
    · rw [show clOf env ((m, k) :: r) acc = clOf env r acc from if_neg hk]
      refine clOf_has r acc n ?_
      rcases h with h | ⟨h, c, hc⟩
      · exact .inl h
      · rcases List.mem_cons.mp h with h | h
        · cases h; exact absurd rfl hk
        · exact .inr ⟨h, c, hc⟩
theorem lookup_memS {β : Type} : ∀ {l : List (Str × β)} {a : Str} {b : β}, l.lookup a = some b → (a, b) ∈ l := PySem.mem_of_lookup_some
theorem mem_lookupS {β : Type} : ∀ {l : List (Str × β)} {a : Str} {b : β}, (a, b) ∈ l → ∃ c, l.lookup a = some c
  | (k, v) :: l, a, b, h => by
    rw [List.lookup_cons]
    by_cases e : (a == k) = true
    · rw [e]; exact ⟨v, rfl⟩
    · have e' : (a == k) = false := by simpa using e
      rw [e']
      rcases List.mem_cons.mp h with h | h
      · cases h; simp at e
      · exact mem_lookupS h
theorem lookup_relabel {env : Env} (x : Str) : ∀ (names : List (Str × NameKind)),
    (names.map fun (n, k) => if (k == NameKind.free && env.scope.kind == .function && env.kindOf n == some .cell) then (n, NameKind.cell) else (n, k)).lookup x =
      (names.lookup x).map fun k => if (k == NameKind.free && env.scope.kind == .function && env.kindOf x == some .cell) then NameKind.cell else k
  | [] => rfl
  | (n, k) :: r => by
    have ih := lookup_relabel (env := env) x r
    rw [List.map_cons]
    by_cases e : (x == n) = true
    · have en : x = n := by simpa using e
      subst en
      dsimp only
      by_cases c : (k == NameKind.free && env.scope.kind == .function && env.kindOf x == some .cell) = true
      · rw [if_pos c, List.lookup_cons, List.lookup_cons, e]
        simp only [Option.map_some, c, if_true]
      · rw [if_neg c, List.lookup_cons, List.lookup_cons, e]
        simp only [Option.map_some, c]
        rfl
    · have e' : (x == n) = false := by simpa using e
      dsimp only
      by_cases c : (k == NameKind.free && env.scope.kind == .function && env.kindOf n == some .cell) = true
      · rw [if_pos c, List.lookup_cons, List.lookup_cons, e']; exact ih
      · rw [if_neg c, List.lookup_cons, List.lookup_cons, e']; exact ih

def cxComp (X : Cx) (scope : Scope) (N : List Str) (C : Addr) (s0 : Shared) (H0 : Hp) (fp : List Addr) : Cx where
  prog := X.prog
  w := X.w
  K := X.K
  mg := X.mg
  base := X.base
  A := X.A
  N := N
  s₀ := s0
  H₀ := H0
  env := compEnvC scope (clOf X.env scope.names []) C X.env
  outer := X.stack
  stack := X.stack
  ex := fp
  fn := fun _ => false
  calm := X.calm
  pn := []
  xe := fun _ _ => False
def compCheck (sc scope : Scope) (own : List Str) (frn : List Str) : Bool :=
  scope.kind == .function && scope.names.all (fun y => y.2 != .cell) && scope.names.all (fun y => y.2 != .local || scope.names.lookup y.1 == some .local) &&
  scope.names.all (fun y => y.2 != .free || sc.names.lookup y.1 == some .cell || sc.names.lookup y.1 == some .free) && decide (own ++ frn).Nodup &&
  own.all (fun x => scope.names.lookup x == some .local) && frn.all (fun x => scope.names.lookup x == some .free)
def blk (own : Nat) (fr : List Nat) (σ : St) : St := List.replicate own none ++ fr.map fun j => (σ[j]?).join
structure CompOk (X : Cx) (scope : Scope) (own : List Str) (fr : List Nat) (frn : List Str) : Prop where
  ck : compCheck X.env.scope scope own frn = true
  ix : ∀ (k : Nat) (x : Str), frn[k]? = some x → ∃ j : Nat, fr[k]? = some j ∧ X.N[j]? = some x
  len : fr.length = frn.length
section
variable {X : Cx} {scope : Scope} {own frn : List Str} {fr : List Nat}
theorem CompOk.parts (S : CompOk X scope own fr frn) : scope.kind = .function ∧ (∀ y ∈ scope.names, y.2 ≠ .cell) ∧ (∀ y ∈ scope.names, y.2 = .local → scope.names.lookup y.1 = some .local) ∧
    (∀ y ∈ scope.names, y.2 = .free → X.env.scope.names.lookup y.1 = some .cell ∨ X.env.scope.names.lookup y.1 = some .free) ∧ (own ++ frn).Nodup ∧ (∀ x ∈ own, scope.names.lookup x = some .local) ∧ ∀ x ∈ frn, scope.names.lookup x = some .free := by
  have h := S.ck
  unfold compCheck at h
  simp only [Bool.and_eq_true, List.all_eq_true, decide_eq_true_eq, Bool.or_eq_true, bne_iff_ne, ne_eq, beq_iff_eq] at h
  obtain ⟨⟨⟨⟨⟨⟨h1, h2⟩, h3⟩, h4⟩, h5⟩, h6⟩, h7⟩ := h
  refine ⟨h1, h2, fun y hy e => ?_, fun y hy e => ?_, h5, h6, h7⟩
  · rcases h3 y hy with z | z
    · exact absurd e z
    · exact z
  · rcases h4 y hy with (z | z) | z
    · exact absurd e z
    · exact .inl z
    · exact .inr z
theorem blk_length (S : CompOk X scope own fr frn) (σ : St) : (blk own.length fr σ).length = (own ++ frn).length := by
  unfold blk
  rw [List.length_append, List.length_append, List.length_replicate, List.length_map, S.len]

theorem inv_comp {pins : List (Addr × Obj)} {σ : St} {H : Hp} {s : Shared} {fp : List Addr} {h1 : Heap} {tk : Nat} {C D : Addr} {oD : Obj} {m : Str → Option Value} (I : Inv X pins σ H s) (S : CompOk X scope own fr frn)
    (hfp : ∀ b ∈ fp, FpOk X pins H b) (hlt : ∀ b ∈ fp, b < s.heap.objs.size) (hC : s.heap.objs.size ≤ C) (hn : h1.Ns C m) (hk : ∀ b o, s.heap.get? b = some o → h1.get? b = some o)
    (hD : s.heap.objs.size ≤ D) (hDC : D ≠ C) (hoD : h1.get? D = some oD) (hdD : ∀ v, oD.data ≠ .cell v) :
    Inv (cxComp X scope (own ++ frn) C s H fp) [(D, oD)] (blk own.length fr σ) H { s with heap := h1, toks := tk } := by
  obtain ⟨p1, p2, p3, p4, p5, p6, p7⟩ := S.parts
  have below : ∀ b, b < s.heap.objs.size → b ≠ C := fun b hb z => Nat.lt_irrefl _ (Nat.lt_of_lt_of_le (z ▸ hb) hC)
  have clsub : ∀ x c, (clOf X.env scope.names []).lookup x = some c → X.env.cells.lookup x = some c := fun x c e => by
    rcases clOf_mem _ _ _ _ (lookup_memS e) with q | q
    · cases q
    · exact q
  have clt : ∀ x c, X.env.cells.lookup x = some c → c < s.heap.objs.size := fun x c e => by
    obtain ⟨v, q⟩ := I.cell x c e
    exact q.lt
  have nstk : ∀ b ∈ fp, b ∉ frs X.stack := fun b hb z => by
    obtain ⟨_, f1, f2, _⟩ := hfp b hb
    rcases List.mem_cons.mp (I.stkSub b z) with e | e
    · exact f1 e
    · exact f2 e
  have Dfs : D ∉ frs X.stack := fun z => by
    have q := I.stkSub D z
    rcases List.mem_cons.mp q with e | e
    · exact Nat.lt_irrefl _ (Nat.lt_of_lt_of_le (e ▸ I.lt : D < _) hD)
    · exact I.nofs hD e
  refine ⟨⟨I.ok.mod, p1, I.ok.glob, I.ok.blt, hC, fun x y c e1 e2 => I.ok.inj x y c (clsub x c e1) (clsub y c e2), fun x hx => ?_, fun x c e => absurd e (by show ¬ (false = true); decide), I.ok.hd, I.ok.frames, .inl rfl, fun b hb => ?_, I.bs, Nat.le_trans I.ok.bsz I.sz, fun b o e hb => ?_, nstk, I.stack, I.stkFree⟩,
    rfl, I.bare, Un.kept hk, ⟨m, hn, fun i x v e1 e2 e3 => ?_⟩, fun x c e => ?_, I.hok.fresh hC, fun x c e => I.freeC x c (clsub x c e), fun p hp => ?_, I.hok.kept hk, blk_length S σ⟩
  · -- has
    have hx' : (relabel scope X.env).names.lookup x = some .cell ∨ (relabel scope X.env).names.lookup x = some .free := hx
    have hl : (relabel scope X.env).names.lookup x = _ := lookup_relabel (env := X.env) x scope.names
    rw [hl] at hx'
    cases e : scope.names.lookup x with
    | none =>
      rw [e] at hx'
      rcases hx' with z | z <;> cases z
    | some k =>
      have hmem := lookup_memS e
      have hkf : k = .free := by
        rw [e] at hx'
        simp only [Option.map_some, Option.some.injEq] at hx'
        by_cases c : (k == NameKind.free && X.env.scope.kind == .function && X.env.kindOf x == some .cell) = true
        · simp only [Bool.and_eq_true, beq_iff_eq] at c
          exact c.1.1
        · rw [if_neg c] at hx'
          rcases hx' with z | z
          · exact absurd z (p2 _ hmem)
          · exact z
      subst hkf
      obtain ⟨c, hc⟩ := I.ok.has x (p4 _ hmem rfl)
      obtain ⟨c', hc'⟩ := clOf_has (env := X.env) scope.names [] x (.inr ⟨hmem, c, hc⟩)
      exact mem_lookupS hc'
  · -- exf
    refine ⟨below b (hlt b hb), fun x c e => ?_⟩
    exact (hfp b hb).2.2.2.2.1 x c (clsub x c e)
  · -- noex
    rcases (hfp b hb).2.2.2.1 with z | z
    · exact I.ok.noex b o e z
    · exact absurd (Nat.lt_of_lt_of_le (Heap.lt_size (I.ok.bs b o e).1) z) (Nat.lt_irrefl _)
  · -- loc
    show ∃ u, RelV v u ∧ Look _ _ _ x u
    have e1' : (own ++ frn)[i]? = some x := e1
    have e2' : (blk own.length fr σ)[i]? = some (some v) := e2
    unfold blk at e2'
    by_cases hi : i < own.length
    · rw [List.getElem?_append_left (by simpa using hi), List.getElem?_replicate] at e2'
      rw [if_pos hi] at e2'
      cases e2'
    · rw [List.getElem?_append_right (by simpa using hi)] at e2'
      rw [List.getElem?_append_right (by omega)] at e1'
      rw [List.length_replicate, List.getElem?_map] at e2'
      obtain ⟨j, hj1, hj2⟩ := S.ix _ _ e1'
      rw [hj1] at e2'
      simp only [Option.map_some, Option.some.injEq] at e2'
      have hσ : σ[j]? = some (some v) := by
        cases q : σ[j]? with
        | none => rw [q] at e2'; cases e2'
        | some w => rw [q] at e2'; exact congrArg some e2'
      have hfree := p7 x (List.mem_of_getElem? e1')
      have hmem := lookup_memS hfree
      have kx := p4 _ hmem rfl
      have vis : Vis X.env.scope x := by
        rcases kx with z | z
        · exact .inr (.inl z)
        · exact .inr (.inr z)
      obtain ⟨m0, hn0, hl0⟩ := I.loc
      obtain ⟨u, ru, lk⟩ := hl0 j x v hj2 hσ vis
      refine ⟨u, ru, .inr ⟨?_, ?_⟩⟩
      · show (relabel scope X.env).names.lookup x = some .cell ∨ (relabel scope X.env).names.lookup x = some .free
        have hl : (relabel scope X.env).names.lookup x = _ := lookup_relabel (env := X.env) x scope.names
        rw [hl, hfree]
        simp only [Option.map_some, Option.some.injEq]
        by_cases c : (NameKind.free == NameKind.free && X.env.scope.kind == .function && X.env.kindOf x == some .cell) = true
        · rw [if_pos c]; exact .inl rfl
        · rw [if_neg c]; exact .inr rfl
      · rcases lk with ⟨kl, _⟩ | ⟨_, c, hc, hcell⟩
        · have kl' : X.env.scope.names.lookup x = some .local := kl
          rcases kx with z | z <;> (have z' : X.env.scope.names.lookup x = _ := z; rw [kl'] at z'; cases z')
        · obtain ⟨c', hc'⟩ := clOf_has (env := X.env) scope.names [] x (.inr ⟨hmem, c, hc⟩)
          obtain ⟨c2, hc2⟩ := mem_lookupS hc'
          have ec : c2 = c := by
            have := clsub x c2 hc2
            rw [hc] at this
            exact (Option.some.inj this).symm
          subst ec
          obtain ⟨oc, ho, hd⟩ := hcell
          exact ⟨c2, hc2, oc, hk _ _ ho, hd⟩
  · obtain ⟨v, o, ho, hd⟩ := I.cell x c (clsub x c e)
    exact ⟨v, o, hk _ _ ho, hd⟩
  · have hp' : p ∈ ([] : List (Addr × Obj)) ++ [(D, oD)] := hp
    simp only [List.nil_append, List.mem_singleton] at hp'
    subst hp'
    exact ⟨hoD, I.hok.fresh hD, hDC, Dfs, hdD⟩
end
end L2
set_option Elab.async false
set_option linter.all false
set_option maxRecDepth 100000
namespace L2
open PySem PySem.Spec PyProof.Rows

theorem compLoop_go {prog : Program} {w : World} {A : Around} {R : Result → Shared → Prop} {s : Shared} {elt target iter : Expr} {ifs : List Expr} {scope : Scope} {pos : Pos} {it acc : Value} {env : Env} (I : Nat → Shared → Prop)
    (turn : ∀ n s, I n s → wpAny (model prog w) A (pyNext it) (fun r s₁ => match r with
      | none => R (.ok .next) s₁
      | some v => wpAny (model prog w) A (letOwnedTupleGo target it v) (fun _ s₁' => wpAny (model prog w) A (assign target env v) (fun _ s₂ =>
          wpAny (model prog w) A (forIn ifs true fun c r => if r = true then do let ok ← isTrue c env (eval c env); pure (ForInStep.yield ok) else pure (ForInStep.yield r)) (fun ok s₃ =>
            if ok = true then wpAny (model prog w) A (eval elt env) (fun x s₄ =>
              wpAny (model prog w) A (call (.builtin "list.append") [acc, x]) (fun _ s₅ => ∃ m, m < n ∧ I m s₅) (fun _ _ => False) s₄) (fun _ _ => False) s₃
            else ∃ m, m < n ∧ I m s₃) (fun _ _ => False) s₂) (fun _ _ => False) s₁') (fun _ _ => False) s₁) (fun _ _ => False) s)
    (n : Nat) (h : I n s) :
    codeAny (model prog w) A (.compLoop (.ListComp elt [⟨target, iter, ifs, 0⟩] scope pos) 0 it acc env) R s := by
  refine codeAny_loop rfl I (fun n s hI => ?_) n h
  show wpAny _ A ((compTurn (.ListComp elt [⟨target, iter, ifs, 0⟩] scope pos) 0 it acc env).onRaise (fun x => do noteFrame x env; theTreesLotGoes x)) _ _ s
  refine wpAny_noted ?_
  rw [compTurn_list]
  refine wpAny_bind (wpAny_standAt (wpAny_bind (wpAny_mono (turn n s hI) (fun r s₁ h₁ => ?_) fun _ _ h' => h'.elim)))
  cases r with
  | none => exact wpAny_pure h₁
  | some v =>
    refine wpAny_bind (wpAny_mono h₁ (fun _ s₁' h₁' => ?_) fun _ _ h' => h'.elim)
    refine wpAny_bind (wpAny_mono h₁' (fun _ s₂ h₂ => wpAny_bind (wpAny_mono h₂ (fun ok s₃ h₃ => ?_) fun _ _ h' => h'.elim)) fun _ _ h' => h'.elim)
    cases ok with
    | false => exact wpAny_pure ⟨rfl, h₃⟩
    | true =>
      exact wpAny_bind (wpAny_bind (wpAny_mono h₃ (fun x s₄ h₄ => wpAny_bind (wpAny_mono h₄ (fun _ s₅ h₅ => wpAny_pure (wpAny_pure ⟨rfl, h₅⟩)) fun _ _ h' => h'.elim)) fun _ _ h' => h'.elim))

def PF (X : Cx) (ifs : List Expr) (t : TT) : Prop :=
  ∀ (pins : List (Addr × Obj)) (s : Shared) (σ : St) (H : Hp) (Q : Bool → Hp → Prop), Inv X pins σ H s → t σ H Q →
    wpAny (model X.prog X.w) X.A (forIn ifs true fun c r => if r = true then do let ok ← isTrue c X.env (eval c X.env); pure (ForInStep.yield ok) else pure (ForInStep.yield r)) (TP X pins σ Q) X.xe s
def tAll : TT := fun _ H Q => Q true H
theorem pf_nil {X : Cx} : PF X [] tAll := fun _ _ _ H _ I h => wpAny_tests_nil ⟨H, I, h⟩
theorem pf_one {X : Cx} {c : Expr} {t : TT} (h : PT X c t) : PF X [c] t := fun pins s σ H Q I hq => wpAny_tests_one (h pins s σ H Q I hq)

def tComp (own : Nat) (fr : List Nat) (wi : TI) (g : TG) (tt : TT) (te : TE) : TE := fun σ H Q => wi σ H fun J H1 => ∃ W : Nat → Nat → List V → St → Hp → Prop, (∃ m, W 0 m [] (blk own fr σ) H1) ∧ ∀ i m ys σ' H, W i m ys σ' H →
  (J.stop i H ∧ ∀ p, H p = none → Q (.ref p) (upd H p (.lst ys))) ∨
  (J.go i H ∧ ∃ N : List V → St → Hp → Prop, (∀ ys' σ2 H2, N ys' σ2 H2 → ∃ m', m' < m ∧ W (i + 1) m' ys' σ2 H2) ∧
    ∀ x H', J.yld i H x H' → g x σ' H' fun σ2 H2 => tt σ2 H2 fun b H3 => if b = true then te σ2 H3 fun y H4 => ys.length < sizeLine ∧ N (ys ++ [y]) σ2 H4 else N ys σ2 H3)

section
variable {X : Cx} {scope : Scope} {own frn : List Str} {fr : List Nat} {elt tg iter : Expr} {ifs : List Expr} {pos : Pos} {wi : TI} {g : TG} {tt : TT} {te : TE}

theorem Inv.track {pins : List (Addr × Obj)} {σ : St} {H : Hp} {s : Shared} {D : Addr} {ys : List V} {its : Array Value} (I : Inv X pins σ H s) (hD : s.heap.PlainList D its) (hv : Vals ys its.toList) (hz : ys.length ≤ sizeLine) (hn : H D = none) (hL : D ≠ X.env.locals)
    (h1 : X.s₀.heap.objs.size ≤ D) (h2 : ∀ x c, X.env.cells.lookup x = some c → c ≠ D) (h3 : ∀ p ∈ X.pn ++ pins, p.1 ≠ D) : Inv X pins σ (upd H D (.lst ys)) s := by
  have ne : ∀ b u, H b = some u → b ≠ D := fun b u e z => by rw [z, hn] at e; cases e
  refine I.step (g' := s.gens) (d' := s.drawn) (t' := s.toks) (h' := s.heap) (ch := [D]) (fun b hb => ?_) (fun b o _ _ _ e _ => e) (fun b o _ _ _ e _ => ⟨o.slots, e⟩) (fun b o hc _ n => ?_) (fun b o _ e => ⟨o, e⟩)
    (fun b xs e => by rw [upd_ne (ne b _ e)]; exact e) (fun b o u e => by rw [upd_ne (ne b _ e)]; exact e) (fun b ps e => ⟨#[], by rw [upd_ne (ne b _ e), e]; simp⟩) (fun _ h => h) (fun b u e => ?_) I.bare
  · have e : b = D := by simpa using hb
    subst e
    exact ⟨.inr h1, hL, h2, h3⟩
  · rw [upd_ne (by simpa using hc)]; exact n
  · by_cases hb : b = D
    · subst hb
      rw [upd_same] at e; cases e
      obtain ⟨n, e⟩ := hD
      exact ⟨hz, its.toList, n, hv, by simpa using e⟩
    · rw [upd_ne hb] at e
      exact (I.hok b u e).stay (fun c v _ q => q) (fun c q => by rw [upd_ne (ne c _ q)]; exact q) fun c xs q => by rw [upd_ne (ne c _ q)]; exact q

theorem comp_block {pins : List (Addr × Obj)} {σ : St} {H2 : Hp} {s2 : Shared} {it : Addr} {fp : List Addr} {tn : Nat → Heap → Prop} {J : It} {RR : Value → Addr → Result → Shared → Prop} {E : Value → Shared → Prop} {Q : Hp → List V → Prop}
    (S : CompOk X scope own fr frn) (hc : X.calm = true) (I2 : Inv X pins σ H2 s2) (T : Turn X.prog X.w X.K tg J fp it tn) (st2 : tn 0 s2.heap) (f2 : ∀ b ∈ fp, FpOk X pins H2 b)
    (hg : ∀ C s0 H0 fp, PG (cxComp X scope (own ++ frn) C s0 H0 fp) tg g) (ht : ∀ C s0 H0 fp, PF (cxComp X scope (own ++ frn) C s0 H0 fp) ifs tt) (he : ∀ C s0 H0 fp, PE (cxComp X scope (own ++ frn) C s0 H0 fp) elt te)
    (w : ∃ W : Nat → Nat → List V → St → Hp → Prop, (∃ m, W 0 m [] (blk own.length fr σ) H2) ∧ ∀ i m ys σ' H, W i m ys σ' H →
      (J.stop i H ∧ Q H ys) ∨
      (J.go i H ∧ ∃ N : List V → St → Hp → Prop, (∀ ys' σ2 H2, N ys' σ2 H2 → ∃ m', m' < m ∧ W (i + 1) m' ys' σ2 H2) ∧
        ∀ x H', J.yld i H x H' → g x σ' H' fun σ2 H2 => tt σ2 H2 fun b H3 => if b = true then te σ2 H3 fun y H4 => ys.length < sizeLine ∧ N (ys ++ [y]) σ2 H4 else N ys σ2 H3))
    (hRR : ∀ (C D : Addr) (s' : Shared) (H' : Hp) (ys : List V) (its : Array Value) (m : Str → Option Value), s2.heap.objs.size ≤ C → s2.heap.objs.size ≤ D → D ≠ C → s'.heap.Ns C m → H' C = none → H' D = none → s'.heap.PlainList D its → Vals ys its.toList → ys.length ≤ sizeLine →
      Inv X pins σ H' s' → Q H' ys → RR (.ref D) C (.ok .next) s') :
    wpAny (model X.prog X.w) X.A (newList []) (fun acc s₃ => wpAny (model X.prog X.w) X.A (newFunctionEnv scope X.env.globals (clOf X.env scope.names []) [] X.env.qual none .none (some X.env)) (fun cenv s₄ =>
      codeAny (model X.prog X.w) X.A (.compStart (.ListComp elt [⟨tg, iter, ifs, 0⟩] scope pos) 0 (.ref it) acc { cenv with scope := relabel scope X.env }) (RR acc cenv.locals) s₄) E s₃) E s2 := by
  obtain ⟨p1, p2, p3, p4, p5, p6, p7⟩ := S.parts
  obtain ⟨W, ⟨m0, w0⟩, turn⟩ := w
  refine wpAny_newObj_type (wpAny_newFunctionEnv p2 (by intro y hy; simp at hy) (fun h₁ hns₁ hsb₁ => ?_) p1)
  dsimp only at hns₁ hsb₁ ⊢
  generalize hH2 : s2.heap.push { cls := .type "list", dict := none, data := .seq ([] : List Value).toArray } = HD at hns₁ hsb₁ ⊢
  have hCs : HD.objs.size = s2.heap.objs.size + 1 := by rw [← hH2, Heap.size_push]
  have hDC : s2.heap.objs.size ≠ HD.objs.size := by omega
  have hCle : s2.heap.objs.size ≤ HD.objs.size := by omega
  have below : ∀ b, b < s2.heap.objs.size → b ≠ HD.objs.size ∧ b ≠ s2.heap.objs.size := fun b hb => ⟨by omega, by omega⟩
  have old : ∀ b o, s2.heap.get? b = some o → h₁.get? b = some o := fun b o e => hsb₁.extBut b o (below b (Heap.lt_size e)).1 (Heap.get?_push_of_some _ (hH2 ▸ Heap.get?_push_of_some _ e))
  have hacc : h₁.get? s2.heap.objs.size = some { cls := .type "list", data := .seq ([] : List Value).toArray } := hsb₁.extBut _ _ hDC (Heap.get?_push_of_some _ (hH2 ▸ Heap.get?_push_size _ rfl))
  have flt : ∀ b ∈ fp, b < s2.heap.objs.size := fun b hb => by
    obtain ⟨o, e, _⟩ := T.obj _ _ st2 b hb
    exact Heap.lt_size e
  generalize hDg : s2.heap.objs.size = D at *
  generalize hCg : HD.objs.size = C at *
  have st3 : tn 0 h₁ := T.keep _ _ _ st2 fun b _ o e => old b o e
  -- facts of the block
  have clsub : ∀ x c, (clOf X.env scope.names []).lookup x = some c → X.env.cells.lookup x = some c := fun x c e => by
    rcases clOf_mem _ _ _ _ (lookup_memS e) with q | q
    · cases q
    · exact q
  have cD : ∀ x c, (clOf X.env scope.names []).lookup x = some c → c ≠ D := fun x c e z => by
    obtain ⟨v, q⟩ := I2.cell x c (clsub x c e)
    exact Nat.lt_irrefl _ (Nat.lt_of_lt_of_le q.lt (by rw [hDg, z]; exact Nat.le_refl _))
  have loop : ∀ s₃ : Shared, s₃ = { s2 with heap := h₁, toks := s2.toks + ([] : List (Str × Value)).length } →
      codeAny (model X.prog X.w) X.A (.compLoop (.ListComp elt [⟨tg, iter, ifs, 0⟩] scope pos) 0 (.ref it) (.ref D) (compEnvC scope (clOf X.env scope.names []) C X.env)) (RR (.ref D) C) s₃ := by
    rintro s₃ rfl
    have I3 : Inv (cxComp X scope (own ++ frn) C s2 H2 fp) [(D, _)] (blk own.length fr σ) H2 { s2 with heap := h₁, toks := s2.toks + ([] : List (Str × Value)).length } :=
      inv_comp (m := fun _ => none) I2 S f2 (by rw [hDg]; exact flt) (by rw [hDg]; exact hCle) (hns₁ : h₁.Ns C _) old (by rw [hDg]; exact Nat.le_refl _) hDC hacc (fun v z => by cases z)
    have stat : ∀ {H' : Hp} {pl : List (Addr × Obj)}, (∀ p ∈ pl, p.1 = D) → (∀ b ∈ fp, H' b = none) → ∀ b ∈ fp, FpOk (cxComp X scope (own ++ frn) C s2 H2 fp) pl H' b := fun {H' pl} hpl hn b hb => by
      refine ⟨hn b hb, (below b (flt b hb)).1, fun z => ?_, .inl hb, fun x c e => (f2 b hb).2.2.2.2.1 x c (clsub x c e), fun p hp => ?_⟩
      · have z' : b ∈ frs X.stack := z
        rcases List.mem_cons.mp (I2.stkSub b z') with e | e
        · exact (f2 b hb).2.1 e
        · exact (f2 b hb).2.2.1 e
      · have hp' : p ∈ pl := by simpa [cxComp] using hp
        rw [hpl p hp']
        exact Ne.symm (below b (flt b hb)).2
    refine compLoop_go (env := compEnvC scope (clOf X.env scope.names []) C X.env) (fun n s' => ∃ i σ' H' ys its o, Inv (cxComp X scope (own ++ frn) C s2 H2 fp) [(D, o)] σ' H' s' ∧ s'.heap.PlainList D its ∧ Vals ys its.toList ∧ ys.length ≤ sizeLine ∧ tn i s'.heap ∧ (∀ b ∈ fp, H' b = none) ∧ W i n ys σ' H') ?_ m0
      ⟨0, _, H2, [], #[], _, I3, ⟨_, hacc⟩, .nil, Nat.zero_le _, st3, fun b hb => (f2 b hb).1, w0⟩
    rintro n s5 ⟨i, σ5, H5, ys, its, o, I5, pl5, v5, z5, st5, fr5, w5⟩
    have one : ∀ {o : Obj}, ∀ p ∈ [(D, o)], p.1 = D := fun p hp => by
      have e := List.mem_singleton.mp hp
      rw [e]
    rcases turn i n ys σ5 H5 w5 with ⟨stop, qn⟩ | ⟨go, N, hN, step⟩
    · refine wpAny_mono (T.done (cxComp X scope (own ++ frn) C s2 H2 fp) rfl rfl rfl hc i _ s5 σ5 H5 (fun _ _ => False) I5 (stat one fr5) st5 stop) (fun r s6 hx9 => ?_) fun _ _ z => z
      obtain ⟨hr, I6⟩ := hx9
      subst hr
      obtain ⟨m6, hn6, _⟩ := I6.loc
      have p6 := I6.pin (D, o) (by simp [cxComp])
      have p5' := I5.pin (D, o) (by simp [cxComp])
      have pl6 : s6.heap.PlainList D its := by
        obtain ⟨k, e⟩ := pl5
        have e1 : o = _ := Option.some.inj (p5'.1.symm.trans e)
        exact ⟨k, by rw [p6.1]; exact congrArg some e1⟩
      have IX : Inv X pins σ H5 s6 := I2.call' (ch := fp) I6.os I6.base I6.hok I6.bare fun b hb => ⟨(f2 b hb).2.2.2.1, (f2 b hb).2.1, (f2 b hb).2.2.2.2.1, (f2 b hb).2.2.2.2.2⟩
      exact hRR C D s6 H5 ys its m6 hCle (Nat.le_refl _) hDC hn6 I6.free p6.2.1 pl6 v5 z5 IX qn
    · refine wpAny_mono (T.item (cxComp X scope (own ++ frn) C s2 H2 fp) rfl rfl rfl hc i _ s5 σ5 H5 (fun _ _ => False) I5 (stat one fr5) st5 go) (fun r s6 hx9 => ?_) fun _ _ z => z
      obtain ⟨u, hr, h6⟩ := hx9
      subst hr
      refine wpAny_mono h6 (fun _ s7 hx9 => ?_) fun _ _ z => z
      obtain ⟨x, H7, I7, r7, y7, st7, fr7⟩ := hx9
      have I7' := I7.pinned (stat one fr7) (T.obj _ _ st7)
      refine wpAny_mono (hg C s2 H2 fp _ s7 σ5 H7 x u _ I7' r7 (step x H7 y7)) (fun _ s8 hx9 => ?_) fun _ _ z => z
      obtain ⟨σ8, H8, I8, q8⟩ := hx9
      refine wpAny_mono (ht C s2 H2 fp _ s8 σ8 H8 _ I8 q8) (fun b s9 hx9 => ?_) fun _ _ z => z
      obtain ⟨H9, I9, q9⟩ := hx9
      -- what stands of the iterator and of the gathered list behind the tests, behind the item
      have keepT : ∀ {H' : Hp} {s' : Shared} {σ' : St}, Inv (cxComp X scope (own ++ frn) C s2 H2 fp) ([(D, o)] ++ pinsAt fp s7.heap) σ' H' s' → tn (i + 1) s'.heap ∧ (∀ b ∈ fp, H' b = none) ∧ s'.heap.PlainList D its ∧ H' D = none := fun {H' s' σ'} I' => by
        refine ⟨T.keep _ _ _ st7 fun b hb o e => (I'.pin (b, o) (List.mem_append_right _ (List.mem_append_right _ (mem_pinsAt hb e)))).1, fun b hb => ?_, ?_, ?_⟩
        · obtain ⟨o, e, d⟩ := T.obj _ _ st7 b hb
          exact (I'.pin (b, o) (List.mem_append_right _ (List.mem_append_right _ (mem_pinsAt hb e)))).2.1
        · have p' := I'.pin (D, o) (by simp [cxComp])
          have p5' := I5.pin (D, o) (by simp [cxComp])
          obtain ⟨k, e⟩ := pl5
          have e1 : o = _ := Option.some.inj (p5'.1.symm.trans e)
          exact ⟨k, by rw [p'.1]; exact congrArg some e1⟩
        · exact (I'.pin (D, o) (by simp [cxComp])).2.1
      cases b with
      | false =>
        rw [if_neg Bool.false_ne_true] at q9
        rw [if_neg Bool.false_ne_true]
        obtain ⟨m', hm, w'⟩ := hN ys σ8 H9 q9
        obtain ⟨t9, fr9, pl9, _⟩ := keepT I9
        exact ⟨m', hm, i + 1, σ8, H9, ys, its, o, I9.unpinned, pl9, v5, z5, t9, fr9, w'⟩
      | true =>
        rw [if_pos rfl] at q9
        rw [if_pos rfl]
        refine wpAny_mono (he C s2 H2 fp _ s9 σ8 H9 _ I9 q9) (fun y s10 hx9 => ?_) fun _ _ z => z
        obtain ⟨yv, H10, I10, r10, lt10, q10⟩ := hx9
        obtain ⟨t10, fr10, pl10, hD10⟩ := keepT I10
        have hl := v5.length
        refine wpAny_list_append_plain pl10 (fun h11 pl11 sb11 => ?_) (by rw [← Array.length_toList, ← hl]; exact Nat.le_of_lt lt10)
        obtain ⟨m', hm, w'⟩ := hN _ σ8 H10 q10
        have I10' : Inv (cxComp X scope (own ++ frn) C s2 H2 fp) [] σ8 H10 s10 := I10.pins_of fun p hp => by cases hp
        have I11 : Inv (cxComp X scope (own ++ frn) C s2 H2 fp) [] σ8 H10 { s10 with heap := h11 } :=
          I10'.turned (t' := s10.toks) (it := D) (fun b o hb e => (sb11.2 b hb).trans e) hD10 hDC (.inr (by show s2.heap.objs.size ≤ D; rw [hDg]; exact Nat.le_refl _)) cD (fun p hp => by simp [cxComp] at hp)
        obtain ⟨k11, e11⟩ := id pl11
        have DfsX : D ∉ frs X.stack := fun z => by
          rcases List.mem_cons.mp (I2.stkSub D z) with e | e
          · exact Nat.lt_irrefl _ (Nat.lt_of_lt_of_le I2.lt (by rw [hDg, e]; exact Nat.le_refl _))
          · exact I2.nofs (by rw [hDg]; exact Nat.le_refl _) e
        refine ⟨m', hm, i + 1, σ8, H10, ys ++ [yv], its.push y, { cls := .type "list", data := .seq (its.push y) k11 }, I11.pins_of fun p hp => ?_, pl11, ?_, by rw [List.length_append]; show ys.length + 1 ≤ _; omega, T.keep _ _ _ t10 fun b hb o e => (sb11.2 b (below b (flt b hb)).2).trans e, fr10, w'⟩
        · have e := List.mem_singleton.mp hp
          subst e
          exact ⟨e11, hD10, hDC, DfsX, fun v z => by cases z⟩
        · rw [Array.toList_push]
          exact v5.append (.cons r10 .nil)
  exact codeAny_compStart_list (loop _ rfl) (T.self X.A 0 _ _ _ st3 (loop _ rfl))

theorem CompOk.clo {pins : List (Addr × Obj)} {σ : St} {H : Hp} {s : Shared} (S : CompOk X scope own fr frn) (I : Inv X pins σ H s) : closureFor scope X.env = pure (clOf X.env scope.names []) := by
  obtain ⟨p1, p2, p3, p4, p5, p6, p7⟩ := S.parts
  exact clo_of fun y hy e => I.ok.has y.1 (p4 y hy e)

theorem pe_comp (S : CompOk X scope own fr frn) (hc : X.calm = true) (hi : PI X tg iter wi) (hg : ∀ C s0 H0 fp, PG (cxComp X scope (own ++ frn) C s0 H0 fp) tg g) (ht : ∀ C s0 H0 fp, PF (cxComp X scope (own ++ frn) C s0 H0 fp) ifs tt)
    (he : ∀ C s0 H0 fp, PE (cxComp X scope (own ++ frn) C s0 H0 fp) elt te) (hs : ∀ x, foldedSetIterable iter X.env x = pure x := by intro _; rfl) :
    PE X (.ListComp elt [⟨tg, iter, ifs, 0⟩] scope pos) (tComp own.length fr wi g tt te) := by
  intro pins s σ H Q I h
  obtain ⟨p1, p2, p3, p4, p5, p6, p7⟩ := S.parts
  rw [eval_ListComp]
  refine wpAny_comprehension_free (use := none) rfl hs (S.clo I) p1 p3 (thn (hi pins s σ H _ I h) fun v s1 h1 => thn h1 fun itv s2 h2 => ?_)
  obtain ⟨it, fp, tn, J, H2, e, I2, T, st2, f2, hw⟩ := h2
  subst e
  refine comp_block (RR := fun acc C => compPost (model X.prog X.w) X.A X.xe none (EP X pins σ Q) acc C) (Q := fun H ys => ∀ p, H p = none → Q (.ref p) (upd H p (.lst ys))) S hc I2 T st2 f2 hg ht he hw ?_
  intro C D s' H' ys its m hC hD hDC hns hHC hHD pl v z IX q
  have cne : ∀ a, s2.heap.objs.size ≤ a → ∀ x c, X.env.cells.lookup x = some c → c ≠ a := fun a ha x c e z => by
    obtain ⟨v, w⟩ := I2.cell x c e
    exact Nat.lt_irrefl _ (Nat.lt_of_lt_of_le w.lt (by rw [z]; exact ha))
  have pne : ∀ a, s2.heap.objs.size ≤ a → ∀ p ∈ X.pn ++ pins, p.1 ≠ a := fun a ha p hp z => Nat.lt_irrefl _ (Nat.lt_of_lt_of_le (Heap.lt_size (I2.pin p hp).1) (by rw [z]; exact ha))
  have lne : ∀ a, s2.heap.objs.size ≤ a → a ≠ X.env.locals := fun a ha z => Nat.lt_irrefl _ (Nat.lt_of_lt_of_le I2.lt (by rw [← z]; exact ha))
  refine ⟨m, hns, fun h' hs' => ⟨.ref D, upd H' D (.lst ys), ?_, rfl, q D hHD⟩⟩
  have IT : Inv X pins σ (upd H' D (.lst ys)) s' := IX.track pl v z hHD (lne D hD) (Nat.le_trans I2.sz hD) (cne D hD) (pne D hD)
  exact IT.turned (t' := s'.toks) (it := C) (fun b o hb e => (hs'.2 b hb).trans e) (by rw [upd_ne (Ne.symm hDC)]; exact hHC) (lne C hC) (.inr (Nat.le_trans I2.sz hC)) (cne C hC) (pne C hC)

theorem ps_setcomp {i : Nat} {y : Str} {py spos : Pos} (S : CompOk X scope own fr frn) (hc : X.calm = true) (hN : X.N.Nodup) (hyi : X.N[i]? = some y) (hx : X.env.scope.names.lookup y = some .local)
    (hsw : swapsWith (.ListComp elt [⟨tg, iter, ifs, 0⟩] scope pos) (some (.Name y py)) spos.line X.env = pure true)
    (hi : PI X tg iter wi) (hg : ∀ C s0 H0 fp, PG (cxComp X scope (own ++ frn) C s0 H0 fp) tg g) (ht : ∀ C s0 H0 fp, PF (cxComp X scope (own ++ frn) C s0 H0 fp) ifs tt)
    (he : ∀ C s0 H0 fp, PE (cxComp X scope (own ++ frn) C s0 H0 fp) elt te) (hs : ∀ x, foldedSetIterable iter X.env x = pure x := by intro _; rfl) :
    PS X (.Assign [.Name y py] (.ListComp elt [⟨tg, iter, ifs, 0⟩] scope pos) spos) (tAsg (tComp own.length fr wi g tt te) (gName i)) := by
  intro pins s σ H D I h
  obtain ⟨p1, p2, p3, p4, p5, p6, p7⟩ := S.parts
  rw [exec_Assign_Name_used _ _ _ _ hsw]
  refine wpAny_bind (wpAny_standAt (wpAny_bind ?_))
  show wpAny _ X.A (do let _ ← comprehension (.ListComp elt [⟨tg, iter, ifs, 0⟩] scope pos) scope X.env _ (newList []) false (eval iter X.env) (some (assign (.Name y py) X.env))) _ _ s
  refine wpAny_bind (wpAny_mono (wpAny_comprehension_free (use := some (assign (.Name y py) X.env)) (Q := fun _ s' => SP X pins D .next s') rfl hs (S.clo I) p1 p3 (thn (hi pins s σ H _ I h) fun v s1 h1 => thn h1 fun itv s2 h2 => ?_))
    (fun _ s' hq => wpAny_pure (wpAny_pure hq)) fun _ _ e => e)
  obtain ⟨it, fp, tn, J, H2, e, I2, T, st2, f2, hw⟩ := h2
  subst e
  refine comp_block (RR := fun acc C => compPost (model X.prog X.w) X.A X.xe (some (assign (.Name y py) X.env)) (fun _ s' => SP X pins D .next s') acc C) (Q := fun H ys => ∀ p, H p = none → D.nx (σ.set i (some (.ref p))) (upd H p (.lst ys))) S hc I2 T st2 f2 hg ht he hw ?_
  intro C L s' H' ys its m hC hL hLC hns hHC hHL pl v z IX q
  have cne : ∀ a, s2.heap.objs.size ≤ a → ∀ x c, X.env.cells.lookup x = some c → c ≠ a := fun a ha x c e z => by
    obtain ⟨v, w⟩ := I2.cell x c e
    exact Nat.lt_irrefl _ (Nat.lt_of_lt_of_le w.lt (by rw [z]; exact ha))
  have pne : ∀ a, s2.heap.objs.size ≤ a → ∀ p ∈ X.pn ++ pins, p.1 ≠ a := fun a ha p hp z => Nat.lt_irrefl _ (Nat.lt_of_lt_of_le (Heap.lt_size (I2.pin p hp).1) (by rw [z]; exact ha))
  have lne : ∀ a, s2.heap.objs.size ≤ a → a ≠ X.env.locals := fun a ha z => Nat.lt_irrefl _ (Nat.lt_of_lt_of_le I2.lt (by rw [← z]; exact ha))
  have IT : Inv X pins σ (upd H' L (.lst ys)) s' := IX.track pl v z hHL (lne L hL) (Nat.le_trans I2.sz hL) (cne L hL) (pne L hL)
  show wpAny _ _ (assign (.Name y py) X.env (.ref L)) _ _ s'
  refine wpAny_assign_Name (store_ok2 IT hN hyi (.inl hx) (v := .ref L) rfl (fun s'' I'' hch => ?_) (.inr hx))
  obtain ⟨a, sb, ha⟩ := hch
  have hCa : C ≠ a := by
    rcases ha with e | e
    · rw [e]; exact lne C hC
    · exact Ne.symm (cne C hC y a e)
  refine ⟨m, hns.sameBut sb hCa, fun h' hs' => ⟨σ.set i (some (.ref L)), upd H' L (.lst ys), ?_, q L hHL⟩⟩
  exact I''.turned (t' := s''.toks) (it := C) (fun b o hb e => (hs'.2 b hb).trans e) (by rw [upd_ne (Ne.symm hLC)]; exact hHC) (lne C hC) (.inr (Nat.le_trans I2.sz hC)) (cne C hC) (pne C hC)
end

end L2
set_option Elab.async false
set_option linter.all false
set_option maxRecDepth 100000
namespace L2
open PySem PySem.Spec PyProof.Rows

inductive Kd where
  | int | bl | non | str | tup | lst | dct
  deriving DecidableEq
def KdV (K : PySem.W.Frag) (H : Hp) : V → Kd → Prop
  | .int _, k => k = .int
  | .bl _, k => k = .bl
  | .non, k => k = .non
  | .str _, k => k = .str
  | .ref p, k => (k = .lst ∧ ∃ xs, SqL K H p xs) ∨ (k = .tup ∧ ∃ xs, SqT K H p xs) ∨ (k = .dct ∧ ∃ kvs, H p = some (.dK kvs))
  | _, _ => False
section
variable {X : Cx}
theorem dK_cls {pins : List (Addr × Obj)} {σ : St} {H : Hp} {s : Shared} {p : Addr} {kvs : List (Key × V)} (I : Inv X pins σ H s) (h : H p = some (.dK kvs)) : ∃ o, s.heap.get? p = some o ∧ o.cls = .type "dict" := by
  obtain ⟨_, _, vs, _, o, es, ep, e, ex, _⟩ := I.hok p _ h
  exact ⟨o, e, ex.1⟩
theorem call_isi_int : CallR X (.builtin "isinstance") (fun xs H Q => ∃ x k, xs = [x, .ty "int"] ∧ KdV X.K H x k ∧ Q (.bl (decide (k = .int ∨ k = .bl))) H) := by
  intro pins s σ H xs us Q I r h
  obtain ⟨x, k, rfl, hk, q⟩ := h
  obtain ⟨u, t, rfl, rx, rt⟩ := vals2 r
  cases rt
  cases x with
  | int i => cases hk; obtain ⟨t, rfl⟩ := rx; exact IsiPair.int_int ⟨.bl true, H, I, rfl, q⟩
  | bl b => cases hk; cases rx; exact IsiPair.bool_int ⟨.bl true, H, I, rfl, q⟩
  | non => cases hk; cases rx; exact IsiPair.NoneType_int ⟨.bl false, H, I.tok _, rfl, q⟩
  | str y => cases hk; obtain ⟨t, rfl⟩ := rx; exact IsiPair.str_int ⟨.bl false, H, I.tok _, rfl, q⟩
  | ref p =>
    cases rx
    rcases hk with ⟨rfl, xs, hx⟩ | ⟨rfl, xs, hx⟩ | ⟨rfl, kvs, hx⟩
    · obtain ⟨its, r', pl, hz⟩ := I.list hx; exact IsiPair.isList_int pl.isList (fun _ _ e => e) ⟨.bl false, H, I.tok _, rfl, q⟩
    · obtain ⟨its, r', pl, hz⟩ := I.tuple hx; exact IsiPair.isTuple_int pl (fun _ _ e => e) ⟨.bl false, H, I.tok _, rfl, q⟩
    · obtain ⟨o, e, c⟩ := dK_cls I hx; exact IsiPair.dict_int e c ⟨.bl false, H, I.tok _, rfl, q⟩
  | _ => exact hk.elim
theorem call_isi_bool : CallR X (.builtin "isinstance") (fun xs H Q => ∃ x k, xs = [x, .ty "bool"] ∧ KdV X.K H x k ∧ Q (.bl (decide (k = .bl))) H) := by
  intro pins s σ H xs us Q I r h
  obtain ⟨x, k, rfl, hk, q⟩ := h
  obtain ⟨u, t, rfl, rx, rt⟩ := vals2 r
  cases rt
  cases x with
  | int i => cases hk; obtain ⟨t, rfl⟩ := rx; exact IsiPair.int_bool ⟨.bl false, H, I.tok _, rfl, q⟩
  | bl b => cases hk; cases rx; exact IsiPair.bool_bool ⟨.bl true, H, I, rfl, q⟩
  | non => cases hk; cases rx; exact IsiPair.NoneType_bool ⟨.bl false, H, I.tok _, rfl, q⟩
  | str y => cases hk; obtain ⟨t, rfl⟩ := rx; exact IsiPair.str_bool ⟨.bl false, H, I.tok _, rfl, q⟩
  | ref p =>
    cases rx
    rcases hk with ⟨rfl, xs, hx⟩ | ⟨rfl, xs, hx⟩ | ⟨rfl, kvs, hx⟩
    · obtain ⟨its, r', pl, hz⟩ := I.list hx; exact IsiPair.isList_bool pl.isList (fun _ _ e => e) ⟨.bl false, H, I.tok _, rfl, q⟩
    · obtain ⟨its, r', pl, hz⟩ := I.tuple hx; exact IsiPair.isTuple_bool pl (fun _ _ e => e) ⟨.bl false, H, I.tok _, rfl, q⟩
    · obtain ⟨o, e, c⟩ := dK_cls I hx; exact IsiPair.dict_bool e c ⟨.bl false, H, I.tok _, rfl, q⟩
  | _ => exact hk.elim
theorem call_isi_tuple : CallR X (.builtin "isinstance") (fun xs H Q => ∃ x k, xs = [x, .ty "tuple"] ∧ KdV X.K H x k ∧ Q (.bl (decide (k = .tup))) H) := by
  intro pins s σ H xs us Q I r h
  obtain ⟨x, k, rfl, hk, q⟩ := h
  obtain ⟨u, t, rfl, rx, rt⟩ := vals2 r
  cases rt
  cases x with
  | int i => cases hk; obtain ⟨t, rfl⟩ := rx; exact IsiPair.int_tuple ⟨.bl false, H, I.tok _, rfl, q⟩
  | bl b => cases hk; cases rx; exact IsiPair.bool_tuple ⟨.bl false, H, I.tok _, rfl, q⟩
  | non => cases hk; cases rx; exact IsiPair.NoneType_tuple ⟨.bl false, H, I.tok _, rfl, q⟩
  | str y => cases hk; obtain ⟨t, rfl⟩ := rx; exact IsiPair.str_tuple ⟨.bl false, H, I.tok _, rfl, q⟩
  | ref p =>
    cases rx
    rcases hk with ⟨rfl, xs, hx⟩ | ⟨rfl, xs, hx⟩ | ⟨rfl, kvs, hx⟩
    · obtain ⟨its, r', pl, hz⟩ := I.list hx; exact IsiPair.isList_tuple pl.isList (fun _ _ e => e) ⟨.bl false, H, I.tok _, rfl, q⟩
    · obtain ⟨its, r', pl, hz⟩ := I.tuple hx; exact IsiPair.isTuple_tuple pl (fun _ _ e => e) ⟨.bl true, H, I, rfl, q⟩
    · obtain ⟨o, e, c⟩ := dK_cls I hx; exact IsiPair.dict_tuple e c ⟨.bl false, H, I.tok _, rfl, q⟩
  | _ => exact hk.elim
theorem call_isi_list : CallR X (.builtin "isinstance") (fun xs H Q => ∃ x k, xs = [x, .ty "list"] ∧ KdV X.K H x k ∧ Q (.bl (decide (k = .lst))) H) := by
  intro pins s σ H xs us Q I r h
  obtain ⟨x, k, rfl, hk, q⟩ := h
  obtain ⟨u, t, rfl, rx, rt⟩ := vals2 r
  cases rt
  cases x with
  | int i => cases hk; obtain ⟨t, rfl⟩ := rx; exact IsiPair.int_list ⟨.bl false, H, I.tok _, rfl, q⟩
  | bl b => cases hk; cases rx; exact IsiPair.bool_list ⟨.bl false, H, I.tok _, rfl, q⟩
  | non => cases hk; cases rx; exact IsiPair.NoneType_list ⟨.bl false, H, I.tok _, rfl, q⟩
  | str y => cases hk; obtain ⟨t, rfl⟩ := rx; exact IsiPair.str_list ⟨.bl false, H, I.tok _, rfl, q⟩
  | ref p =>
    cases rx
    rcases hk with ⟨rfl, xs, hx⟩ | ⟨rfl, xs, hx⟩ | ⟨rfl, kvs, hx⟩
    · obtain ⟨its, r', pl, hz⟩ := I.list hx; exact IsiPair.isList_list pl.isList (fun _ _ e => e) ⟨.bl true, H, I, rfl, q⟩
    · obtain ⟨its, r', pl, hz⟩ := I.tuple hx; exact IsiPair.isTuple_list pl (fun _ _ e => e) ⟨.bl false, H, I.tok _, rfl, q⟩
    · obtain ⟨o, e, c⟩ := dK_cls I hx; exact IsiPair.dict_list e c ⟨.bl false, H, I.tok _, rfl, q⟩
  | _ => exact hk.elim

theorem all_range (bs : List Bool) (tr : Nat → Bool) (h : ∀ i b, bs[i]? = some b → tr i = b) : (List.range bs.length).all tr = bs.all id := by
  rw [Bool.eq_iff_iff, List.all_eq_true, List.all_eq_true]
  constructor
  · intro q b hb
    obtain ⟨i, hi⟩ := List.getElem?_of_mem hb
    have := q i (List.mem_range.mpr (List.getElem?_eq_some_iff.mp hi).1)
    rw [h i b hi] at this
    exact this
  · intro q i hi
    have hi' := List.mem_range.mp hi
    have e : bs[i]? = some bs[i] := List.getElem?_eq_getElem hi'
    rw [h i _ e]
    exact q _ (List.getElem_mem hi')
theorem call_all (hc : X.calm = true) : CallR X (.builtin "all") (fun xs H Q => ∃ (p : Addr) (bs : List Bool), xs = [.ref p] ∧ SqL X.K H p (bs.map V.bl) ∧ Q (.bl (bs.all id)) H) := by
  intro pins s σ H xs us Q I r h
  obtain ⟨p, bs, rfl, hx, q⟩ := h
  obtain ⟨u, rfl, rx⟩ := vals1 r
  cases rx
  obtain ⟨its, rv, pl, hz⟩ := I.list hx
  have hl := rv.length
  rw [List.length_map] at hl
  have hlt : p < s.heap.objs.size := by obtain ⟨o, n, e, _⟩ := pl; exact Heap.lt_size e
  refine call_all_walk (wpAny_pyIter_list pl.isList ?_)
  refine ⟨s.heap.objs.size, _, _, _, _, _, fun i => (bs[i]?).getD false, rfl, Walks.list (A := X.A.in1) (I.ok.hd hc) s.heap.objs.size p (Nat.ne_of_lt hlt) its.toArray, ⟨⟨_, Heap.get?_push_size _ rfl, rfl, rfl⟩, pl.isList.push _⟩, ?_, fun h' tk hk => ?_⟩
  · intro i v s' Q' E' hP hQ'
    have hP' : its[i]? = some v := by simpa using hP
    have hi : i < bs.length := by rw [hl]; exact (List.getElem?_eq_some_iff.mp hP').1
    obtain ⟨w, hw, rw'⟩ := rv.get (i := i) (x := .bl bs[i]) (by rw [List.getElem?_map, List.getElem?_eq_getElem hi]; rfl)
    rw [hw] at hP'
    cases hP'
    cases rw'
    have e : (bs[i]?).getD false = bs[i] := by rw [List.getElem?_eq_getElem hi]; rfl
    rw [← e]
    exact wpAny_truthy_bool hQ'
  · have e : (List.range its.toArray.size).all (fun i => (bs[i]?).getD false) = bs.all id := by
      rw [List.size_toArray, ← hl]
      exact all_range bs _ fun i b hb => by rw [hb]; rfl
    rw [e]
    refine ⟨.bl _, H, I.kept (h' := h') fun b o e => hk b o ?_ (Heap.get?_push_of_some _ e), rfl, q⟩
    intro z
    have z' : b = s.heap.objs.size := by simpa using z
    exact Nat.lt_irrefl _ (z' ▸ Heap.lt_size e)
end
end L2
set_option Elab.async false
set_option linter.all false
set_option maxRecDepth 100000
namespace L2
open PySem PySem.Spec PyProof.Rows

mutual
def Den (K : PySem.W.Frag) (H : Hp) : PyData → V → Prop
  | .none, v => v = .non
  | .bool b, v => v = .bl b
  | .int i, v => v = .int i
  | .str x, v => v = .str x
  | .list ds, v => ∃ a xs, v = .ref a ∧ SqL K H a xs ∧ DenAll K H ds xs
  | .tuple ds, v => ∃ a xs, v = .ref a ∧ SqT K H a xs ∧ DenAll K H ds xs
  | .dict kvs, v => kvs = [] ∧ ∃ a, v = .ref a ∧ H a = some (.dK [])
def DenAll (K : PySem.W.Frag) (H : Hp) : List PyData → List V → Prop
  | [], xs => xs = []
  | d :: ds, xs => ∃ x r, xs = x :: r ∧ Den K H d x ∧ DenAll K H ds r
end
theorem Same.rd {H H' : Hp} {a : Addr} {u : HO} (e : Same H H') (h : Rd H a u) : Rd H' a u := by
  rcases h with h | ⟨o, h⟩
  · exact .inl (e a u h)
  · exact .inr ⟨o, e a _ h⟩
theorem Same.seqL {K : PySem.W.Frag} {H H' : Hp} {a : Addr} {xs : List V} (e : Same H H') (h : SqL K H a xs) : SqL K H' a xs := by
  rcases h with h | h
  · exact .inl (e.rd h)
  · exact .inr h
theorem Same.seqT {K : PySem.W.Frag} {H H' : Hp} {a : Addr} {xs : List V} (e : Same H H') (h : SqT K H a xs) : SqT K H' a xs := by
  rcases h with h | h
  · exact .inl (e.rd h)
  · exact .inr h
theorem Same.new {H : Hp} {p : Addr} {o : HO} (h : H p = none) : Same H (upd H p o) := fun b u e => by rw [upd_ne (ne_of_none e h)]; exact e
mutual
theorem Same.den {K : PySem.W.Frag} {H H' : Hp} (e : Same H H') : ∀ (d : PyData) (v : V), Den K H d v → Den K H' d v
  | .none, v, h => by unfold Den at h ⊢; exact h
  | .bool b, v, h => by unfold Den at h ⊢; exact h
  | .int i, v, h => by unfold Den at h ⊢; exact h
  | .str x, v, h => by unfold Den at h ⊢; exact h
  | .list ds, v, h => by unfold Den at h ⊢; obtain ⟨a, xs, h1, h2, h3⟩ := h; exact ⟨a, xs, h1, e.seqL h2, Same.denAll e ds xs h3⟩
  | .tuple ds, v, h => by unfold Den at h ⊢; obtain ⟨a, xs, h1, h2, h3⟩ := h; exact ⟨a, xs, h1, e.seqT h2, Same.denAll e ds xs h3⟩
  | .dict kvs, v, h => by unfold Den at h ⊢; obtain ⟨h1, a, h2, h3⟩ := h; exact ⟨h1, a, h2, e a _ h3⟩
theorem Same.denAll {K : PySem.W.Frag} {H H' : Hp} (e : Same H H') : ∀ (ds : List PyData) (xs : List V), DenAll K H ds xs → DenAll K H' ds xs
  | [], xs, h => by unfold DenAll at h ⊢; exact h
  | d :: ds, xs, h => by unfold DenAll at h ⊢; obtain ⟨x, r, h1, h2, h3⟩ := h; exact ⟨x, r, h1, Same.den e d x h2, Same.denAll e ds r h3⟩
end
section
variable {K : PySem.W.Frag} {H : Hp}
theorem den_int {i : Int} {v : V} : Den K H (.int i) v ↔ v = .int i := by unfold Den; exact Iff.rfl
theorem den_bool {b : Bool} {v : V} : Den K H (.bool b) v ↔ v = .bl b := by unfold Den; exact Iff.rfl
theorem den_none {v : V} : Den K H .none v ↔ v = .non := by unfold Den; exact Iff.rfl
theorem den_str {x : Str} {v : V} : Den K H (.str x) v ↔ v = .str x := by unfold Den; exact Iff.rfl
theorem den_list {ds : List PyData} {v : V} : Den K H (.list ds) v ↔ ∃ a xs, v = .ref a ∧ SqL K H a xs ∧ DenAll K H ds xs := by
  constructor
  · intro h; unfold Den at h; exact h
  · intro h; unfold Den; exact h
theorem den_tuple {ds : List PyData} {v : V} : Den K H (.tuple ds) v ↔ ∃ a xs, v = .ref a ∧ SqT K H a xs ∧ DenAll K H ds xs := by
  constructor
  · intro h; unfold Den at h; exact h
  · intro h; unfold Den; exact h
theorem den_dict {kvs : List (PyData × PyData)} {v : V} : Den K H (.dict kvs) v ↔ kvs = [] ∧ ∃ a, v = .ref a ∧ H a = some (.dK []) := by
  constructor
  · intro h; unfold Den at h; exact h
  · intro h; unfold Den; exact h
theorem denAll_nil {xs : List V} : DenAll K H [] xs ↔ xs = [] := by unfold DenAll; exact Iff.rfl
theorem denAll_cons {d : PyData} {ds : List PyData} {xs : List V} : DenAll K H (d :: ds) xs ↔ ∃ x r, xs = x :: r ∧ Den K H d x ∧ DenAll K H ds r := by
  constructor
  · intro h; unfold DenAll at h; exact h
  · intro h; unfold DenAll; exact h
theorem denAll_length : ∀ {ds : List PyData} {xs : List V}, DenAll K H ds xs → xs.length = ds.length
  | [], xs, h => by rw [denAll_nil.mp h]; rfl
  | d :: ds, xs, h => by
    obtain ⟨x, r, rfl, _, h3⟩ := denAll_cons.mp h
    rw [List.length_cons, List.length_cons, denAll_length h3]
theorem denAll_get : ∀ {ds : List PyData} {xs : List V} {i : Nat} {d : PyData}, DenAll K H ds xs → ds[i]? = some d → ∃ x, xs[i]? = some x ∧ Den K H d x
  | [], _, _, _, _, e => by simp at e
  | d :: ds, xs, 0, d', h, e => by
    obtain ⟨x, r, rfl, h2, _⟩ := denAll_cons.mp h
    simp at e; subst e
    exact ⟨x, rfl, h2⟩
  | d :: ds, xs, i + 1, d', h, e => by
    obtain ⟨x, r, rfl, _, h3⟩ := denAll_cons.mp h
    obtain ⟨y, h4, h5⟩ := denAll_get (i := i) (d := d') h3 (by simpa using e)
    exact ⟨y, by simpa using h4, h5⟩
theorem denAll_at {ds : List PyData} {xs : List V} {i : Nat} {x : V} (h : DenAll K H ds xs) (e : xs[i]? = some x) : ∃ d, ds[i]? = some d ∧ Den K H d x := by
  have hl := denAll_length h
  have hi : i < ds.length := by rw [← hl]; exact (List.getElem?_eq_some_iff.mp e).1
  obtain ⟨y, h1, h2⟩ := denAll_get h (List.getElem?_eq_getElem hi)
  rw [e] at h1; cases h1
  exact ⟨_, List.getElem?_eq_getElem hi, h2⟩
theorem denAll_append : ∀ {ds es : List PyData} {xs ys : List V}, DenAll K H ds xs → DenAll K H es ys → DenAll K H (ds ++ es) (xs ++ ys)
  | [], es, xs, ys, h, h' => by rw [denAll_nil.mp h]; exact h'
  | d :: ds, es, xs, ys, h, h' => by
    obtain ⟨x, r, rfl, h2, h3⟩ := denAll_cons.mp h
    exact denAll_cons.mpr ⟨x, r ++ ys, rfl, h2, denAll_append h3 h'⟩
theorem denAll_take : ∀ {ds : List PyData} {xs : List V} (n : Nat), DenAll K H ds xs → DenAll K H (ds.take n) (xs.take n)
  | _, _, 0, _ => by rw [List.take_zero, List.take_zero]; exact denAll_nil.mpr rfl
  | [], xs, n + 1, h => by rw [denAll_nil.mp h]; exact denAll_nil.mpr rfl
  | d :: ds, xs, n + 1, h => by
    obtain ⟨x, r, rfl, h2, h3⟩ := denAll_cons.mp h
    exact denAll_cons.mpr ⟨x, r.take n, rfl, h2, denAll_take n h3⟩
theorem denAll_drop : ∀ {ds : List PyData} {xs : List V} (n : Nat), DenAll K H ds xs → DenAll K H (ds.drop n) (xs.drop n)
  | _, _, 0, h => h
  | [], xs, n + 1, h => by rw [denAll_nil.mp h]; exact denAll_nil.mpr rfl
  | d :: ds, xs, n + 1, h => by
    obtain ⟨x, r, rfl, h2, h3⟩ := denAll_cons.mp h
    exact denAll_drop n h3
theorem denAll_ints : ∀ {ns : List Int} {xs : List V}, DenAll K H (ns.map PyData.int) xs ↔ xs = ns.map V.int
  | [], xs => denAll_nil
  | n :: ns, xs => by
    rw [List.map_cons, denAll_cons]
    constructor
    · rintro ⟨x, r, rfl, h2, h3⟩
      rw [den_int.mp h2, denAll_ints.mp h3]
      rfl
    · intro e
      exact ⟨_, _, e, den_int.mpr rfl, denAll_ints.mpr rfl⟩
theorem den_tints {ns : List Int} {v : V} : Den K H (.tuple (ns.map .int)) v ↔ ∃ a, v = .ref a ∧ SqT K H a (ns.map V.int) := by
  rw [den_tuple]
  constructor
  · rintro ⟨a, xs, rfl, h1, h2⟩
    rw [denAll_ints.mp h2] at h1
    exact ⟨a, rfl, h1⟩
  · rintro ⟨a, rfl, h⟩
    exact ⟨a, _, rfl, h, denAll_ints.mpr rfl⟩
theorem den_lints {ns : List Int} {v : V} : Den K H (.list (ns.map .int)) v ↔ ∃ a, v = .ref a ∧ SqL K H a (ns.map V.int) := by
  rw [den_list]
  constructor
  · rintro ⟨a, xs, rfl, h1, h2⟩
    rw [denAll_ints.mp h2] at h1
    exact ⟨a, rfl, h1⟩
  · rintro ⟨a, rfl, h⟩
    exact ⟨a, _, rfl, h, denAll_ints.mpr rfl⟩
def kdOf : PyData → Kd
  | .none => .non | .bool _ => .bl | .int _ => .int | .str _ => .str | .list _ => .lst | .tuple _ => .tup | .dict _ => .dct
theorem Den.kd {d : PyData} {v : V} (h : Den K H d v) : KdV K H v (kdOf d) := by
  cases d with
  | none => rw [den_none.mp h]; rfl
  | bool b => rw [den_bool.mp h]; rfl
  | int i => rw [den_int.mp h]; rfl
  | str x => rw [den_str.mp h]; rfl
  | list ds => obtain ⟨a, xs, rfl, h1, _⟩ := den_list.mp h; exact .inl ⟨rfl, xs, h1⟩
  | tuple ds => obtain ⟨a, xs, rfl, h1, _⟩ := den_tuple.mp h; exact .inr (.inl ⟨rfl, xs, h1⟩)
  | dict kvs => obtain ⟨_, a, rfl, h1⟩ := den_dict.mp h; exact .inr (.inr ⟨rfl, [], h1⟩)
end

section
variable {X : Cx} {pins : List (Addr × Obj)} {σ : St} {H : Hp} {s : Shared}
mutual
def noDict : PyData → Bool
  | .dict _ => false
  | .list ds => noDicts ds
  | .tuple ds => noDicts ds
  | _ => true
def noDicts : List PyData → Bool
  | [] => true
  | d :: ds => noDict d && noDicts ds
end
mutual
theorem Den.reads (I : Inv X pins σ H s) : ∀ (d : PyData) (v : V) (u : Value), noDict d = true → Den X.K H d v → RelV v u → ∃ as, Reads s.heap u d as
  | .none, v, u, _, h, r => by rw [den_none.mp h] at r; cases r; exact ⟨_, .none⟩
  | .bool b, v, u, _, h, r => by rw [den_bool.mp h] at r; cases r; exact ⟨_, .bool b⟩
  | .int i, v, u, _, h, r => by rw [den_int.mp h] at r; obtain ⟨t, rfl⟩ := r; exact ⟨_, .int i t⟩
  | .str x, v, u, _, h, r => by rw [den_str.mp h] at r; obtain ⟨t, rfl⟩ := r; exact ⟨_, .str x t⟩
  | .list ds, v, u, hn, h, r => by
    obtain ⟨a, xs, rfl, h1, h2⟩ := den_list.mp h
    cases r
    obtain ⟨its, rv, ⟨o, n, e, c, _, d⟩, _⟩ := I.list h1
    obtain ⟨as, ra⟩ := DenAll.reads I ds xs its (by unfold noDict at hn; exact hn) h2 rv
    exact ⟨_, .list e c d (by simpa using ra)⟩
  | .tuple ds, v, u, hn, h, r => by
    obtain ⟨a, xs, rfl, h1, h2⟩ := den_tuple.mp h
    cases r
    obtain ⟨its, rv, ⟨o, e, c, n, d⟩, _⟩ := I.tuple h1
    obtain ⟨as, ra⟩ := DenAll.reads I ds xs its (by unfold noDict at hn; exact hn) h2 rv
    exact ⟨_, .tuple e c d (by simpa using ra)⟩
  | .dict kvs, v, u, hn, _, _ => by unfold noDict at hn; cases hn
theorem DenAll.reads (I : Inv X pins σ H s) : ∀ (ds : List PyData) (xs : List V) (us : List Value), noDicts ds = true → DenAll X.K H ds xs → Vals xs us → ∃ as, ReadsAll s.heap us ds as
  | [], xs, us, _, h, r => by rw [denAll_nil.mp h] at r; cases r; exact ⟨_, .nil⟩
  | d :: ds, xs, us, hn, h, r => by
    obtain ⟨x, rr, rfl, h2, h3⟩ := denAll_cons.mp h
    unfold noDicts at hn
    rw [Bool.and_eq_true] at hn
    cases r with
    | cons r1 r2 =>
      obtain ⟨as, ra⟩ := Den.reads I d x _ hn.1 h2 r1
      obtain ⟨bs, rb⟩ := DenAll.reads I ds rr _ hn.2 h3 r2
      exact ⟨_, .cons ra rb⟩
end
theorem call_repr (hg : X.A.guards = some []) (hu : X.A.units + 64 < cLine) : CallR X (.builtin "repr") (fun xs H Q => ∃ d a, xs = [.ref a] ∧ Den X.K H d (.ref a) ∧ noDict d = true ∧ d.hasDict = false ∧ d.showable = true ∧ d.depth ≤ 60 ∧ d.shown.length ≤ sizeLine ∧ Q (.str d.shown) H) := by
  intro pins s σ H xs us Q I r h
  obtain ⟨d, a, rfl, hd, h1, h2, h3, h4, h5, q⟩ := h
  obtain ⟨u, rfl, rx⟩ := vals1 r
  obtain ⟨as, rd⟩ := Den.reads I d _ _ h1 hd rx
  cases rx
  exact repr_of_reads' rd h3 (fun z => by rw [h2] at z; cases z) hg (by omega) (fun _ _ e => e) (fun h' u tk kp => ⟨.str d.shown, H, I.kept kp, ⟨_, rfl⟩, q⟩) h5
theorem op_eqD (hu : X.A.units + 64 < cLine) : OpR X (compareOp .Eq) (fun x y H Q => ∃ d e, Den X.K H d x ∧ Den X.K H e y ∧ noDict d = true ∧ noDict e = true ∧ SeqAt.shaped d = true ∧ SeqAt.shaped e = true ∧ Q (.bl (PyData.eqv d e)) H) := by
  intro pins s σ H x y v u Q I rx ry h
  obtain ⟨d, e, hd, he, n1, n2, s1, s2, q⟩ := h
  obtain ⟨as, ra⟩ := Den.reads I d x v n1 hd rx
  obtain ⟨bs, rb⟩ := Den.reads I e y u n2 he ry
  exact eq_dataH ra rb s1 s2 hu ⟨.bl _, H, I, rfl, q⟩
theorem op_neD (hu : X.A.units + 64 < cLine) : OpR X (compareOp .NotEq) (fun x y H Q => ∃ d e, Den X.K H d x ∧ Den X.K H e y ∧ noDict d = true ∧ noDict e = true ∧ SeqAt.shaped d = true ∧ SeqAt.shaped e = true ∧ Q (.bl (!PyData.eqv d e)) H) := by
  intro pins s σ H x y v u Q I rx ry h
  obtain ⟨d, e, hd, he, n1, n2, s1, s2, q⟩ := h
  obtain ⟨as, ra⟩ := Den.reads I d x v n1 hd rx
  obtain ⟨bs, rb⟩ := Den.reads I e y u n2 he ry
  exact ne_dataH ra rb s1 s2 hu ⟨.bl _, H, I, rfl, q⟩
theorem mt_countT : MtR X "tuple.count" (fun x vs H Q => ∃ (a : Addr) (ns : List Int) (n : Int), x = .ref a ∧ vs = [.int n] ∧ SqT X.K H a (ns.map V.int) ∧ Q (.int (ns.count n : Nat)) H) := by
  intro pins s σ H x v vs us Q I rx r h
  obtain ⟨a, ns, n, rfl, rfl, ha, q⟩ := h
  obtain ⟨u, rfl, t, rfl⟩ := vals1 r
  cases rx
  obtain ⟨its, rv, ⟨⟨cls, dd, data, sl⟩, ho, hc, k, hd⟩, hzz⟩ := I.tuple ha
  simp only at hc hd
  subst hc hd
  have hi : IntsAre its ns := intsAre_of rv
  refine call_meets PySem.F.slot_tuple_count ⟨_, ho, rfl⟩ PySem.F.entry_tuple_count (PySem.F.args_tuple_count_2 _ _) (SeqAt.tuple_countAt a its.toArray k dd sl (.int n t) (isInt n)) ⟨ho, fun y hy => (eq_isInt n t hi y (by simpa using hy)).at _ _, ?_⟩
  have e : (its.toArray.toList.countP (isInt n)) = ns.count n := by
    simp only [List.toList_toArray]
    clear q r ha rv ho hzz
    induction hi with
    | nil => rfl
    | cons m t' _ ih => 
      rw [List.countP_cons, List.count_cons, ih]
      rfl
  rw [e]
  exact ⟨.int _, H, I.tok _, ⟨_, rfl⟩, q⟩
end
end L2
set_option Elab.async false
set_option linter.all false
set_option maxRecDepth 100000
namespace L2
open PySem PySem.Spec PyProof.Rows

section
variable {prog : Program} {w : World} {A : Around} {E : Value → Shared → Prop} {s : Shared}
theorem collect_by {x : Value} {Q : List Value → Shared → Prop}
    (h : ∀ R : Result → Shared → Prop, (∀ (s' : Shared) (acc : Array Value) (c : Nat), s'.heap.get? s.heap.objs.size = some { cls := .type "list", data := .seq acc c } → Q acc.toList s' → R (.ok (.ret (.ref s.heap.objs.size))) s') →
      wpAny (model prog w) A.in1 (Builtin.List.listExtendWith (.ref s.heap.objs.size) x (.ref s.heap.objs.size))
        (fun fin s' => match fin with | .done f => R (.ok f) s' | .again c' => c'.quiet = true ∧ codeAny (model prog w) A c' R s') (fun e s' => R (.error e) s') { s with heap := s.heap.push { cls := .type "list", data := .seq ([] : List Value).toArray } }) :
    wpAny (model prog w) A (collect x) Q E s := by
  unfold collect
  refine wpAny_bind (wpAny_runValue (codeAny_builtin PySem.F.entry_proto_collect ?_))
  rw [Around.under_plainId PySem.F.plain_proto_collect _]
  show wpAny _ A.in1 (newList [] >>= fun l => again (.builtin "list.__iadd__" ⟨[l, x], []⟩)) _ _ s
  refine wpAny_bind (wpAny_newObj_type ?_)
  refine wpAny_pure ⟨plainId_quiet PySem.F.plain_list_iadd _, codeAny_builtin PySem.F.entry_list_iadd ?_⟩
  rw [Around.under_plainId PySem.F.plain_list_iadd _]
  show wpAny _ A.in1 (Builtin.List.listExtendWith (.ref s.heap.objs.size) x (.ref s.heap.objs.size)) _ _ _
  have fin' : ∀ (s' : Shared) (acc : Array Value) (c : Nat), s'.heap.get? s.heap.objs.size = some { cls := .type "list", data := .seq acc c } → Q acc.toList s' → wpAny (model prog w) A (match Value.ref s.heap.objs.size with
      | Value.ref a => do
        match (← load a).data with
          | Data.seq xs _ => pure xs.toList
          | _ => unsupported "internal:collect"
      | _ => unsupported "internal:collect") Q E s' := by
    intro s' acc c e q
    show wpAny _ A (load s.heap.objs.size >>= _) _ _ _
    exact wpAny_bind (wpAny_load e (wpAny_pure q))
  refine wpAny_mono (h (fun r s' => r = .ok (.ret (.ref s.heap.objs.size)) ∧ ∃ acc c, s'.heap.get? s.heap.objs.size = some { cls := .type "list", data := .seq acc c } ∧ Q acc.toList s') (fun s' acc c e q => ⟨rfl, acc, c, e, q⟩)) (fun fin s' h => ?_) (fun e s' h => ?_)
  · cases fin with
    | done f =>
      obtain ⟨e, acc, c, e2, q⟩ := h
      cases e
      exact fin' s' acc c e2 q
    | again c' => exact ⟨h.1, codeAny_mono h.2 fun r s'' hr => by obtain ⟨rfl, acc, c, e2, q⟩ := hr; exact fin' s'' acc c e2 q⟩
  · exact absurd h.1 (by simp)

theorem collect_range {r : Addr} {a b : Int} {t u v : Tok} {n : Nat} {Q : List Value → Shared → Prop} (hh : A.handled = none) (hr : IsRange s.heap r a b 1 t u v) (hsmall : Builtin.Range.small a b 1 = true)
    (hn : Builtin.Range.rangeSize a b 1 = n) (hlen : n ≤ 2 ^ 24)
    (h : ∀ h' tk vs, (∀ b o, s.heap.get? b = some o → h'.get? b = some o) → IntsAre vs ((List.range n).map fun (i : Nat) => a + (i : Int)) → Q vs { s with heap := h', toks := tk }) : wpAny (model prog w) A (collect (.ref r)) Q E s := by
  refine collect_by fun R hR => ?_
  have hr' : IsRange (s.heap.push { cls := .type "list", data := .seq ([] : List Value).toArray }) r a b 1 t u v := Heap.get?_push_of_some _ hr
  refine wpAny_extend_range (s := { s with heap := s.heap.push { cls := .type "list", data := .seq ([] : List Value).toArray } }) hh hr' hsmall hn hlen s.heap.objs.size (.ref s.heap.objs.size) 0 (Heap.get?_push_size _ rfl) fun h' tk acc' c' kp e it => ?_
  refine hR { s with heap := h', toks := tk } acc' c' e (h h' tk acc'.toList (fun b o q => kp b o (Nat.ne_of_lt (Heap.lt_size q)) (Heap.get?_push_of_some _ q)) ?_)
  obtain ⟨hs, hi⟩ := it
  -- the items one by one
  have key : ∀ (k : Nat) (l : List Value) (m : Nat), l.length = k → (∀ (j : Nat) (v : Value), l[j]? = some v → ∃ t, v = Value.int (a + ((m + j : Nat) : Int)) t) → IntsAre l ((List.range' m k).map fun (i : Nat) => a + (i : Int)) := by
    intro k
    induction k with
    | zero => intro l m hl _; rw [List.length_eq_zero_iff.mp hl]; exact .nil
    | succ k ih =>
      intro l m hl hv
      cases l with
      | nil => simp at hl
      | cons v l =>
        obtain ⟨t, e⟩ := hv 0 v rfl
        rw [List.range'_succ, List.map_cons, e]
        exact .cons _ t (ih l (m + 1) (by simpa using hl) fun j v' hj => by
          obtain ⟨t', e'⟩ := hv (j + 1) v' (by simpa using hj)
          exact ⟨t', by rw [e', show m + (j + 1) = m + 1 + j by omega]⟩)
  have := key n acc'.toList 0 (by rw [Array.length_toList, hs]) fun j v hj => by
    obtain ⟨t, e⟩ := hi j v (by simpa using hj)
    exact ⟨t, by rw [e]; first | (congr 1; done) | (congr 1; omega)⟩
  rwa [← List.range_eq_range'] at this

theorem sorted_of {x : Value} {ns : List Int} {Q : Value → Shared → Prop} (h64 : ns.length < 64)
    (hc : ∀ Q' : List Value → Shared → Prop, (∀ h' tk vs, (∀ b o, s.heap.get? b = some o → h'.get? b = some o) → IntsAre vs ns → Q' vs { s with heap := h', toks := tk }) → wpAny (model prog w) A.in1 (collect x) Q' E s)
    (h : ∀ (h1 h' : Heap) tk out ns', (∀ b o, s.heap.get? b = some o → h1.get? b = some o) → (∀ b o, h1.get? b = some o → h'.get? b = some o) → h'.PlainList h1.objs.size out → IntsAre out.toList ns' → ns'.Perm ns → ns'.Pairwise (· ≤ ·) → Q (.ref h1.objs.size) { s with heap := h', toks := tk }) :
    wpAny (model prog w) A (call (.builtin "sorted") [x]) Q E s := by
  refine Calls.call_function_entry kind_sorted plain_sorted entry_sorted (args_sorted1 _) ?_
  unfold Builtin.«sorted»
  refine wpAny_bind (m := checkCount "sorted" 1 1 _) (wpAny_pure ?_)
  refine wpAny_bind (hc _ fun h1 tk vs kp hi => ?_)
  have hlen := hi.length
  refine wpAny_bind (wpAny_newList ?_ (by rw [sizeLine_eq]; omega))
  have hoL : (h1.push (seqObj "list" vs.toArray 0)).get? h1.objs.size = some (seqObj "list" vs.toArray 0) := Heap.get?_push_size _ rfl
  refine wpAny_bind (wpAny_holding (wpAny_call_entry slot_list_sort ⟨_, hoL, rfl⟩ entry_list_sort (list_sort_tree hoL hi (by omega) fun out ns' a1 a2 a3 => ⟨_, rfl, ?_⟩) (args_list_sort _)))
  refine wpAny_pure ⟨_, rfl, ?_⟩
  obtain ⟨e, he⟩ := sortedHeap_at (out := out) hoL
  refine h h1 _ tk out ns' kp (fun b o q => ?_) ⟨e, he⟩ a1 a2 a3
  rw [sortedHeap_old (Nat.ne_of_lt (Heap.lt_size q)) (by rw [size_push']; exact Nat.lt_succ_of_lt (Heap.lt_size q))]
  exact Heap.get?_push_of_some _ q
end

theorem meets_tuple_new_range (r : Addr) (a b : Int) (t u v : Tok) (n : Nat) (hsmall : Builtin.Range.small a b 1 = true) (hn : Builtin.Range.rangeSize a b 1 = n) (hlen : n ≤ 2 ^ 24) :
    Meets (Builtin.«tuple.__new__» ⟨[.type "tuple", .ref r], []⟩)
      (fun A R s => A.handled = none ∧ IsRange s.heap r a b 1 t u v ∧ ∀ (h' : Heap) tk (vs : List Value), (∀ b o', s.heap.get? b = some o' → h'.get? b = some o') → IntsAre vs ((List.range n).map fun (i : Nat) => a + (i : Int)) →
        R (.ok (.ret (.ref h'.objs.size))) { s with heap := h'.push { cls := .type "tuple", data := .seq vs.toArray }, toks := tk }) :=
  .of_wp fun prog w A R s h => by
    obtain ⟨hp, g, d, tk, os⟩ := s; obtain ⟨hh, ht, h⟩ := h
    have hsub := sub_tuple_self
    have hinit := init_tuple_lookup
    have hmh := madeHere_tuple
    have hT : Shared.TypeIs ⟨hp, g, d, tk, os⟩ (.ref r) "range" := ⟨_, ht, rfl⟩
    wp_walk using wpAny_loadPart' ht, wpAny_typeOf hT, collect_range (A := A.in1) (s := ⟨hp, g, d, tk, os⟩) hh ht hsmall hn hlen
    intro h' tk' vs hk hi
    show wpAny _ _ (Builtin.Tuple.tupleExact vs.toArray >>= fun v => ret v) _ _ _
    unfold Builtin.Tuple.tupleExact
    have hl := hi.length
    rw [List.length_map, List.length_range] at hl
    refine wpAny_bind (wpAny_newObj_type ?_ (by show vs.toArray.size ≤ sizeLine; rw [List.size_toArray, sizeLine_eq]; omega))
    refine wpAny_pure ⟨_, rfl, ?_⟩
    exact h h' tk' vs hk hi

section
variable {X : Cx}
theorem call_range1 : CallR X (.type "range") (fun xs H Q => ∃ j, xs = [.int j] ∧ ∀ p, H p = none → Q (.ref p) (upd H p (.rng 0 j))) := by
  intro pins s σ H xs us Q I r h
  obtain ⟨j, rfl, q⟩ := h
  obtain ⟨u, rfl, t, rfl⟩ := vals1 r
  refine call_range_1 ⟨.ref s.heap.objs.size, _, I.laid (fun b o e => Heap.get?_push_of_some _ e) (Nat.le_refl _) ?_, rfl, q _ (I.hok.fresh (Nat.le_refl _))⟩
  exact ⟨_, _, _, Heap.get?_push_size _ rfl⟩
def upto (n : Nat) : List Int := (List.range n).map fun (i : Nat) => (i : Int)
theorem call_tuple_rng (hc : X.calm = true) : CallR X (.type "tuple") (fun xs H Q => ∃ (a : Addr) (n : Nat), xs = [.ref a] ∧ H a = some (.rng 0 n) ∧ n ≤ 1000 ∧ ∀ p H', Same H H' → SqT X.K H' p ((upto n).map V.int) → Q (.ref p) H') := by
  intro pins s σ H xs us Q I r h
  obtain ⟨a, n, rfl, ha, hn, q⟩ := h
  obtain ⟨u, rfl, rx⟩ := vals1 r
  cases rx
  obtain ⟨t, u, v, e⟩ := I.hok a _ ha
  have hsz : Builtin.Range.rangeSize 0 (n : Int) 1 = (n : Int) := by rw [rangeSize_one]; split <;> omega
  have hsm : Builtin.Range.small 0 (n : Int) 1 = true := small_one (by omega) (by omega) (by omega) (by omega)
  have hn24 : n ≤ 2 ^ 24 := Nat.le_trans hn (by decide)
  refine callType_new PySem.F.called_tuple (by decide) (PySem.F.typeCall_tuple_1 _) (PySem.F.newCall_tuple_1 _) (fun obj => PySem.F.args_object_init_2 obj _) PySem.F.entry_tuple_new
    (meets_tuple_new_range a 0 n t u v n hsm hsz hn24) ⟨I.ok.hd hc, e, fun h' tk vs kp hi => ⟨⟨_, Heap.get?_push_size _ rfl, rfl⟩, ?_⟩⟩
  have I1 : Inv X pins σ H { s with heap := h', toks := tk } := I.kept kp
  have e0 : ((List.range n).map fun (i : Nat) => (0 : Int) + (i : Int)) = upto n := by unfold upto; exact List.map_congr_left fun i _ => Int.zero_add _
  rw [e0] at hi
  have hv := vals_ints hi
  have hl : (upto n).length = n := by unfold upto; simp
  have hf := I1.hok.fresh (Nat.le_refl _)
  have I2 : Inv X pins σ (upd H h'.objs.size (.tup ((upto n).map V.int))) { s with heap := h'.push { cls := .type "tuple", data := .seq vs.toArray }, toks := tk } :=
    I1.laid (t' := tk) (fun b o e => Heap.get?_push_of_some _ e) (Nat.le_refl _) (show ObjOk X.prog X.w _ _ _ (.tup _) from ⟨by rw [List.length_map, hl, sizeLine_eq]; omega, vs, 0, hv, Heap.get?_push_size _ rfl⟩)
  exact ⟨.ref h'.objs.size, _, I2, rfl, q _ _ (Same.new hf) (SqT.of upd_same)⟩
end
end L2
set_option Elab.async false
set_option linter.all false
set_option maxRecDepth 100000
namespace L2
open PySem PySem.Spec PyProof.Rows

def tab (L : Bool) (ns : List Nat) : SetTable := { mask := 7, place := ns.toArray, dummies := #[], finger := 0, led := L, moves := 0, plain := true }
def elts (l : List (Nat × Tok)) : Array (Int × Value) := (l.map fun p => ((p.1 : Int), Value.int (p.1 : Int) p.2)).toArray
theorem fs0 : ∀ (L : Bool) (k : Fin 8), (tab L []).freeSlot ((k.val : Nat) : Int) = some (k.val, false) := by decide
theorem fs1 : ∀ (L : Bool) (k j : Fin 8), k ≠ j → (tab L [k.val]).freeSlot ((j.val : Nat) : Int) = some (j.val, false) := by decide +kernel
theorem pt0 : ∀ (L : Bool) (k : Fin 8), (tab L []).put k.val = (tab L [k.val], 0) := by decide
theorem pt1 : ∀ (L : Bool) (k j : Fin 8), k < j → (tab L [k.val]).put j.val = (tab L [k.val, j.val], 1) := by decide +kernel
theorem pt2 : ∀ (L : Bool) (k j : Fin 8), j < k → (tab L [k.val]).put j.val = (tab L [j.val, k.val], 0) := by decide +kernel
theorem hash8 : ∀ k : Fin 8, hashInt ((k.val : Nat) : Int) = ((k.val : Nat) : Int) := by decide +kernel
theorem ft1 : ∀ (L : Bool) (k : Fin 8), (tab L [k.val]).fits 1 = true := by decide
theorem ft2 : ∀ (L : Bool) (k j : Fin 8), (tab L [k.val, j.val]).fits 2 = true := by decide +kernel
theorem tf1 : ∀ (L : Bool) (k : Fin 8), (tab L [k.val]).tooFull = false := by decide
theorem tf2 : ∀ (L : Bool) (k j : Fin 8), (tab L [k.val, j.val]).tooFull = false := by decide +kernel
theorem lay0 (L : Bool) (k : Nat) (t : Tok) (hk : k < 8) : layNew (tab L []) (elts []) (k : Int) (.int k t) = (elts [(k, t)], tab L [k], false, false) := by
  have e := fs0 L ⟨k, hk⟩
  have e2 := pt0 L ⟨k, hk⟩
  have e3 := ft1 L ⟨k, hk⟩
  simp only at e e2 e3
  unfold layNew
  rw [e]
  dsimp only
  rw [e2]
  dsimp only
  have e4 : SetTable.insertAt (elts []) 0 ((k : Int), Value.int k t) = elts [(k, t)] := rfl
  rw [e4]
  show (elts [(k, t)], (tab L [k]).orStandIn 1, false, !(tab L [k]).fits 1) = _
  unfold SetTable.orStandIn
  rw [e3]
  rfl
theorem lay1 (L : Bool) (k j : Nat) (t u : Tok) (hk : k < 8) (hj : j < 8) (h : k < j) : layNew (tab L [k]) (elts [(k, t)]) (j : Int) (.int j u) = (elts [(k, t), (j, u)], tab L [k, j], false, false) := by
  have e := fs1 L ⟨k, hk⟩ ⟨j, hj⟩ (by intro z; have := Fin.mk.inj z; omega)
  have e2 := pt1 L ⟨k, hk⟩ ⟨j, hj⟩ h
  have e3 := ft2 L ⟨k, hk⟩ ⟨j, hj⟩
  simp only at e e2 e3
  unfold layNew
  rw [e]
  dsimp only
  rw [e2]
  dsimp only
  have e4 : SetTable.insertAt (elts [(k, t)]) 1 ((j : Int), Value.int j u) = elts [(k, t), (j, u)] := rfl
  rw [e4]
  show (elts [(k, t), (j, u)], (tab L [k, j]).orStandIn 2, false, !(tab L [k, j]).fits 2) = _
  unfold SetTable.orStandIn
  rw [e3]
  rfl
theorem lay2 (L : Bool) (k j : Nat) (t u : Tok) (hk : k < 8) (hj : j < 8) (h : j < k) : layNew (tab L [k]) (elts [(k, t)]) (j : Int) (.int j u) = (elts [(j, u), (k, t)], tab L [j, k], false, false) := by
  have e := fs1 L ⟨k, hk⟩ ⟨j, hj⟩ (by intro z; have := Fin.mk.inj z; omega)
  have e2 := pt2 L ⟨k, hk⟩ ⟨j, hj⟩ h
  have e3 := ft2 L ⟨j, hj⟩ ⟨k, hk⟩
  simp only at e e2 e3
  unfold layNew
  rw [e]
  dsimp only
  rw [e2]
  dsimp only
  have e4 : SetTable.insertAt (elts [(k, t)]) 0 ((j : Int), Value.int j u) = elts [(j, u), (k, t)] := rfl
  rw [e4]
  show (elts [(j, u), (k, t)], (tab L [j, k]).orStandIn 2, false, !(tab L [j, k]).fits 2) = _
  unfold SetTable.orStandIn
  rw [e3]
  rfl

def SX (L : Bool) (h : Heap) (a : Addr) (l : List (Nat × Tok)) : Prop := ∃ o ep, h.get? a = some o ∧ o.ExactSet ∧ o.data = .set (elts l) ep (tab L (l.map (·.1)))
section
variable {prog : Program} {w : World} {A : Around} {E : Value → Shared → Prop} {s : Shared} {L : Bool} {a : Addr}
theorem elems_elts (prog : Program) (w : World) (l : List (Nat × Tok)) (h8 : ∀ p ∈ l, p.1 < 8) : ElemsOf (intKind prog w) (elts l).toList := by
  intro e he
  unfold elts at he
  rw [List.toList_toArray] at he
  obtain ⟨p, hp, rfl⟩ := List.mem_map.mp he
  refine ⟨⟨(p.1 : Int), ?_, ?_⟩, rfl⟩
  · exact intKind_is _ _ _ _
  · exact (hash8 ⟨p.1, h8 p hp⟩).symm
theorem add_SX {l l' : List (Nat × Tok)} {k : Nat} {t : Tok} {Q : Bool → Shared → Prop} (hS : SX L s.heap a l) (h8 : ∀ p ∈ l, p.1 < 8) (hk : k < 8) (hf : (tab L (l.map (·.1))).fits l.length = true) (hlen : l.length ≤ 1)
    (hnew : (∀ p ∈ l, p.1 ≠ k) → layNew (tab L (l.map (·.1))) (elts l) (k : Int) (.int k t) = (elts l', tab L (l'.map (·.1)), false, false) ∧ (tab L (l'.map (·.1))).tooFull = false ∧ l'.length ≤ 2)
    (hQ : ∀ h' b, Heap.SameBut a s.heap h' → ((∃ p ∈ l, p.1 = k) → SX L h' a l) → ((∀ p ∈ l, p.1 ≠ k) → SX L h' a l') → Q b { s with heap := h', toks := s.toks + 1 }) :
    wpAny (model prog w) A (setAdd a (.int (k : Int) t)) Q E s := by
  obtain ⟨o, ep, ho, hex, hd⟩ := hS
  unfold setAdd
  refine wpAny_holding (wpAny_bind ((intKind prog w).pyHash (k := (k : Int)) (intKind_is _ _ _ _) ?_))
  have hh : (intKind prog w).hash (k : Int) = (k : Int) := hash8 ⟨k, hk⟩
  have hel := elems_elts prog w l h8
  have hsz : (elts l).size = l.length := by unfold elts; rw [List.size_toArray, List.length_map]
  have hfit : (tab L (l.map (·.1))).fits (elts l).size = true := by rw [hsz]; exact hf
  have hscan : byScan (.int (k : Int) t) (elts l) = true := byScan_of (knd := intKind prog w) rfl (by rw [hsz]; unfold scanBound; omega) hel
  unfold setAddHashed setAddHashedIn
  refine wpAny_holding (wpAny_bind (wpAny_setState_of (s := { s with toks := s.toks + 1 }) ho hd hfit ?_))
  dsimp only
  rw [hscan]
  simp only [↓reduceIte]
  unfold setAddByScan
  refine wpAny_bind ?_
  refine wpAny_bind (wpAny_rule ?_)
  refine wpAny_bind (wpAny_setScan_of (knd := intKind prog w) (k := (k : Int)) (intKind_is _ _ _ _) ho hd hfit hel ?_)
  cases hr : List.findIdx? (fun e => (intKind prog w).is (k : Int) e.2) (elts l).toList with
  | some j =>
    dsimp only
    obtain ⟨hj, hpj, _⟩ := List.findIdx?_eq_some_iff_getElem.mp hr
    have hthere : ∃ p ∈ l, p.1 = k := by
      have el : (elts l).toList = l.map fun p => ((p.1 : Int), Value.int (p.1 : Int) p.2) := by unfold elts; rw [List.toList_toArray]
      have hm : (elts l).toList[j] ∈ l.map fun p => ((p.1 : Int), Value.int (p.1 : Int) p.2) := by rw [← el]; exact List.getElem_mem hj
      obtain ⟨p, hp, e⟩ := List.mem_map.mp hm
      refine ⟨p, hp, ?_⟩
      rw [← e] at hpj
      obtain ⟨t', e2⟩ := Value.isInt_shape (show Value.isInt (k : Int) (Value.int (p.1 : Int) p.2) = true from hpj)
      have e3 : (p.1 : Int) = (k : Int) := by injection e2
      exact Int.ofNat.inj e3
    refine wpAny_pure (wpAny_pure ?_)
    exact hQ s.heap false (Heap.SameBut.refl a s.heap) (fun _ => ⟨o, ep, ho, hex, hd⟩) fun hn => by
      obtain ⟨p, hp, e⟩ := hthere
      exact absurd e (hn p hp)
  | none =>
    dsimp only
    have hno : ∀ p ∈ l, p.1 ≠ k := fun p hp e => by
      have := List.findIdx?_eq_none_iff.mp hr ((p.1 : Int), Value.int (p.1 : Int) p.2) (by unfold elts; rw [List.toList_toArray]; exact List.mem_map.mpr ⟨p, hp, rfl⟩)
      rw [e] at this
      have h2 : (intKind prog w).is (k : Int) (Value.int (k : Int) p.2) = true := intKind_is _ _ _ _
      simp only at this
      rw [h2] at this
      cases this
    obtain ⟨e1, e2, e3⟩ := hnew hno
    rw [hh, e1]
    dsimp only
    refine wpAny_bind (wpAny_pure ?_)
    rw [if_pos (show (tab L (l'.map (·.1))).plain = true from rfl), hashByValue_scannable 8 (x := .int (k : Int) t) rfl]
    refine wpAny_bind (wpAny_pure ?_)
    rw [if_pos (show plainKind (.int (k : Int) t) = true from rfl)]
    have hsz' : (elts l').size = l'.length := by unfold elts; rw [List.size_toArray, List.length_map]
    refine wpAny_bind (wpAny_storeSet_of (s := { s with toks := s.toks + 1 }) ho hd ?_ (by rw [hsz', sizeLine_eq]; omega))
    rw [e2]
    simp only [Bool.not_false, Bool.and_false, Bool.false_eq_true, if_false]
    refine wpAny_pure (wpAny_pure ?_)
    refine hQ (s.heap.update a (Obj.putSet (elts l') (tab L (l'.map (·.1))))) true (Heap.SameBut.update _ _ _) (fun ⟨p, hp, e⟩ => absurd e (hno p hp)) fun _ => ⟨{ o with data := .set (elts l') (ep + 1) (tab L (l'.map (·.1))) }, ep + 1, ?_, hex, rfl⟩
    have := Heap.get?_update_self (Obj.putSet (elts l') (tab L (l'.map (·.1)))) ho (by rw [putSet_of _ _ hd]; rfl)
    rw [putSet_of _ _ hd] at this
    exact this
end
end L2
set_option Elab.async false
set_option linter.all false
set_option maxRecDepth 100000
namespace L2
open PySem PySem.Spec PyProof.Rows
section
variable {prog : Program} {w : World} {A : Around} {E : Value → Shared → Prop} {s : Shared}
abbrev Led (w : World) : Bool := !(w.params.followText "set-order")
theorem code_set_new_L (a : Value) {Q₁ : Value → Shared → Prop}
    (h : Q₁ (.ref s.heap.objs.size) { s with heap := s.heap.push { cls := .type "set", dict := none, data := .set #[] 0 (.fresh 0 0 (Led w)) } }) :
    codeAny (model prog w) A (.call (.builtin "set.__new__") ⟨[.type "set", a], []⟩) (wants Q₁ E) s := by
  refine codeAny_of_tree ?_
  show wpAny _ A.in1 (do checkBuiltinCall "set.__new__" ⟨[.type "set", a], []⟩; again (.builtin "set.__new__" ⟨[.type "set", a], []⟩)) _ _ s
  refine wpAny_bind (wpAny_of_eq (PySem.F.newCall_set_1 a) (wpAny_pure ⟨plainId_quiet PySem.F.plain_set_new _, codeAny_builtin PySem.F.entry_set_new ?_⟩))
  rw [Around.under_plainId PySem.F.plain_set_new _]
  unfold Builtin.«set.__new__» Builtin.Frozenset.newClass
  have hsub := sub_set_self
  obtain ⟨hp, g, d, tk, os⟩ := s
  dsimp only
  wp_walk
  refine wpAny_askSetting (wpAny_pure ?_)
  dsimp only
  simp only [newObj]
  refine wpAny_bind (wpAny_alloc (wpAny_pure ?_))
  exact wpAny_pure h
theorem upd_step {I S : Addr} {fp wr : List Addr} {n i : Nat} {P : Nat → Value → Prop} {St : Nat → Heap → Prop} {R : Result → Shared → Prop} (W : Walks prog w A.in1 I fp wr n P St) (hi : i < n) (st : St i s.heap)
    (h : ∀ v h' tk, P i v → St (i + 1) h' → (∀ b o, b ∉ wr → s.heap.get? b = some o → h'.get? b = some o) →
      wpAny (model prog w) A.in1 (setAdd S v) (fun _ s2 => codeAny (model prog w) A (.builtin "set.update.loop" ⟨[.ref S, .ref I], []⟩) R s2) (fun e s' => R (.error e) s') { s with heap := h', toks := tk }) :
    codeAny (model prog w) A (.builtin "set.update.loop" ⟨[.ref S, .ref I], []⟩) R s := by
  refine codeAny_builtin PyProof.Rows.F.entry_set_update_loop ?_
  rw [Around.under_plainId PyProof.Rows.F.plain_set_update_loop _]
  show wpAny _ A.in1 (pyNext (.ref I) >>= _) _ _ s
  refine wpAny_bind (W.item i s _ _ hi st fun v h' tk hP hst' hk => ?_)
  show wpAny _ A.in1 (holding [v] (setAdd S v) >>= _) _ _ _
  refine wpAny_bind (wpAny_holding (wpAny_mono (h v h' tk hP hst' hk) (fun _ s2 q => ?_) fun _ _ e => e))
  exact wpAny_pure ⟨plainId_quiet PyProof.Rows.F.plain_set_update_loop _, q⟩
theorem upd_done {I S : Addr} {fp wr : List Addr} {n : Nat} {P : Nat → Value → Prop} {St : Nat → Heap → Prop} {R : Result → Shared → Prop} (W : Walks prog w A.in1 I fp wr n P St) (st : St n s.heap)
    (h : ∀ h' tk, (∀ b o, b ∉ wr → s.heap.get? b = some o → h'.get? b = some o) → R (.ok (.ret .none)) { s with heap := h', toks := tk }) :
    codeAny (model prog w) A (.builtin "set.update.loop" ⟨[.ref S, .ref I], []⟩) R s := by
  refine codeAny_builtin PyProof.Rows.F.entry_set_update_loop ?_
  rw [Around.under_plainId PyProof.Rows.F.plain_set_update_loop _]
  show wpAny _ A.in1 (pyNext (.ref I) >>= _) _ _ s
  refine wpAny_bind (W.done s _ _ st fun h' tk hk => ?_)
  show wpAny _ A.in1 (ret Value.none) _ _ _
  exact wpAny_pure (h h' tk hk)
def two (a b : Nat) (t u : Tok) : List (Nat × Tok) := if a = b then [(a, t)] else if a < b then [(a, t), (b, u)] else [(b, u), (a, t)]
theorem SX.keep {L : Bool} {h h' : Heap} {a : Addr} {l : List (Nat × Tok)} (x : SX L h a l) (k : ∀ o, h.get? a = some o → h'.get? a = some o) : SX L h' a l := by
  obtain ⟨o, ep, e, r⟩ := x
  exact ⟨o, ep, k o e, r⟩
set_option maxHeartbeats 3200000 in
theorem call_set_two {l : Addr} {a b : Nat} {t u : Tok} {Q : Value → Shared → Prop} (hh : A.handled = none) (hl : s.heap.IsList l #[.int (a : Int) t, .int (b : Int) u]) (ha : a < 8) (hb : b < 8)
    (h : ∀ (h' : Heap) (tk : Nat), SX (Led w) h' s.heap.objs.size (two a b t u) → (∀ b o, b < s.heap.objs.size → s.heap.get? b = some o → h'.get? b = some o) → Q (.ref s.heap.objs.size) { s with heap := h', toks := tk }) :
    wpAny (model prog w) A (call (.type "set") [.ref l]) Q E s := by
  obtain ⟨c, tl, hmro⟩ := PySem.F.called_set.mro
  have hmade := PySem.F.called_set.made
  have hsub := PySem.F.called_set.sub
  refine wpAny_call (codeAny_of_tree ?_)
  show wpAny _ _ (callAny (.type "set") _) _ _ _
  refine wpAny_pure ⟨Code.quiet_builtin _ (by decide +kernel), codeAny_builtin PySem.F.entry_type_call ?_⟩
  rw [Around.under_plain (weight_type_call_type "set" [.ref l] []) rfl]
  have h1 := PySem.F.called_set.notType
  have h2 := PySem.F.called_set.canCreate
  have hct := PySem.F.typeCall_set_1 (.ref l)
  repeat (any_goals (first | assumption | wp_step))
  refine codeAny_mono (code_set_new_L (.ref l) (E := E) (Q₁ := fun obj s₁ => obj = .ref s.heap.objs.size ∧ s₁ = { s with heap := s.heap.push { cls := .type "set", dict := none, data := .set #[] 0 (.fresh 0 0 (Led w)) } }) ⟨rfl, rfl⟩) fun r s₁ hr => ?_
  cases r with
  | error e => exact hr
  | ok fl =>
    cases fl with
    | ret obj =>
      obtain ⟨rfl, rfl⟩ := hr
      generalize hled : Led w = led at h ⊢
      have hS : (s.heap.push { cls := .type "set", dict := none, data := .set #[] 0 (.fresh 0 0 led) }).get? s.heap.objs.size = some { cls := .type "set", dict := none, data := .set #[] 0 (.fresh 0 0 led) } := Heap.get?_push_size _ rfl
      have hT : Shared.TypeIs { s with heap := s.heap.push { cls := .type "set", dict := none, data := .set #[] 0 (.fresh 0 0 led) } } (.ref s.heap.objs.size) "set" := ⟨_, hS, rfl⟩
      have hli := PySem.F.called_set.init.lookup
      have hbi := PySem.F.called_set.init.bind (.ref s.heap.objs.size)
      repeat (any_goals (first | assumption | wp_step))
      refine codeAny_mono (codeAny_call_builtin (R := wants (fun r s₂ => r = .none ∧ ∃ h' tk, s₂ = { s with heap := h', toks := tk } ∧ SX led h' s.heap.objs.size (two a b t u) ∧
          (∀ b o, b < s.heap.objs.size → s.heap.get? b = some o → h'.get? b = some o)) E) PySem.F.called_set.init.plain PySem.F.entry_set_init (check_set_init_1 hT ?_)) fun r₂ s₂ hr₂ => ?_
      · obtain ⟨ol, hol, hcl, nl, hdl⟩ := hl
        obtain ⟨ocls, odict, odata, oslots⟩ := ol
        simp only at hcl hdl
        subst hcl; subst hdl
        have hol' : (s.heap.push { cls := .type "set", dict := none, data := .set #[] 0 (.fresh 0 0 led) }).get? l = some { cls := .type "list", dict := odict, data := .seq #[.int (a : Int) t, .int (b : Int) u] nl, slots := oslots } := Heap.get?_push_of_some _ hol
        have hsls := PySem.F.sub_list_set
        have hslf := PySem.F.sub_list_frozenset
        have hne : (Value.type "list" == Value.type "dict") = false := by decide
        have hl1 : (s.heap.push { cls := .type "set", dict := none, data := .set #[] 0 (.fresh 0 0 led) }).IsList l #[.int (a : Int) t, .int (b : Int) u] := ⟨_, hol', rfl, nl, rfl⟩
        unfold Builtin.«set.__init__» noKeywords Builtin.Frozenset.updateFrom
        generalize hPI : pyIter = PI
        wp_walk
        subst hPI
        refine wpAny_pyIter_list hl1 ?_
        refine wpAny_bind (wpAny_runValue ?_)
        have hlS : l < s.heap.objs.size := Heap.lt_size hol
        have hh3 : A.in1.in1.in1.handled = none := by simp [hh]
        generalize hH1 : s.heap.push { cls := .type "set", dict := none, data := .set #[] 0 (.fresh 0 0 led) } = H1 at *
        have szH1 : H1.objs.size = s.heap.objs.size + 1 := by rw [← hH1, Heap.size_push]
        have hneI : l ≠ H1.objs.size := by rw [szH1]; exact Nat.ne_of_lt (Nat.lt_succ_of_lt hlS)
        have W := Walks.list (prog := prog) (w := w) hh3 H1.objs.size l hneI #[.int (a : Int) t, .int (b : Int) u]
        generalize hS0 : s.heap.objs.size = S at *
        have SI : S ≠ H1.objs.size := by omega
        have SXk : ∀ {h h' : Heap} {ll : List (Nat × Tok)}, SX led h S ll → (∀ b o, b ∉ [H1.objs.size] → h.get? b = some o → h'.get? b = some o) → SX led h' S ll := fun x k => x.keep fun o e => k S o (by simpa using SI) e
        have x0 : SX led (H1.push { cls := .type "list_iterator", data := .fields #[.ref l, .int 0 0] }) S [] := ⟨_, 0, Heap.get?_push_of_some _ hS, ⟨rfl, rfl, rfl⟩, rfl⟩
        have lS : l ≠ S := Nat.ne_of_lt hlS
        refine upd_step W (i := 0) (by show 0 < 2; decide) ⟨⟨_, Heap.get?_push_size _ rfl, rfl, rfl⟩, hl1.push _⟩ fun v h2 tk2 hv2 st2 k2 => ?_
        have hv2' : v = .int (a : Int) t := (Option.some.inj (show some (Value.int (a : Int) t) = some v from hv2)).symm
        subst hv2'
        refine add_SX (l := []) (l' := [(a, t)]) (SXk x0 k2) (fun p hp => by cases hp) ha rfl (by decide) (fun _ => ⟨lay0 led a t ha, tf1 led ⟨a, ha⟩, by show 1 ≤ 2; decide⟩) fun h3 _ sb3 _ x3 => ?_
        have x3' := x3 fun p hp => by cases hp
        have st3 : h3.IsListIter H1.objs.size l 1 ∧ h3.IsList l #[.int (a : Int) t, .int (b : Int) u] := W.frame _ _ _ st2 fun c hc o e => (sb3.2 c (by
          rcases List.mem_cons.mp hc with z | z
          · rw [z]; exact Ne.symm SI
          · have z' : c = l := by simpa using z
            rw [z']; exact lS)).trans e
        refine upd_step W (i := 1) (by show 1 < 2; decide) st3 fun v h4 tk4 hv4 st4 k4 => ?_
        have hv4' : v = .int (b : Int) u := (Option.some.inj (show some (Value.int (b : Int) u) = some v from hv4)).symm
        subst hv4'
        refine add_SX (l := [(a, t)]) (l' := if a < b then [(a, t), (b, u)] else [(b, u), (a, t)]) (SXk x3' k4) (fun p hp => by rw [List.mem_singleton.mp hp]; exact ha) hb (ft1 led ⟨a, ha⟩) (by show 1 ≤ 1; decide) (fun hn => ?_) fun h5 _ sb5 xo xn => ?_
        · have hab : a ≠ b := hn (a, t) List.mem_cons_self
          by_cases hlt : a < b
          · rw [if_pos hlt]; exact ⟨lay1 led a b t u ha hb hlt, tf2 led ⟨a, ha⟩ ⟨b, hb⟩, by simp⟩
          · rw [if_neg hlt]; exact ⟨lay2 led a b t u ha hb (by omega), tf2 led ⟨b, hb⟩ ⟨a, ha⟩, by simp⟩
        · have x5 : SX led h5 S (two a b t u) := by
            unfold two
            by_cases hab : a = b
            · rw [if_pos hab]; exact xo ⟨(a, t), List.mem_cons_self, hab⟩
            · rw [if_neg hab]; exact xn fun p hp => by rw [List.mem_singleton.mp hp]; exact hab
          have st5 : h5.IsListIter H1.objs.size l 2 ∧ h5.IsList l #[.int (a : Int) t, .int (b : Int) u] := W.frame _ _ _ st4 fun c hc o e => (sb5.2 c (by
            rcases List.mem_cons.mp hc with z | z
            · rw [z]; exact Ne.symm SI
            · have z' : c = l := by simpa using z
              rw [z']; exact lS)).trans e
          refine upd_done W st5 fun h6 tk6 k6 => ?_
          show wpAny _ _ _ _ _ _
          refine wpAny_pure ?_
          show wpAny _ _ (ret Value.none) _ _ _
          refine wpAny_pure ⟨rfl, h6, tk6, rfl, SXk x5 k6, fun c o hc e => ?_⟩
          have c1 : c ≠ S := Nat.ne_of_lt hc
          have c2 : c ∉ [H1.objs.size] := by
            intro z
            have z' : c = H1.objs.size := by simpa using z
            omega
          exact k6 c o c2 ((sb5.2 c c1).trans (k4 c o c2 ((sb3.2 c c1).trans (k2 c o c2 (Heap.get?_push_of_some _ (hH1 ▸ Heap.get?_push_of_some _ e))))))
      · cases r₂ with
        | error e => exact hr₂
        | ok fl₂ =>
          cases fl₂ with
          | ret r =>
            obtain ⟨rfl, h', tk, rfl, hS', hk'⟩ := hr₂
            repeat (any_goals (first | assumption | wp_step))
            exact h _ _ hS' hk'
          | _ => exact hr₂.elim
    | _ => exact hr.elim
end
end L2
set_option Elab.async false
set_option linter.all false
set_option maxRecDepth 100000
namespace L2
open PySem PySem.Spec PyProof.Rows
theorem slot_set_iterator_next : Slot "set_iterator" "__next__" "set_iterator.__next__" :=
  .of (owner := "set_iterator") (n := "__next__") (by rw [typeLookup_type, builtinLookup_eq_fast]; kernel_rfl) (by decide +kernel) (by decide +kernel) (by decide +kernel)
    (by first | exact .inl (by decide +kernel) | exact .inr (by decide +kernel)) (by rw [isSubtype_type]; kernel_rfl)
theorem entry_set_iterator_next : entryFor table "set_iterator.__next__" = some Builtin.«set_iterator.__next__» := entryFor_of_tree (by kernel_rfl)
theorem args_set_iterator_next_1 (a : Value) : argsOk "set_iterator.__next__" ⟨[a], []⟩ := by
  unfold argsOk; kernel_rfl
theorem slot_set_iterator_iter : Slot "set_iterator" "__iter__" "set_iterator.__iter__" :=
  .of (owner := "set_iterator") (n := "__iter__") (by rw [typeLookup_type, builtinLookup_eq_fast]; kernel_rfl) (by decide +kernel) (by decide +kernel) (by decide +kernel)
    (by first | exact .inl (by decide +kernel) | exact .inr (by decide +kernel)) (by rw [isSubtype_type]; kernel_rfl)
theorem entry_set_iterator_iter : entryFor table "set_iterator.__iter__" = some Builtin.«dict_keyiterator.__iter__» :=
  entryFor_alias (id' := "dict_keyiterator.__iter__") (by kernel_rfl) rfl (by decide +kernel) (by kernel_rfl)
theorem args_set_iterator_iter_1 (a : Value) : argsOk "set_iterator.__iter__" ⟨[a], []⟩ := by
  unfold argsOk; kernel_rfl
theorem entry_set_iter : entryFor table "set.__iter__" = some Builtin.«frozenset.__iter__» :=
  entryFor_alias (id' := "frozenset.__iter__") (by kernel_rfl) rfl (by decide +kernel) (by kernel_rfl)

def Okl (l : List (Nat × Tok)) : Prop := (∃ p, l = [p] ∧ p.1 < 8) ∨ ∃ p q, l = [p, q] ∧ p.1 < q.1 ∧ q.1 < 8
def slotT (ns : List Nat) (i : Nat) : Nat := if i = 0 then 0 else (ns[i - 1]?).getD 0 + 1
theorem bl1 : ∀ (k : Fin 8) (i : Fin 2), SetTable.below #[k.val] (slotT [k.val] i.val) = i.val := by decide +kernel
theorem bl2 : ∀ (k j : Fin 8) (i : Fin 3), k < j → SetTable.below #[k.val, j.val] (slotT [k.val, j.val] i.val) = i.val := by decide +kernel
theorem below_ok {l : List (Nat × Tok)} (h : Okl l) (i : Nat) (hi : i ≤ l.length) : SetTable.below (l.map (·.1)).toArray (slotT (l.map (·.1)) i) = i := by
  rcases h with ⟨p, rfl, h8⟩ | ⟨p, q, rfl, h1, h8⟩
  · exact bl1 ⟨p.1, h8⟩ ⟨i, by simp at hi; omega⟩
  · exact bl2 ⟨p.1, by omega⟩ ⟨q.1, h8⟩ ⟨i, by simp at hi; omega⟩ h1
theorem Okl.fits {L : Bool} {l : List (Nat × Tok)} (h : Okl l) : (tab L (l.map (·.1))).fits (elts l).size = true := by
  rcases h with ⟨p, rfl, h8⟩ | ⟨p, q, rfl, h1, h8⟩
  · exact ft1 L ⟨p.1, h8⟩
  · exact ft2 L ⟨p.1, by omega⟩ ⟨q.1, h8⟩
theorem two_ok {a b : Nat} {t u : Tok} (ha : a < 8) (hb : b < 8) : Okl (two a b t u) := by
  unfold two
  by_cases h : a = b
  · rw [if_pos h]; exact .inl ⟨_, rfl, ha⟩
  · rw [if_neg h]
    by_cases h2 : a < b
    · rw [if_pos h2]; exact .inr ⟨_, _, rfl, h2, hb⟩
    · rw [if_neg h2]; exact .inr ⟨_, _, rfl, by show b < a; omega, ha⟩
def ordE (w : World) (S : Addr) (ep : Nat) (l : List (Nat × Tok)) : Array (Int × Value) := if w.params.followText "set-order" then pickOrder (w.params.setOrder S ep) (elts l) else elts l
def slotA (w : World) (l : List (Nat × Tok)) (i : Nat) : Nat := if w.params.followText "set-order" then 0 else slotT (l.map (·.1)) i
section
variable {prog : Program} {w : World} {A : Around} {E : Value → Shared → Prop} {s : Shared} {S : Addr} {o : Obj} {ep : Nat} {l : List (Nat × Tok)}
theorem wp_byText {Q : Bool → Shared → Prop} (h : Q (w.params.followText "set-order") s) : wpAny (model prog w) A setsByText Q E s := wpAny_bind (wpAny_askSetting (wpAny_pure h))
theorem wp_setNext {i : Nat} {Q : Option (Value × Nat) → Shared → Prop} (hl : Okl l) (ho : s.heap.get? S = some o) (hd : o.data = .set (elts l) ep (tab (Led w) (l.map (·.1)))) (hi : i ≤ l.length)
    (h : Q (((ordE w S ep l)[i]?).map fun e => (e.2, slotA w l (i + 1))) s) : wpAny (model prog w) A (setNext S (slotA w l i) i ep) Q E s := by
  unfold setNext
  refine wpAny_bind (wpAny_setState_of ho hd hl.fits ?_)
  dsimp only
  refine wpAny_bind (wp_byText ?_)
  cases hb : w.params.followText "set-order" with
  | true =>
    have e1 : ordE w S ep l = pickOrder (w.params.setOrder S ep) (elts l) := by unfold ordE; rw [hb]; rfl
    have e2 : ∀ i, slotA w l i = 0 := fun i => by unfold slotA; rw [hb]; rfl
    rw [e1, e2] at h
    rw [e2]
    simp only [if_true, bne_self_eq_false, Bool.false_eq_true, if_false]
    refine wpAny_bind ?_
    unfold setWalk
    refine wpAny_bind (wpAny_setState_of ho hd hl.fits ?_)
    dsimp only
    refine wpAny_bind (wp_byText ?_)
    rw [hb]
    simp only [if_true]
    refine wpAny_bind (wpAny_askSetting (wpAny_pure (wpAny_pure h)))
  | false =>
    have e1 : ordE w S ep l = elts l := by unfold ordE; rw [hb]; rfl
    have e2 : ∀ i, slotA w l i = slotT (l.map (·.1)) i := fun i => by unfold slotA; rw [hb]; rfl
    have eL : Led w = true := by unfold Led; rw [hb]; rfl
    rw [e1, e2] at h
    rw [e2, eL]
    simp only [Bool.false_eq_true, if_false]
    have hp : (tab true (l.map (·.1))).place = (l.map (·.1)).toArray := rfl
    have hbl := below_ok hl i hi
    refine wpAny_ite_split (fun hab => absurd (show false = true from hab) Bool.false_ne_true) (fun _ => ?_)
    refine wpAny_bind (m := pure ()) (wpAny_pure (wpAny_pure ?_))
    rw [hp, hbl]
    have e3 : (elts l)[i]? = (l[i]?).map fun p => ((p.1 : Int), Value.int (p.1 : Int) p.2) := by unfold elts; simp
    have e4 : (l.map (·.1)).toArray[i]? = (l[i]?).map (·.1) := by simp
    rw [e3] at h
    rw [e3, e4]
    cases hli : l[i]? with
    | none => rw [hli] at h; exact h
    | some p =>
      rw [hli] at h
      have e5 : slotT (l.map (·.1)) (i + 1) = p.1 + 1 := by
        unfold slotT
        rw [if_neg (by omega), Nat.add_sub_cancel, List.getElem?_map, hli]
        rfl
      rw [e5] at h
      exact h
def IsSetIt (w : World) (h : Heap) (I S : Addr) (l : List (Nat × Tok)) (ep i : Nat) : Prop :=
  h.get? I = some { cls := .type "set_iterator", data := .fields #[rawInt (slotA w l i : Nat), rawInt (i : Nat), .ref S, rawInt (l.length : Nat), rawInt (ep : Nat)] }
theorem setWalks (hh : A.handled = none) (I S : Addr) (hne : S ≠ I) (o : Obj) (ep : Nat) (l : List (Nat × Tok)) (hl : Okl l) (hd : o.data = .set (elts l) ep (tab (Led w) (l.map (·.1)))) (hsz : (ordE w S ep l).size = l.length) :
    Walks prog w A I [I, S] [I] l.length (fun i v => ∃ k, (ordE w S ep l)[i]? = some (k, v)) (fun i h => IsSetIt w h I S l ep i ∧ h.get? S = some o) where
  sub := fun b hb => by simp at hb; simp [hb]
  frame := fun _ _ _ st hk => ⟨hk I (by simp) _ st.1, hk S (by simp) _ st.2⟩
  item := fun i s Q E hi st hQ => by
    obtain ⟨hit, hS⟩ := st
    have hT : s.TypeIs (.ref I) "set_iterator" := ⟨_, hit, rfl⟩
    unfold pyNext
    refine wpAny_bind (wpAny_attempt (wpAny_callSpecial?_slot (name := Str.ofString "__next__") hT slot_set_iterator_next
      (wpAny_call_entry slot_set_iterator_next hT entry_set_iterator_next ?_ (args_set_iterator_next_1 _))))
    unfold Builtin.«set_iterator.__next__» slotArgs
    simp only [List.isEmpty_nil, Bool.not_true, Bool.false_eq_true, ↓reduceIte, List.length_nil, bne_self_eq_false]
    refine wpAny_bind (wpAny_pure ?_)
    dsimp only
    refine wpAny_bind (wpAny_fieldsOf hit rfl ?_)
    show wpAny _ _ (setEntries S >>= _) _ _ s
    have hsz' : (elts l).size = l.length := by unfold elts; rw [List.size_toArray, List.length_map]
    refine wpAny_bind (wpAny_bind (wpAny_setState_of hS hd hl.fits (wpAny_pure ?_)))
    dsimp only
    refine wpAny_ite_split (fun hab => absurd hab (by rw [hsz']; simp)) (fun _ => ?_)
    show wpAny _ _ (setNext S (slotA w l i : Int).toNat (i : Int).toNat (ep : Int).toNat >>= _) _ _ s
    rw [Int.toNat_natCast, Int.toNat_natCast, Int.toNat_natCast]
    refine wpAny_bind (wp_setNext hl hS hd (by omega) ?_)
    obtain ⟨⟨k, v⟩, hkv⟩ : ∃ e, (ordE w S ep l)[i]? = some e := ⟨_, Array.getElem?_eq_getElem (by rw [hsz]; exact hi)⟩
    rw [hkv]
    show wpAny _ _ (setField (Value.ref I) 0 (rawInt ↑(slotA w l (i + 1))) >>= _) _ _ s
    refine wpAny_bind (wpAny_setField_rec hit (by show 0 < 5; decide) fun h1 g1 sb1 => ?_)
    refine wpAny_bind (wpAny_setField_rec g1 (by show 1 < 5; decide) fun h2 g2 sb2 => ?_)
    refine wpAny_pure ⟨v, rfl, wpAny_pure ?_⟩
    refine hQ v h2 s.toks ⟨k, hkv⟩ ⟨?_, (sb2.2 S hne).trans ((sb1.2 S hne).trans hS)⟩ fun b ob hb e => ?_
    · unfold IsSetIt
      rw [g2]
      congr 1
    · have hb' : b ≠ I := by simpa using hb
      exact (sb2.2 b hb').trans ((sb1.2 b hb').trans e)
  done := fun s Q E st hQ => by
    obtain ⟨hit, hS⟩ := st
    have hT : s.TypeIs (.ref I) "set_iterator" := ⟨_, hit, rfl⟩
    unfold pyNext
    refine wpAny_bind (wpAny_attempt (wpAny_callSpecial?_slot (name := Str.ofString "__next__") hT slot_set_iterator_next
      (wpAny_call_entry slot_set_iterator_next hT entry_set_iterator_next ?_ (args_set_iterator_next_1 _))))
    unfold Builtin.«set_iterator.__next__» slotArgs
    simp only [List.isEmpty_nil, Bool.not_true, Bool.false_eq_true, ↓reduceIte, List.length_nil, bne_self_eq_false]
    refine wpAny_bind (wpAny_pure ?_)
    dsimp only
    refine wpAny_bind (wpAny_fieldsOf hit rfl ?_)
    show wpAny _ _ (setEntries S >>= _) _ _ s
    have hsz' : (elts l).size = l.length := by unfold elts; rw [List.size_toArray, List.length_map]
    refine wpAny_bind (wpAny_bind (wpAny_setState_of hS hd hl.fits (wpAny_pure ?_)))
    dsimp only
    refine wpAny_ite_split (fun hab => absurd hab (by rw [hsz']; simp)) (fun _ => ?_)
    show wpAny _ _ (setNext S (slotA w l l.length : Int).toNat (l.length : Int).toNat (ep : Int).toNat >>= _) _ _ s
    rw [Int.toNat_natCast, Int.toNat_natCast, Int.toNat_natCast]
    refine wpAny_bind (wp_setNext hl hS hd (Nat.le_refl _) ?_)
    have hkv : (ordE w S ep l)[l.length]? = none := by rw [Array.getElem?_eq_none]; omega
    rw [hkv]
    show wpAny _ _ (setField (Value.ref I) 2 Value.none >>= _) _ _ s
    refine wpAny_bind (wpAny_setField_rec hit (by show 2 < 5; decide) fun h1 g1 sb1 => ?_)
    show wpAny _ _ (newExc (.type "StopIteration") [] >>= _) _ _ _
    refine wpAny_bind ?_
    simp only [newExc, newTuple]
    refine wpAny_bind (wpAny_newObj_type ?_ (by size_fits))
    refine wpAny_bind (m := firstArgMember _ _) (wpAny_of_eq (a := Value.none) (by first | rfl | (simp only [firstArgMember]; rfl)) ?_)
    refine wpAny_newObj_type ?_ (by size_fits)
    simp only [raiseNew]
    refine wpAny_bind (wpAny_handled ?_)
    first | rw [show A.in1.handled = none from hh] | rw [hh]
    refine wpAny_bind (wpAny_pure (wpAny_throw ?_))
    refine wpAny_bind (wpAny_isInstance (T := "StopIteration") (b := true) ⟨_, Heap.get?_push_size _ rfl, rfl⟩ isSubtype_stop ?_)
    refine wpAny_pure (hQ _ s.toks fun b ob hb e => ?_)
    have hb' : b ≠ I := by simpa using hb
    exact Heap.get?_push_of_some _ (Heap.get?_push_of_some _ ((sb1.2 b hb').trans e))
  self := fun i s Q E st h => by
    obtain ⟨hit, hS⟩ := st
    have hT : s.TypeIs (.ref I) "set_iterator" := ⟨_, hit, rfl⟩
    refine wpAny_pyIter_slot hT slot_set_iterator_iter (wpAny_call_entry slot_set_iterator_iter hT entry_set_iterator_iter ?_ (args_set_iterator_iter_1 _))
    show wpAny _ _ (ret (.ref I)) _ _ s
    exact wpAny_pure ⟨_, rfl, "set_iterator", _, hT, slot_set_iterator_next.lookup, h⟩
end
end L2
set_option Elab.async false
set_option linter.all false
set_option maxRecDepth 100000
namespace L2
open PySem PySem.Spec PyProof.Rows
section
variable {prog : Program} {w : World} {A : Around} {E : Value → Shared → Prop} {s : Shared} {S : Addr} {o : Obj} {ep : Nat} {l : List (Nat × Tok)}
theorem pyIter_set {Q : Value → Shared → Prop} (hl : Okl l) (ho : s.heap.get? S = some o) (hex : o.ExactSet) (hd : o.data = .set (elts l) ep (tab (Led w) (l.map (·.1))))
    (h : Q (.ref s.heap.objs.size) { s with heap := s.heap.push { cls := .type "set_iterator", data := .fields #[rawInt (slotA w l 0 : Nat), rawInt ((0 : Nat) : Int), .ref S, rawInt (l.length : Nat), rawInt (ep : Nat)] } }) : wpAny (model prog w) A (pyIter (.ref S)) Q E s := by
  have hT : s.TypeIs (.ref S) "set" := ⟨o, ho, hex.1⟩
  refine wpAny_pyIter_slot hT PySem.F.slot_set_iter (wpAny_call_entry PySem.F.slot_set_iter hT entry_set_iter ?_ (PySem.F.args_set_iter_1 _))
  unfold Builtin.«frozenset.__iter__» Builtin.Frozenset.slot0 slotArgs
  simp only [List.isEmpty_nil, Bool.not_true, Bool.false_eq_true, ↓reduceIte, bind_assoc, List.length_nil, bne_self_eq_false]
  refine wpAny_bind (wpAny_pure ?_)
  dsimp only
  refine wpAny_bind (m := Builtin.Frozenset.addrOf (.ref S)) (wpAny_pure ?_)
  unfold Builtin.Frozenset.sizeOf setEntries
  refine wpAny_bind (wpAny_bind (wpAny_bind (wpAny_setState_of ho hd hl.fits (wpAny_pure (wpAny_pure ?_)))))
  dsimp only
  unfold setDrawn
  refine wpAny_bind (wpAny_bind (wpAny_setState_of ho hd hl.fits (wpAny_bind (wp_byText (wpAny_pure ?_)))))
  have hb : ∀ b : Bool, (!b && false) = false := by decide
  refine wpAny_ite_split (fun hab => absurd (show (!(w.params.followText "set-order") && false) = true from hab) (by rw [hb]; decide)) (fun _ => ?_)
  refine wpAny_bind (wpAny_pure ?_)
  unfold setEpoch
  refine wpAny_bind (wpAny_bind (wpAny_setState_of ho hd hl.fits (wpAny_pure ?_)))
  dsimp only
  have hsz' : (elts l).size = l.length := by unfold elts; rw [List.size_toArray, List.length_map]
  have e0 : slotA w l 0 = 0 := by unfold slotA slotT; split <;> rfl
  refine wpAny_bind (wpAny_newObj_type (wpAny_pure ⟨_, rfl, "set_iterator", _, ⟨_, Heap.get?_push_size _ rfl, rfl⟩, slot_set_iterator_next.lookup, ?_⟩))
  rw [e0] at h
  rw [hsz']
  exact h
theorem hint_set {Q : Bool → Shared → Prop} (hl : Okl l) (ho : s.heap.get? S = some o) (hex : o.ExactSet) (hd : o.data = .set (elts l) ep (tab (Led w) (l.map (·.1))))
    (h : ∀ b, Q b s) : wpAny (model prog w) A (Builtin.List.listLengthHint (.ref S)) Q E s := by
  have hT : s.TypeIs (.ref S) "set" := ⟨o, ho, hex.1⟩
  have hsz' : (elts l).size = l.length := by unfold elts; rw [List.size_toArray, List.length_map]
  have hlen : l.length ≤ 2 := by rcases hl with ⟨p, rfl, _⟩ | ⟨p, q, rfl, _⟩ <;> simp
  unfold Builtin.List.listLengthHint
  refine wpAny_bind (wpAny_specialOf hT PySem.F.slot_set_len.lookup ?_)
  generalize hid : ("set.__len__" : String) = id0
  wp_delta
  rw [show splitId id0 = some ("set", "__len__") from by subst hid; decide +kernel]
  subst hid
  refine wpAny_bind (wpAny_isInstance (T := "set") (b := true) hT (by rw [isSubtype_type]; kernel_rfl) ?_)
  refine wpAny_ite_split (fun hab => absurd hab (by decide)) (fun _ => ?_)
  refine wpAny_ite_split (fun _ => ?_) (fun hab => absurd (by decide +kernel) hab)
  refine wpAny_bind (wpAny_typeOf hT ?_)
  exact wpAny_pure (h false)
theorem collect_set {Q : List Value → Shared → Prop} (hh : A.handled = none) (hl : Okl l) (ho : s.heap.get? S = some o) (hex : o.ExactSet) (hd : o.data = .set (elts l) ep (tab (Led w) (l.map (·.1)))) (hsz : (ordE w S ep l).size = l.length)
    (h : ∀ h' tk vs, (∀ b o, s.heap.get? b = some o → h'.get? b = some o) → vs = (ordE w S ep l).toList.map (·.2) → Q vs { s with heap := h', toks := tk }) : wpAny (model prog w) A (collect (.ref S)) Q E s := by
  refine collect_by fun R hR => ?_
  generalize hD : s.heap.objs.size = D at *
  have hSD : @LT.lt Nat instLTNat S D := by rw [← hD]; exact Heap.lt_size ho
  generalize hH0 : s.heap.push { cls := .type "list", data := .seq ([] : List Value).toArray } = H0
  have szH0 : H0.objs.size = D + 1 := by rw [← hH0, Heap.size_push, hD]
  have ho' : H0.get? S = some o := by rw [← hH0]; exact Heap.get?_push_of_some _ ho
  have hDl : H0.get? D = some { cls := .type "list", data := .seq #[] 0 } := by rw [← hH0, ← hD]; exact Heap.get?_push_size _ rfl
  have old0 : ∀ b ob, s.heap.get? b = some ob → H0.get? b = some ob := fun b ob e => by rw [← hH0]; exact Heap.get?_push_of_some _ e
  unfold Builtin.List.listExtendWith
  refine wpAny_bind (wpAny_typeOf (T := "set") ⟨o, ho', hex.1⟩ ?_)
  have h1 : Builtin.List.listSameRef (.ref D) (.ref S) = false := by simp [Builtin.List.listSameRef]; exact Nat.ne_of_gt hSD
  have h2 : (Value.type "set" == Value.type "list") = false := by decide
  have h3 : (Value.type "set" == Value.type "tuple") = false := by decide
  simp only [h1, h2, h3, Bool.or_false, Bool.false_eq_true, if_false]
  refine wpAny_bind (pyIter_set (s := { s with heap := H0 }) hl ho' hex hd ?_)
  generalize hI : H0.objs.size = I at *
  have W := (setWalks (prog := prog) (w := w) (A := A.in1) hh I S (Nat.ne_of_lt (by omega)) o ep l hl hd hsz).toS
  have key : ∀ (hp : Heap) (c tk : Nat), IsSetIt w hp I S l ep 0 → hp.get? S = some o → (∀ b ob, b ≠ D → H0.get? b = some ob → hp.get? b = some ob) → hp.get? D = some { cls := .type "list", data := .seq #[] c } →
      codeAny (model prog w) A (.builtin "list.extend.loop" ⟨[.ref D, .ref I, .ref D], []⟩) R { s with heap := hp, toks := tk } := by
    intro hp c tk hit hS hk hDl'
    refine codeAny_extend_loopS W (by rw [sizeLine_eq]; rcases hl with ⟨p, rfl, _⟩ | ⟨p, q, rfl, _⟩ <;> simp) D (by
      simp only [List.mem_cons, List.mem_singleton, List.not_mem_nil, or_false, not_or]
      exact ⟨Nat.ne_of_lt (by omega), Nat.ne_of_gt hSD⟩) (.ref D) l.length 0 _ #[] c rfl (Nat.zero_le _) ⟨hit, hS⟩ hDl' (ItemsOf.nil _) fun s' acc' c' hm hS' hacc => ?_
    rw [Moved.eq_with hm]
    refine hR { s with heap := s'.heap, toks := s'.toks } acc' c' hS' (h s'.heap s'.toks acc'.toList (fun b ob e => hm.heap b ob (fun hmem => ?_) (hk b ob ?_ (old0 b ob e))) ?_)
    · have hb : @LT.lt Nat instLTNat b D := by rw [← hD]; exact Heap.lt_size e
      rcases List.mem_cons.mp hmem with z | z
      · exact absurd z (Nat.ne_of_lt hb)
      · have z' : b = I := by simpa using z
        exact absurd z' (Nat.ne_of_lt (by omega))
    · have hb : @LT.lt Nat instLTNat b D := by rw [← hD]; exact Heap.lt_size e
      exact Nat.ne_of_lt hb
    · obtain ⟨hs, hi⟩ := hacc
      apply List.ext_getElem?
      intro j
      rw [List.getElem?_map, Array.getElem?_toList, Array.getElem?_toList]
      cases e : acc'[j]? with
      | none =>
        have hj : l.length ≤ j := by
          rw [← hs]
          exact Array.getElem?_eq_none_iff.mp e
        rw [Array.getElem?_eq_none (by omega)]
        rfl
      | some v =>
        obtain ⟨k, hk⟩ := hi j v e
        rw [hk]
        rfl
  have hit0 : IsSetIt w (H0.push { cls := .type "set_iterator", data := .fields #[rawInt (slotA w l 0 : Nat), rawInt ((0 : Nat) : Int), .ref S, rawInt (l.length : Nat), rawInt (ep : Nat)] }) I S l ep 0 := by
    rw [← hI]; exact Heap.get?_push_size _ rfl
  have hD1 := Heap.get?_push_of_some { cls := .type "set_iterator", data := .fields #[rawInt (slotA w l 0 : Nat), rawInt ((0 : Nat) : Int), .ref S, rawInt (l.length : Nat), rawInt (ep : Nat)] } hDl
  refine wpAny_bind (wpAny_holding (hint_set (s := { s with heap := H0.push { cls := .type "set_iterator", data := .fields #[rawInt (slotA w l 0 : Nat), rawInt ((0 : Nat) : Int), .ref S, rawInt (l.length : Nat), rawInt (ep : Nat)] } }) hl (Heap.get?_push_of_some _ ho') hex hd fun bb => ?_))
  have DI : D ≠ I := Nat.ne_of_lt (by omega)
  refine wpAny_ite_split (fun _ => ?_) (fun _ => wpAny_pure ⟨plainId_quiet PySem.F.plain_extend_loop _, key _ 0 _ hit0 (Heap.get?_push_of_some _ ho') (fun b ob _ e => Heap.get?_push_of_some _ e) hD1⟩)
  refine wpAny_bind (wpAny_rule ?_)
  refine wpAny_bind ?_
  show wpAny _ _ (updateSeq D (·.push .none) >>= fun _ => updateSeq D (·.pop)) _ _ _
  refine wpAny_bind (wpAny_updateSeq hD1 rfl ?_)
  have hS₂ := Heap.get?_update_self (Obj.mapSeq (·.push Value.none)) hD1 rfl
  refine wpAny_updateSeq (hz := by seq_fits) hS₂ rfl ?_
  have hS₃ := Heap.get?_update_self (Obj.mapSeq (·.pop)) hS₂ rfl
  refine wpAny_pure ⟨plainId_quiet PySem.F.plain_extend_loop _, key _ _ _ ?_ ?_ (fun b ob hb e => ?_) hS₃⟩
  · exact (Heap.get?_update_other _ _ DI).trans ((Heap.get?_update_other _ _ DI).trans hit0)
  · exact (Heap.get?_update_other _ _ (Nat.ne_of_gt hSD)).trans ((Heap.get?_update_other _ _ (Nat.ne_of_gt hSD)).trans (Heap.get?_push_of_some _ ho'))
  · exact (Heap.get?_update_other _ _ (Ne.symm hb)).trans ((Heap.get?_update_other _ _ (Ne.symm hb)).trans (Heap.get?_push_of_some _ e))
end
end L2
set_option Elab.async false
set_option linter.all false
set_option maxRecDepth 100000
namespace L2
open PySem PySem.Spec PyProof.Rows
theorem pick1 {α : Type} (next : Nat → Nat) (e : α) : pickOrder next #[e] = #[e] := by
  unfold pickOrder
  simp [pickOrder.go, Nat.mod_one]
theorem pick2 {α : Type} (next : Nat → Nat) (e f : α) : pickOrder next #[e, f] = #[e, f] ∨ pickOrder next #[e, f] = #[f, e] := by
  unfold pickOrder
  have h : next 0 % 2 = 0 ∨ next 0 % 2 = 1 := by omega
  rcases h with h | h
  · left; simp [pickOrder.go, h, Nat.mod_one]
  · right; simp [pickOrder.go, h, Nat.mod_one]
theorem ordE_cases {w : World} {S : Addr} {ep : Nat} {l : List (Nat × Tok)} (hl : Okl l) : ordE w S ep l = elts l ∨ ordE w S ep l = elts l.reverse := by
  unfold ordE
  by_cases hb : w.params.followText "set-order" = true
  · rw [if_pos hb]
    rcases hl with ⟨p, rfl, _⟩ | ⟨p, q, rfl, _⟩
    · exact .inl (pick1 _ _)
    · exact pick2 _ _ _
  · rw [if_neg hb]; exact .inl rfl
theorem ordE_size {w : World} {S : Addr} {ep : Nat} {l : List (Nat × Tok)} (hl : Okl l) : (ordE w S ep l).size = l.length := by
  rcases ordE_cases (w := w) (S := S) (ep := ep) hl with e | e
  · rw [e]; unfold elts; rw [List.size_toArray, List.length_map]
  · rw [e]; unfold elts; rw [List.size_toArray, List.length_map, List.length_reverse]
theorem ints_elts (l : List (Nat × Tok)) : IntsAre ((elts l).toList.map (·.2)) (l.map fun p => (p.1 : Int)) := by
  unfold elts
  rw [List.toList_toArray, List.map_map]
  induction l with
  | nil => exact .nil
  | cons p l ih => exact .cons _ p.2 ih
theorem ints_ord {w : World} {S : Addr} {ep : Nat} {l : List (Nat × Tok)} (hl : Okl l) : ∃ ns, IntsAre ((ordE w S ep l).toList.map (·.2)) ns ∧ ns.Perm (l.map fun p => (p.1 : Int)) := by
  rcases ordE_cases (w := w) (S := S) (ep := ep) hl with e | e
  · rw [e]; exact ⟨_, ints_elts l, List.Perm.refl _⟩
  · rw [e]; exact ⟨_, ints_elts l.reverse, by rw [List.map_reverse]; exact List.reverse_perm _⟩
def twoS (a b : Nat) : List Int := if a = b then [(a : Int)] else if a < b then [(a : Int), (b : Int)] else [(b : Int), (a : Int)]
theorem two_vals (a b : Nat) (t u : Tok) : (two a b t u).map (fun p => (p.1 : Int)) = twoS a b := by
  unfold two twoS
  split
  · rfl
  · split <;> rfl
theorem twoS_sorted (a b : Nat) : (twoS a b).Pairwise (· ≤ ·) := by
  unfold twoS
  split
  · exact List.pairwise_singleton _ _
  · split
    · refine List.pairwise_cons.mpr ⟨fun x hx => ?_, List.pairwise_singleton _ _⟩
      rw [List.mem_singleton.mp hx]; omega
    · refine List.pairwise_cons.mpr ⟨fun x hx => ?_, List.pairwise_singleton _ _⟩
      rw [List.mem_singleton.mp hx]; omega
theorem twoS_length (a b : Nat) : (twoS a b).length ≤ 2 := by
  unfold twoS
  split
  · simp
  · split <;> simp
def SetO (w : World) (p : Addr) (a b : Nat) : HO := .ext fun h => ∃ t u, SX (Led w) h p (two a b t u)
section
variable {X : Cx}
theorem call_set2 (hc : X.calm = true) : CallR X (.type "set") (fun xs H Q => ∃ (l : Addr) (a b : Nat), xs = [.ref l] ∧ SqL X.K H l [.int (a : Int), .int (b : Int)] ∧ a < 8 ∧ b < 8 ∧ ∀ p, H p = none → Q (.ref p) (upd H p (SetO X.w p a b))) := by
  intro pins s σ H xs us Q I r h
  obtain ⟨l, a, b, rfl, hL, ha, hb, q⟩ := h
  obtain ⟨u, rfl, rx⟩ := vals1 r
  cases rx
  obtain ⟨its, rv, pl, hz⟩ := I.list hL
  obtain ⟨u1, u2, rfl, ⟨t1, rfl⟩, ⟨t2, rfl⟩⟩ := vals2 rv
  refine call_set_two (I.ok.hd hc) pl.isList ha hb fun h' tk x kp => ?_
  have kp' : ∀ b o, s.heap.get? b = some o → h'.get? b = some o := fun b o e => kp b o (Heap.lt_size e) e
  have hf := I.hok.fresh (Nat.le_refl s.heap.objs.size)
  refine ⟨.ref s.heap.objs.size, _, I.laid (t' := tk) kp' (Nat.le_refl _) ?_, rfl, q _ hf⟩
  refine ⟨⟨t1, t2, x⟩, ?_, fun h1 h2 ⟨t, u, y⟩ k => ⟨t, u, y.keep k⟩⟩
  obtain ⟨o, ep, e, _⟩ := x
  exact ⟨o, e⟩
theorem call_sorted_set (hc : X.calm = true) : CallR X (.builtin "sorted") (fun xs H Q => ∃ (p : Addr) (a b : Nat), xs = [.ref p] ∧ H p = some (SetO X.w p a b) ∧ a < 8 ∧ b < 8 ∧ ∀ q, H q = none → Q (.ref q) (upd H q (.lst ((twoS a b).map V.int)))) := by
  intro pins s σ H xs us Q I r h
  obtain ⟨p, a, b, rfl, hp, ha, hb, q⟩ := h
  obtain ⟨u, rfl, rx⟩ := vals1 r
  cases rx
  obtain ⟨⟨t, u, o, ep, ho, hex, hd⟩, _, _⟩ := I.hok p _ hp
  have hl : Okl (two a b t u) := two_ok ha hb
  obtain ⟨ns, hi, hperm⟩ := ints_ord (w := X.w) (S := p) (ep := ep) hl
  have hlen : ns.length ≤ 2 := by rw [hperm.length_eq, two_vals]; exact twoS_length a b
  refine sorted_of (ns := ns) (by omega) (fun Q' hQ' => ?_) fun h1 h' tk out ns' k1 k2 pl hi' hp' ho' => ?_
  · exact collect_set (A := X.A.in1) (I.ok.hd hc) hl ho hex hd (ordE_size hl) fun h' tk vs kp e => hQ' h' tk vs kp (by rw [e]; exact hi)
  · have I1 : Inv X pins σ H { s with heap := h1, toks := tk } := I.kept k1
    have hf := I1.hok.fresh (Nat.le_refl _)
    have en : ns' = twoS a b := PySem.W.ksm_same (hp'.trans (by rw [← two_vals a b t u]; exact hperm)) ho' (twoS_sorted a b)
    subst en
    have hl2 := twoS_length a b
    obtain ⟨n, e⟩ := pl
    have I2 : Inv X pins σ (upd H h1.objs.size (.lst ((twoS a b).map V.int))) { s with heap := h', toks := tk } :=
      I1.laid (t' := tk) k2 (Nat.le_refl _) (show ObjOk X.prog X.w _ _ _ (.lst _) from ⟨by rw [List.length_map, sizeLine_eq]; omega, out.toList, n, vals_ints hi', by simpa using e⟩)
    exact ⟨.ref h1.objs.size, _, I2, rfl, q _ hf⟩
end
end L2
set_option Elab.async false
set_option linter.all false
set_option maxRecDepth 100000
namespace L2
open PySem PySem.Spec PyProof.Rows

structure Sub (prog : Program) (w : World) (i l : Addr) (n : Nat) (P : Nat → Value → Prop) (st : Nat → Heap → Prop) : Prop where
  keep : ∀ k h h', st k h → (∀ b, b = i ∨ b = l → ∀ o, h.get? b = some o → h'.get? b = some o) → st k h'
  obj : ∀ k h, st k h → (∃ o, h.get? i = some o ∧ ∀ v, o.data ≠ .cell v) ∧ ∃ o, h.get? l = some o
  item : ∀ (A : Around) k (s : Shared) (Q : Value → Shared → Prop) (E : Value → Shared → Prop), k < n → st k s.heap → (∀ v h', P k v → st (k + 1) h' → Heap.SameBut i s.heap h' → Q v { s with heap := h' }) → wpAny (model prog w) A (Builtin.SmallTypes.nextOf (.ref i)) Q E s
  done : ∀ (A : Around) (s : Shared) (Q : Value → Shared → Prop) (E : Value → Shared → Prop), A.handled = none → st n s.heap → (∀ h' e, Heap.ExtBut i s.heap h' → (∃ o, h'.get? e = some o ∧ o.cls = .type "StopIteration") → E (.ref e) { s with heap := h' }) →
    wpAny (model prog w) A (Builtin.SmallTypes.nextOf (.ref i)) Q E s
theorem sub_list (prog : Program) (w : World) (i l : Addr) (items : Array Value) (hne : l ≠ i) : Sub prog w i l items.size (fun k v => items[k]? = some v) (fun k h => h.IsListIter i l k ∧ h.IsList l items) where
  keep := fun k h h' st kp => ⟨st.1.at fun o e => kp i (.inl rfl) o e, st.2.at fun o e => kp l (.inr rfl) o e⟩
  obj := fun k h st => by
    obtain ⟨⟨o, e, _, d⟩, ⟨o2, e2, _⟩⟩ := st
    exact ⟨⟨o, e, fun v z => by rw [d] at z; cases z⟩, o2, e2⟩
  item := fun A k s Q E hk st hQ => wpAny_nextOf_list_item st.1 st.2 (Array.getElem?_eq_getElem hk) fun h' a b => hQ _ h' (Array.getElem?_eq_getElem hk) ⟨a, st.2.at fun o e => b.extBut l o hne e⟩ b
  done := fun A s Q E hh st hE => wpAny_nextOf_list_end hh st.1 st.2 (Array.getElem?_eq_none (Nat.le_refl _)) hE
theorem nextOf_tuple_item {prog : Program} {w : World} {A : Around} {E : Value → Shared → Prop} {s : Shared} {it t : Addr} {i : Nat} {items : Array Value} {x : Value} {Q : Value → Shared → Prop} (hit : s.heap.IsTupleIter it t i) (ht : s.heap.IsTuple t items) (hx : items[i]? = some x)
    (hQ : ∀ h', h'.IsTupleIter it t (i + 1) → Heap.SameBut it s.heap h' → Q x { s with heap := h' }) : wpAny (model prog w) A (Builtin.SmallTypes.nextOf (.ref it)) Q E s := by
  obtain ⟨o, ho, hc, hd⟩ := id hit
  obtain ⟨ol, hol, _, nl, hdl⟩ := ht
  have hT := hit.typeIs
  unfold Builtin.SmallTypes.nextOf
  refine wpAny_bind (wpAny_callSpecial?_slot (name := Str.ofString "__next__") hT PySem.F.slot_tuple_iterator_next (wpAny_call_entry PySem.F.slot_tuple_iterator_next hT PySem.F.entry_tuple_iterator_next ?_ (PySem.F.args_tuple_iterator_next_1 _)))
  refine wpAny_bind (m := field (.ref it) 0) (wpAny_field ho hd (x := .ref t) rfl ?_)
  have hno : ¬ ((Value.ref t == Value.none) = true) := Bool.false_ne_true
  show wpAny _ _ (if (Value.ref t == Value.none) = true then _ else _) _ _ s
  rw [if_neg hno]
  refine wpAny_bind (m := field (.ref it) 1) (wpAny_field ho hd (x := .int i 0) rfl ?_)
  refine wpAny_bind (m := seqItems? (.ref t)) (wpAny_seqItems hol hdl ?_)
  simp only [Int.toNat_natCast, hx]
  refine wpAny_bind (wpAny_setField ho hd (by simp) (wpAny_pure ⟨x, rfl, wpAny_pure (hQ _ ?_ (Heap.SameBut.update ..))⟩))
  refine ⟨_, Heap.get?_update_self _ ho (Obj.isFreed_of_fields (Obj.data_mapFields hd _)), (Obj.cls_mapFields ..).trans hc, ?_⟩
  rw [Obj.data_mapFields hd]
  simp [rawInt]
theorem nextOf_tuple_end {prog : Program} {w : World} {A : Around} {E : Value → Shared → Prop} {s : Shared} {it t : Addr} {i : Nat} {items : Array Value} {Q : Value → Shared → Prop} (hh : A.handled = none) (hit : s.heap.IsTupleIter it t i) (ht : s.heap.IsTuple t items) (hx : items[i]? = none)
    (hE : ∀ h' e, Heap.ExtBut it s.heap h' → (∃ o, h'.get? e = some o ∧ o.cls = .type "StopIteration") → E (.ref e) { s with heap := h' }) : wpAny (model prog w) A (Builtin.SmallTypes.nextOf (.ref it)) Q E s := by
  obtain ⟨o, ho, hc, hd⟩ := id hit
  obtain ⟨ol, hol, _, nl, hdl⟩ := ht
  have hT := hit.typeIs
  unfold Builtin.SmallTypes.nextOf
  refine wpAny_bind (wpAny_callSpecial?_slot (name := Str.ofString "__next__") hT PySem.F.slot_tuple_iterator_next (wpAny_call_entry PySem.F.slot_tuple_iterator_next hT PySem.F.entry_tuple_iterator_next ?_ (PySem.F.args_tuple_iterator_next_1 _)))
  refine wpAny_bind (m := field (.ref it) 0) (wpAny_field ho hd (x := .ref t) rfl ?_)
  have hno : ¬ ((Value.ref t == Value.none) = true) := Bool.false_ne_true
  show wpAny _ _ (if (Value.ref t == Value.none) = true then _ else _) _ _ s
  rw [if_neg hno]
  refine wpAny_bind (m := field (.ref it) 1) (wpAny_field ho hd (x := .int i 0) rfl ?_)
  refine wpAny_bind (m := seqItems? (.ref t)) (wpAny_seqItems hol hdl ?_)
  simp only [Int.toNat_natCast, hx]
  refine wpAny_bind (wpAny_rule (wpAny_bind (wpAny_setField ho hd (by simp) ?_)))
  refine wpAny_bind (m := newExc (.type "StopIteration") []) ?_
  simp only [newExc, newTuple]
  refine wpAny_bind (wpAny_newObj_type ?_ (by size_fits))
  refine wpAny_bind (m := firstArgMember _ _) (wpAny_of_eq (a := Value.none) (by first | rfl | (simp only [firstArgMember]; rfl)) ?_)
  refine wpAny_newObj_type ?_ (by size_fits)
  simp only [raiseNew]
  refine wpAny_bind (wpAny_handled ?_)
  first | rw [show A.in1.handled = none from hh] | rw [hh]
  refine wpAny_bind (wpAny_pure (wpAny_throw ?_))
  exact hE _ _ (((Heap.SameBut.update ..).extBut.push _).push _) ⟨_, Heap.get?_push_size _ rfl, rfl⟩
theorem sub_tuple (prog : Program) (w : World) (i l : Addr) (items : Array Value) (hne : l ≠ i) : Sub prog w i l items.size (fun k v => items[k]? = some v) (fun k h => h.IsTupleIter i l k ∧ h.IsTuple l items) where
  keep := fun k h h' st kp => ⟨st.1.at fun o e => kp i (.inl rfl) o e, by obtain ⟨o, e, r⟩ := st.2; exact ⟨o, kp l (.inr rfl) o e, r⟩⟩
  obj := fun k h st => by
    obtain ⟨⟨o, e, _, d⟩, ⟨o2, e2, _⟩⟩ := st
    exact ⟨⟨o, e, fun v z => by rw [d] at z; cases z⟩, o2, e2⟩
  item := fun A k s Q E hk st hQ => nextOf_tuple_item st.1 st.2 (Array.getElem?_eq_getElem hk) fun h' a b => hQ _ h' (Array.getElem?_eq_getElem hk) ⟨a, by obtain ⟨o, e, r⟩ := st.2; exact ⟨o, b.extBut l o hne e, r⟩⟩ b
  done := fun A s Q E hh st hE => nextOf_tuple_end hh st.1 st.2 (Array.getElem?_eq_none (Nat.le_refl _)) hE

section
variable {prog : Program} {w : World} {A : Around} {E : Value → Shared → Prop} {s : Shared} {z TI TO i1 i2 l1 l2 : Addr} {n1 n2 : Nat} {P1 P2 : Nat → Value → Prop} {st1 st2 : Nat → Heap → Prop}
theorem zipItem {k : Nat} {a b : Value} {Q : Value → Shared → Prop} (D : ZipApart z TI TO i1 i2 l1 l2) (S1 : Sub prog w i1 l1 n1 P1 st1) (S2 : Sub prog w i2 l2 n2 P2 st2)
    (hz : IsZip s.heap z TI TO .none) (hTI : IsPair s.heap TI (.ref i1) (.ref i2)) (hTO : IsPair s.heap TO a b) (h1 : st1 k s.heap) (h2 : st2 k s.heap) (k1 : k < n1) (k2 : k < n2)
    (hQ : ∀ h' x y, P1 k x → P2 k y → IsZip h' z TI TO (rawInt s.heap.objs.size) → IsPair h' TO x y → st1 (k + 1) h' → st2 (k + 1) h' → IsPair h' s.heap.objs.size x y →
      (∀ c o, c ≠ z → c ≠ TO → c ≠ i1 → c ≠ i2 → s.heap.get? c = some o → h'.get? c = some o) → Q (.ref s.heap.objs.size) { s with heap := h' }) :
    wpAny (model prog w) A (Builtin.«zip.__next__» ⟨[.ref z], []⟩) (fun fin s' => ∃ v, fin = .done (.ret v) ∧ Q v s') E s := by
  refine wpAny_bind (m := field (.ref z) 2) (wpAny_field hz rfl (x := .bool false) rfl ?_)
  refine wpAny_bind (m := field (.ref z) 3) (wpAny_field hz rfl (x := .ref TI) rfl ?_)
  refine wpAny_bind (wpAny_seqItems hTI rfl ?_)
  refine wpAny_bind (m := Builtin.SmallTypes.ownedTupleIsFree (.ref z)) ?_
  unfold Builtin.SmallTypes.ownedTupleIsFree
  refine wpAny_bind (wpAny_field hz rfl (x := .none) rfl (wpAny_pure ?_))
  simp only [if_true]
  refine wpAny_bind (wpAny_rule ?_)
  refine wpAny_bind (wpAny_field hz rfl (x := .ref TO) rfl ?_)
  refine wpAny_bind (wpAny_setField_rec hz (by simp) fun g1 hz1 b1 => ?_)
  have hz1' : IsZip g1 z TI TO .ellipsis := hz1
  refine wpAny_bind ?_
  simp only [List.zipIdx_cons, List.zipIdx_nil, List.forIn_cons, List.forIn_nil]
  -- the first one
  have s1 : st1 k g1 := S1.keep _ _ _ h1 fun c hc o e => b1.extBut c o (by rcases hc with r | r <;> rw [r]; exact D.i1z; exact D.l1z) e
  refine wpAny_bind (wpAny_bind (wpAny_onRaise ?_))
  refine wpAny_bind (m := Builtin.SmallTypes.nextOf (.ref i1)) (S1.item _ k _ _ _ k1 s1 fun x g2 px t1 b2 => wpAny_pure ?_)
  have o2 : IsPair g2 TO a b := b2.extBut _ _ D.TOi1 (b1.extBut _ _ D.TOz hTO)
  refine wpAny_bind (wpAny_seqItems o2 rfl ?_)
  refine wpAny_bind (wpAny_updateSeq_pair o2 fun g3 o3 b3 => ?_)
  have o3' : IsPair g3 TO x b := o3
  refine wpAny_bind (wpAny_letGo (wpAny_pure ?_))
  -- the second one
  have s2 : st2 k g3 := S2.keep _ _ _ h2 fun c hc o e => by
    rcases hc with r | r
    · rw [r] at e ⊢; exact b3.extBut _ _ D.TOi2.symm (b2.extBut _ _ D.i12.symm (b1.extBut _ _ D.i2z e))
    · rw [r] at e ⊢; exact b3.extBut _ _ D.l2TO (b2.extBut _ _ D.l2i1 (b1.extBut _ _ D.l2z e))
  refine wpAny_bind (wpAny_bind (wpAny_onRaise ?_))
  refine wpAny_bind (m := Builtin.SmallTypes.nextOf (.ref i2)) (S2.item _ k _ _ _ k2 s2 fun y g4 py t2 b4 => wpAny_pure ?_)
  have o4 : IsPair g4 TO x b := b4.extBut _ _ D.TOi2 o3'
  refine wpAny_bind (wpAny_seqItems o4 rfl ?_)
  refine wpAny_bind (wpAny_updateSeq_pair o4 fun g5 o5 b5 => ?_)
  have o5' : IsPair g5 TO x y := o5
  refine wpAny_bind (wpAny_letGo (wpAny_pure (wpAny_pure ?_)))
  refine wpAny_bind (wpAny_seqItems o5' rfl ?_)
  refine wpAny_bind (wpAny_newTuple ?_)
  have sz : g5.objs.size = s.heap.objs.size := by rw [b5.1, b4.1, b3.1, b2.1, b1.1]
  have z5 : IsZip g5 z TI TO .ellipsis := b5.extBut _ _ D.TOz.symm (b4.extBut _ _ D.i2z.symm (b3.extBut _ _ D.TOz.symm (b2.extBut _ _ D.i1z.symm hz1')))
  have kp5 : ∀ c o, c ≠ z → c ≠ TO → c ≠ i1 → c ≠ i2 → s.heap.get? c = some o → g5.get? c = some o := fun c o c1 c2 c3 c4 e =>
    b5.extBut _ _ c2 (b4.extBut _ _ c4 (b3.extBut _ _ c2 (b2.extBut _ _ c3 (b1.extBut _ _ c1 e))))
  have t1' : st1 (k + 1) g5 := S1.keep _ _ _ t1 fun c hc o e => by
    rcases hc with r | r
    · rw [r] at e ⊢; exact b5.extBut _ _ D.TOi1.symm (b4.extBut _ _ D.i12 (b3.extBut _ _ D.TOi1.symm e))
    · rw [r] at e ⊢; exact b5.extBut _ _ D.l1TO (b4.extBut _ _ D.l1i2 (b3.extBut _ _ D.l1TO e))
  have t2' : st2 (k + 1) g5 := S2.keep _ _ _ t2 fun c hc o e => by
    rcases hc with r | r
    · rw [r] at e ⊢; exact b5.extBut _ _ D.TOi2.symm e
    · rw [r] at e ⊢; exact b5.extBut _ _ D.l2TO e
  have zlt : g5.objs.size ≠ z := Nat.ne_of_gt (Heap.lt_size z5)
  refine wpAny_bind (m := Builtin.SmallTypes.ownedTupleHandOut (.ref z) (.ref g5.objs.size)) ?_
  unfold Builtin.SmallTypes.ownedTupleHandOut
  have z6 : IsZip (g5.push { cls := .type "tuple", data := .seq #[x, y] }) z TI TO .ellipsis := Heap.get?_push_of_some _ z5
  refine wpAny_bind (wpAny_setField_rec z6 (by simp) fun g7 z7 b7 => ?_)
  have z7' : IsZip g7 z TI TO (rawInt g5.objs.size) := z7
  refine wpAny_setField_rec z7' (by simp) fun g8 z8 b8 => ?_
  have z8' : IsZip g8 z TI TO (rawInt g5.objs.size) := z8
  have up : ∀ c o, c ≠ z → g5.get? c = some o → g8.get? c = some o := fun c o c1 e => b8.extBut _ _ c1 (b7.extBut _ _ c1 (Heap.get?_push_of_some _ e))
  have T8 : IsPair g8 g5.objs.size x y := b8.extBut _ _ zlt (b7.extBut _ _ zlt (Heap.get?_push_size _ rfl))
  rw [sz] at z8' T8
  refine wpAny_pure ⟨_, rfl, ?_⟩
  show Q (.ref g5.objs.size) _
  rw [sz]
  refine hQ g8 x y px py z8' (up _ _ D.TOz o5') (S1.keep _ _ _ t1' fun c hc o e => up c o (by rcases hc with r | r <;> rw [r]; exact D.i1z; exact D.l1z) e) (S2.keep _ _ _ t2' fun c hc o e => up c o (by rcases hc with r | r <;> rw [r]; exact D.i2z; exact D.l2z) e) T8 fun c o c1 c2 c3 c4 e => up c o c1 (kp5 c o c1 c2 c3 c4 e)
theorem zipEnd {k : Nat} {a b : Value} {Q : Fin → Shared → Prop} (hh : A.handled = none) (D : ZipApart z TI TO i1 i2 l1 l2) (S1 : Sub prog w i1 l1 n1 P1 st1) (S2 : Sub prog w i2 l2 n2 P2 st2)
    (hz : IsZip s.heap z TI TO .none) (hTI : IsPair s.heap TI (.ref i1) (.ref i2)) (hTO : IsPair s.heap TO a b) (h1 : st1 k s.heap) (h2 : st2 k s.heap) (hend : k = n1 ∧ k ≤ n2 ∨ k = n2 ∧ k < n1)
    (hE : ∀ h' e, (∀ c o, c ≠ z → c ≠ TO → c ≠ i1 → c ≠ i2 → s.heap.get? c = some o → h'.get? c = some o) → (∃ o, h'.get? e = some o ∧ o.cls = .type "StopIteration") → E (.ref e) { s with heap := h' }) :
    wpAny (model prog w) A (Builtin.«zip.__next__» ⟨[.ref z], []⟩) Q E s := by
  refine wpAny_bind (m := field (.ref z) 2) (wpAny_field hz rfl (x := .bool false) rfl ?_)
  refine wpAny_bind (m := field (.ref z) 3) (wpAny_field hz rfl (x := .ref TI) rfl ?_)
  refine wpAny_bind (wpAny_seqItems hTI rfl ?_)
  refine wpAny_bind (m := Builtin.SmallTypes.ownedTupleIsFree (.ref z)) ?_
  unfold Builtin.SmallTypes.ownedTupleIsFree
  refine wpAny_bind (wpAny_field hz rfl (x := .none) rfl (wpAny_pure ?_))
  simp only [if_true]
  refine wpAny_bind (wpAny_rule ?_)
  refine wpAny_bind (wpAny_field hz rfl (x := .ref TO) rfl ?_)
  refine wpAny_bind (wpAny_setField_rec hz (by simp) fun g1 hz1 b1 => ?_)
  have hz1' : IsZip g1 z TI TO .ellipsis := hz1
  refine wpAny_bind ?_
  simp only [List.zipIdx_cons, List.zipIdx_nil, List.forIn_cons, List.forIn_nil]
  have s1 : st1 k g1 := S1.keep _ _ _ h1 fun c hc o e => b1.extBut c o (by rcases hc with r | r <;> rw [r]; exact D.i1z; exact D.l1z) e
  refine wpAny_bind (wpAny_bind (wpAny_onRaise ?_))
  have fin : ∀ (g : Heap) (e : Addr) (g0 : Heap), (∃ o, g.get? e = some o ∧ o.cls = .type "StopIteration") → IsZip g z TI TO .ellipsis → (∀ c o, c ≠ z → c ≠ TO → c ≠ i1 → c ≠ i2 → s.heap.get? c = some o → g.get? c = some o) →
      wpAny (model prog w) A (setField (.ref z) 0 .none) (fun _ s' => E (.ref e) s') E { s with heap := g } := fun g e g0 ⟨oe, hoe, hce⟩ hzz kp => by
    have hez : e ≠ z := fun q => by rw [q, hzz] at hoe; cases hoe; simp at hce
    exact wpAny_setField_rec hzz (by simp) fun g' _ b' => hE g' e (fun c o c1 c2 c3 c4 q => b'.extBut _ _ c1 (kp c o c1 c2 c3 c4 q)) ⟨oe, b'.extBut _ _ hez hoe, hce⟩
  rcases hend with ⟨e1, _⟩ | ⟨e2, k1⟩
  · rw [e1] at s1
    refine wpAny_bind (m := Builtin.SmallTypes.nextOf (.ref i1)) (S1.done _ _ _ _ hh s1 fun g2 e b2 he => ?_)
    exact fin g2 e g1 he (b2 _ _ D.i1z.symm hz1') fun c o c1 _ c3 _ q => b2 _ _ c3 (b1.extBut _ _ c1 q)
  · refine wpAny_bind (m := Builtin.SmallTypes.nextOf (.ref i1)) (S1.item _ k _ _ _ k1 s1 fun x g2 px t1 b2 => wpAny_pure ?_)
    have o2 : IsPair g2 TO a b := b2.extBut _ _ D.TOi1 (b1.extBut _ _ D.TOz hTO)
    refine wpAny_bind (wpAny_seqItems o2 rfl ?_)
    refine wpAny_bind (wpAny_updateSeq_pair o2 fun g3 o3 b3 => ?_)
    refine wpAny_bind (wpAny_letGo (wpAny_pure ?_))
    have s2 : st2 n2 g3 := by
      rw [← e2]
      exact S2.keep _ _ _ h2 fun c hc o e => by
        rcases hc with r | r
        · rw [r] at e ⊢; exact b3.extBut _ _ D.TOi2.symm (b2.extBut _ _ D.i12.symm (b1.extBut _ _ D.i2z e))
        · rw [r] at e ⊢; exact b3.extBut _ _ D.l2TO (b2.extBut _ _ D.l2i1 (b1.extBut _ _ D.l2z e))
    refine wpAny_bind (wpAny_bind (wpAny_onRaise ?_))
    refine wpAny_bind (m := Builtin.SmallTypes.nextOf (.ref i2)) (S2.done _ _ _ _ hh s2 fun g4 e b4 he => ?_)
    exact fin g4 e g3 he (b4 _ _ D.i2z.symm (b3.extBut _ _ D.TOz.symm (b2.extBut _ _ D.i1z.symm hz1'))) fun c o c1 c2 c3 c4 q => b4 _ _ c4 (b3.extBut _ _ c2 (b2.extBut _ _ c3 (b1.extBut _ _ c1 q)))
end
end L2
set_option Elab.async false
set_option linter.all false
set_option maxRecDepth 100000
namespace L2
open PySem PySem.Spec PyProof.Rows
inductive Sk where
  | l | t
def SqK (k : Sk) (K : PySem.W.Frag) (H : Hp) (a : Addr) (xs : List V) : Prop := match k with | .l => SqL K H a xs | .t => SqT K H a xs
def AtK (k : Sk) (h : Heap) (a : Addr) (its : Array Value) : Prop := match k with | .l => h.IsList a its | .t => h.IsTuple a its
def ItK (k : Sk) (h : Heap) (i a : Addr) (n : Nat) : Prop := match k with | .l => h.IsListIter i a n | .t => h.IsTupleIter i a n
def itK (k : Sk) (a : Addr) : Obj := match k with | .l => { cls := .type "list_iterator", data := .fields #[.ref a, .int 0 0] } | .t => { cls := .type "tuple_iterator", data := .fields #[.ref a, .int 0 0] }
theorem ItK.new (k : Sk) (h : Heap) (a : Addr) : ItK k (h.push (itK k a)) h.objs.size a 0 := by
  cases k
  · exact ⟨_, Heap.get?_push_size _ rfl, rfl, rfl⟩
  · exact ⟨_, Heap.get?_push_size _ rfl, rfl, rfl⟩
theorem ItK.obj {k : Sk} {h : Heap} {i a : Addr} {n : Nat} (x : ItK k h i a n) : ∃ o, h.get? i = some o ∧ ∀ v, o.data ≠ .cell v := by
  cases k
  · obtain ⟨o, e, _, d⟩ := x; exact ⟨o, e, fun v z => by rw [d] at z; cases z⟩
  · obtain ⟨o, e, _, d⟩ := x; exact ⟨o, e, fun v z => by rw [d] at z; cases z⟩
theorem ItK.at {k : Sk} {h h' : Heap} {i a : Addr} {n : Nat} (x : ItK k h i a n) (kp : ∀ o, h.get? i = some o → h'.get? i = some o) : ItK k h' i a n := by
  cases k
  · exact Heap.IsListIter.at x kp
  · exact Heap.IsTupleIter.at x kp
theorem AtK.at {k : Sk} {h h' : Heap} {a : Addr} {its : Array Value} (x : AtK k h a its) (kp : ∀ o, h.get? a = some o → h'.get? a = some o) : AtK k h' a its := by
  cases k
  · exact Heap.IsList.at x kp
  · obtain ⟨o, e, r⟩ := x; exact ⟨o, kp o e, r⟩
theorem subK (k : Sk) (prog : Program) (w : World) (i l : Addr) (items : Array Value) (hne : l ≠ i) : Sub prog w i l items.size (fun j v => items[j]? = some v) (fun j h => ItK k h i l j ∧ AtK k h l items) := by
  cases k
  · exact sub_list prog w i l items hne
  · exact sub_tuple prog w i l items hne
theorem iterK {prog : Program} {w : World} {A : Around} {E : Value → Shared → Prop} {s : Shared} {k : Sk} {a : Addr} {its : Array Value} {Q : Value → Shared → Prop} (h : AtK k s.heap a its) (hQ : Q (.ref s.heap.objs.size) { s with heap := s.heap.push (itK k a) }) : wpAny (model prog w) A (pyIter (.ref a)) Q E s := by
  cases k
  · exact wpAny_pyIter_list h hQ
  · exact wpAny_pyIter_tuple h hQ
section
variable {X : Cx} {pins : List (Addr × Obj)} {σ : St} {H : Hp} {s : Shared}
theorem Inv.seqK (I : Inv X pins σ H s) {k : Sk} {a : Addr} {xs : List V} (h : SqK k X.K H a xs) : ∃ its : List Value, Vals xs its ∧ AtK k s.heap a its.toArray := by
  cases k
  · obtain ⟨its, r, p, _⟩ := I.list h; exact ⟨its, r, p.isList⟩
  · obtain ⟨its, r, p, _⟩ := I.tuple h; exact ⟨its, r, p⟩
theorem Inv.seqK_inj (I : Inv X pins σ H s) {k : Sk} {a : Addr} {xs ys : List V} (h : SqK k X.K H a xs) (h' : SqK k X.K H a ys) : xs = ys := by
  cases k
  · exact I.list_inj h h'
  · exact I.tuple_inj h h'
theorem Inv.seq_ne (I : Inv X pins σ H s) {k : Sk} {a b : Addr} {xs : List V} (h : SqK k X.K H a xs) (f : FpOk X pins H b) : a ≠ b := by
  have rd : ∀ {u : HO}, Rd H a u → a ≠ b := fun {u} r z => by
    rcases r with r | ⟨o, r⟩ <;> (rw [z, f.1] at r; cases r)
  have kk : ∀ {o : Obj}, X.K.lookup a = some o → a ≠ b := fun {o} e z => by
    have e1 := I.ok.mod.kin a o e
    rcases f.2.2.2.1 with q | q
    · exact I.ok.noex a o e1 (z ▸ q)
    · exact Nat.lt_irrefl _ (Nat.lt_of_lt_of_le (Heap.lt_size (I.ok.bs a o e1).1) (z ▸ q))
  cases k
  · rcases h with h | ⟨o, _, _, e, _⟩
    · exact rd h
    · exact kk e
  · rcases h with h | ⟨o, _, _, e, _⟩
    · exact rd h
    · exact kk e
theorem Inv.turnedL {h' : Heap} {t' : Nat} (ch : List Addr) (I : Inv X pins σ H s) (k : ∀ b o, b ∉ ch → s.heap.get? b = some o → h'.get? b = some o) (f : ∀ b ∈ ch, FpOk X pins H b) : Inv X pins σ H { s with heap := h', toks := t' } := by
  have nit : ∀ b u, H b = some u → b ∉ ch := fun b u e z => by rw [(f b z).1] at e; cases e
  have nL : X.env.locals ∉ ch := fun z => (f _ z).2.1 rfl
  refine I.step (g' := s.gens) (d' := s.drawn) (ch := ch) (fun b hb => ⟨(f b hb).2.2.2.1, (f b hb).2.1, (f b hb).2.2.2.2.1, (f b hb).2.2.2.2.2⟩) (fun b o _ _ hc e _ => k b o hc e) (fun b o _ _ hc e _ => ⟨o.slots, k b o hc e⟩) (fun _ _ _ _ n => n)
    (fun b o hc e => ⟨o, k b o hc e⟩) (fun _ _ e => e) (fun _ _ _ e => e) (fun b ps e => ⟨#[], by rw [e]; simp⟩) (fun m hm => ?_) (fun b u e => ?_) I.bare
  · obtain ⟨o, es, ep, ho, r⟩ := hm
    exact ⟨o, es, ep, k _ o nL ho, r⟩
  · refine (I.hok b u e).stay (fun c v hc q => k c v ?_ q) (fun _ q => q) fun _ _ q => q
    rcases hc with z | z
    · rw [z]; exact nit b u e
    · exact nit c _ z
theorem Inv.trackO {D : Addr} {u : HO} (I : Inv X pins σ H s) (new : ObjOk X.prog X.w (upd H D u) s.heap D u) (hn : H D = none) (hL : D ≠ X.env.locals)
    (h1 : X.s₀.heap.objs.size ≤ D) (h2 : ∀ x c, X.env.cells.lookup x = some c → c ≠ D) (h3 : ∀ p ∈ X.pn ++ pins, p.1 ≠ D) : Inv X pins σ (upd H D u) s := by
  have ne : ∀ b v, H b = some v → b ≠ D := fun b v e z => by rw [z, hn] at e; cases e
  refine I.step (g' := s.gens) (d' := s.drawn) (t' := s.toks) (h' := s.heap) (ch := [D]) (fun b hb => ?_) (fun b o _ _ _ e _ => e) (fun b o _ _ _ e _ => ⟨o.slots, e⟩) (fun b o hc _ n => ?_) (fun b o _ e => ⟨o, e⟩)
    (fun b xs e => by rw [upd_ne (ne b _ e)]; exact e) (fun b o v e => by rw [upd_ne (ne b _ e)]; exact e) (fun b ps e => ⟨#[], by rw [upd_ne (ne b _ e), e]; simp⟩) (fun _ h => h) (fun b v e => ?_) I.bare
  · have e : b = D := by simpa using hb
    subst e
    exact ⟨.inr h1, hL, h2, h3⟩
  · rw [upd_ne (by simpa using hc)]; exact n
  · by_cases hb : b = D
    · subst hb
      rw [upd_same] at e; cases e
      exact new
    · rw [upd_ne hb] at e
      exact (I.hok b v e).stay (fun c v _ q => q) (fun c q => by rw [upd_ne (ne c _ q)]; exact q) fun c xs q => by rw [upd_ne (ne c _ q)]; exact q
end

def Itz (K : PySem.W.Frag) (k1 k2 : Sk) (a b : Addr) : It :=
  ⟨fun i H => ∃ xs ys x y, SqK k1 K H a xs ∧ SqK k2 K H b ys ∧ xs[i]? = some x ∧ ys[i]? = some y,
   fun i H v H' => ∃ p, H p = none ∧ v = .ref p ∧ ∀ xs ys, SqK k1 K H a xs → SqK k2 K H b ys → ∃ x y, xs[i]? = some x ∧ ys[i]? = some y ∧ H' = upd H p (.tup [x, y]),
   fun i H => ∃ xs ys, SqK k1 K H a xs ∧ SqK k2 K H b ys ∧ min xs.length ys.length = i⟩
theorem turn_zip {P : Program} {w : World} {K : PySem.W.Frag} {es : List Expr} {x1} {pos : Pos} (k1 k2 : Sk) (a b z TI TO i1 i2 : Addr) (D : ∀ l1 l2 : Addr, (∀ c ∈ [z, TI, TO, i1, i2], l1 ≠ c) → (∀ c ∈ [z, TI, TO, i1, i2], l2 ≠ c) → ZipApart z TI TO i1 i2 l1 l2) :
    Turn P w K (.Tuple es x1 pos) (Itz K k1 k2 a b) [z, TI, TO, i1, i2] z (fun i h => IsZip h z TI TO .none ∧ IsPair h TI (.ref i1) (.ref i2) ∧ (∃ x y, IsPair h TO x y) ∧ ItK k1 h i1 a i ∧ ItK k2 h i2 b i) where
  mem := by simp
  obj := fun i h st c hc => by
    obtain ⟨hz, hTI, ⟨x, y, hTO⟩, h1, h2⟩ := st
    simp only [List.mem_cons, List.not_mem_nil, or_false] at hc
    rcases hc with rfl | rfl | rfl | rfl | rfl
    · exact ⟨_, hz, fun v q => by cases q⟩
    · exact ⟨_, hTI, fun v q => by cases q⟩
    · exact ⟨_, hTO, fun v q => by cases q⟩
    · exact h1.obj
    · exact h2.obj
  keep := fun i h h' st k => by
    obtain ⟨hz, hTI, ⟨x, y, hTO⟩, h1, h2⟩ := st
    exact ⟨k z (by simp) _ hz, k TI (by simp) _ hTI, ⟨x, y, k TO (by simp) _ hTO⟩, h1.at fun o e => k i1 (by simp) o e, h2.at fun o e => k i2 (by simp) o e⟩
  item := by
    intro X hP hw hK hc i pins s σ H E I hf st hg
    subst hP hw hK
    obtain ⟨hz, hTI, ⟨x0, y0, hTO⟩, h1, h2⟩ := st
    obtain ⟨xs, ys, x, y, ha, hb, hx, hy⟩ := hg
    obtain ⟨its, rv, pa⟩ := I.seqK ha
    obtain ⟨jts, rw', pb⟩ := I.seqK hb
    obtain ⟨u, hu, ru⟩ := rv.get hx
    obtain ⟨v, hv, rv2⟩ := rw'.get hy
    have na : ∀ c ∈ [z, TI, TO, i1, i2], a ≠ c := fun c hc' => I.seq_ne ha (hf c hc')
    have nb : ∀ c ∈ [z, TI, TO, i1, i2], b ≠ c := fun c hc' => I.seq_ne hb (hf c hc')
    have DD := D a b na nb
    have hT : s.TypeIs (.ref z) "zip" := ⟨_, hz, rfl⟩
    have hi1 : i < its.toArray.size := by rw [List.size_toArray]; exact (List.getElem?_eq_some_iff.mp hu).1
    have hi2 : i < jts.toArray.size := by rw [List.size_toArray]; exact (List.getElem?_eq_some_iff.mp hv).1
    unfold pyNext
    refine wpAny_bind (wpAny_attempt (wpAny_callSpecial?_slot (name := Str.ofString "__next__") hT PySem.F.slot_zip_next (wpAny_call_entry PySem.F.slot_zip_next hT PySem.F.entry_zip_next
      (zipItem DD (subK k1 X.prog X.w i1 a its.toArray (na i1 (by simp))) (subK k2 X.prog X.w i2 b jts.toArray (nb i2 (by simp))) hz hTI hTO ⟨h1, pa⟩ ⟨h2, pb⟩ hi1 hi2 fun h' u' v' pu pv hz' hTO' s1 s2 hT' kp => wpAny_pure ?_) (PySem.F.args_zip_next_1 _))))
    have eu : u' = u := by
      have q : its[i]? = some u' := by simpa using pu
      rw [hu] at q
      exact (Option.some.inj q).symm
    have ev : v' = v := by
      have q : jts[i]? = some v' := by simpa using pv
      rw [hv] at q
      exact (Option.some.inj q).symm
    subst eu ev
    refine ⟨_, rfl, wpAny_letOwnedTupleGo_zip hz' fun h2 hz2 sb2 => ?_⟩
    have Tz : s.heap.objs.size ≠ z := Nat.ne_of_gt (Heap.lt_size hz)
    have hT2 : IsPair h2 s.heap.objs.size u' v' := sb2.extBut _ _ Tz hT'
    have hf0 := I.hok.fresh (Nat.le_refl s.heap.objs.size)
    have fz := I.fpOk (Nat.le_refl s.heap.objs.size) hf0
    have I2 : Inv X pins σ H { s with heap := h2 } := by
      refine I.turnedL (t' := s.toks) [z, TO, i1, i2] (fun c o hc' e => ?_) (fun c hc' => hf c ?_)
      · simp only [List.mem_cons, List.not_mem_nil, or_false, not_or] at hc'
        exact sb2.extBut _ _ hc'.1 (kp c o hc'.1 hc'.2.1 hc'.2.2.1 hc'.2.2.2 e)
      · simp only [List.mem_cons, List.not_mem_nil, or_false] at hc' ⊢
        rcases hc' with r | r | r | r
        · exact .inl r
        · exact .inr (.inr (.inl r))
        · exact .inr (.inr (.inr (.inl r)))
        · exact .inr (.inr (.inr (.inr r)))
    have I3 : Inv X pins σ (upd H s.heap.objs.size (.tup [x, y])) { s with heap := h2 } := by
      refine I2.trackO (show ObjOk X.prog X.w _ _ _ (.tup [x, y]) from ⟨by show 2 ≤ sizeLine; rw [sizeLine_eq]; decide, [u', v'], 0, .cons ru (.cons rv2 .nil), hT2⟩) hf0 fz.2.1 I.sz fz.2.2.2.2.1 fz.2.2.2.2.2
    refine ⟨.ref s.heap.objs.size, _, I3, rfl, ⟨s.heap.objs.size, hf0, rfl, fun xs' ys' ha' hb' => ?_⟩, ⟨hz2, sb2.extBut _ _ DD.TIz (kp _ _ DD.TIz DD.TITO DD.TIi1 DD.TIi2 hTI), ⟨_, _, sb2.extBut _ _ DD.TOz hTO'⟩, s1.1.at fun o e => sb2.extBut _ _ DD.i1z e, s2.1.at fun o e => sb2.extBut _ _ DD.i2z e⟩, fun c hc' => ?_⟩
    · rw [I.seqK_inj ha' ha, I.seqK_inj hb' hb]
      exact ⟨x, y, hx, hy, rfl⟩
    · have cl : c ≠ s.heap.objs.size := by
        obtain ⟨o, e⟩ : ∃ o, s.heap.get? c = some o := by
          simp only [List.mem_cons, List.not_mem_nil, or_false] at hc'
          rcases hc' with rfl | rfl | rfl | rfl | rfl
          · exact ⟨_, hz⟩
          · exact ⟨_, hTI⟩
          · exact ⟨_, hTO⟩
          · obtain ⟨o, e, _⟩ := h1.obj; exact ⟨o, e⟩
          · obtain ⟨o, e, _⟩ := h2.obj; exact ⟨o, e⟩
        exact Nat.ne_of_lt (Heap.lt_size e)
      rw [upd_ne cl]
      exact (hf c hc').1
  done := by
    intro X hP hw hK hc i pins s σ H E I hf st hg
    subst hP hw hK
    obtain ⟨hz, hTI, ⟨x0, y0, hTO⟩, h1, h2⟩ := st
    obtain ⟨xs, ys, ha, hb, hmin⟩ := hg
    obtain ⟨its, rv, pa⟩ := I.seqK ha
    obtain ⟨jts, rw', pb⟩ := I.seqK hb
    have la := rv.length
    have lb := rw'.length
    have na : ∀ c ∈ [z, TI, TO, i1, i2], a ≠ c := fun c hc' => I.seq_ne ha (hf c hc')
    have nb : ∀ c ∈ [z, TI, TO, i1, i2], b ≠ c := fun c hc' => I.seq_ne hb (hf c hc')
    have DD := D a b na nb
    have hT : s.TypeIs (.ref z) "zip" := ⟨_, hz, rfl⟩
    unfold pyNext
    refine wpAny_bind (wpAny_attempt (wpAny_callSpecial?_slot (name := Str.ofString "__next__") hT PySem.F.slot_zip_next (wpAny_call_entry PySem.F.slot_zip_next hT PySem.F.entry_zip_next
      (zipEnd (I.ok.hd hc) DD (subK k1 X.prog X.w i1 a its.toArray (na i1 (by simp))) (subK k2 X.prog X.w i2 b jts.toArray (nb i2 (by simp))) hz hTI hTO ⟨h1, pa⟩ ⟨h2, pb⟩ (by rw [List.size_toArray, List.size_toArray]; omega) fun h' e kp he => ?_) (PySem.F.args_zip_next_1 _))))
    obtain ⟨oe, hoe, hce⟩ := he
    refine wpAny_bind (wpAny_isInstance (T := "StopIteration") (b := true) ⟨oe, hoe, hce⟩ isSubtype_stop (wpAny_pure ⟨rfl, ?_⟩))
    refine I.turnedL (t' := s.toks) [z, TO, i1, i2] (fun c o hc' e => ?_) (fun c hc' => hf c ?_)
    · simp only [List.mem_cons, List.not_mem_nil, or_false, not_or] at hc'
      exact kp c o hc'.1 hc'.2.1 hc'.2.2.1 hc'.2.2.2 e
    · simp only [List.mem_cons, List.not_mem_nil, or_false] at hc' ⊢
      rcases hc' with r | r | r | r
      · exact .inl r
      · exact .inr (.inr (.inl r))
      · exact .inr (.inr (.inr (.inl r)))
      · exact .inr (.inr (.inr (.inr r)))
  self := fun _ _ _ _ _ st h => wpAny_pyIter_zip st.1 h

abbrev zh1 (k1 : Sk) (h : Heap) (a : Addr) : Heap := h.push (itK k1 a)
abbrev zh2 (k1 k2 : Sk) (h : Heap) (a b : Addr) : Heap := (zh1 k1 h a).push (itK k2 b)
abbrev zh3 (k1 k2 : Sk) (h : Heap) (a b : Addr) : Heap := (zh2 k1 k2 h a b).push { cls := .type "tuple", data := .seq #[.ref h.objs.size, .ref (zh1 k1 h a).objs.size] }
abbrev zh4 (k1 k2 : Sk) (h : Heap) (a b : Addr) : Heap := (zh3 k1 k2 h a b).push { cls := .type "tuple", data := .seq #[.none, .none] }
abbrev zh5 (k1 k2 : Sk) (h : Heap) (a b : Addr) : Heap := (zh4 k1 k2 h a b).push { cls := .type "zip", data := .fields #[.none, .bool false, .bool false, .ref (zh2 k1 k2 h a b).objs.size, .ref (zh3 k1 k2 h a b).objs.size] }
theorem zip_made (k1 k2 : Sk) (a b : Addr) (xs ys : Array Value) :
    Meets (Builtin.«zip.__new__» ⟨[.type "zip", .ref a, .ref b], []⟩) (fun _ R s => AtK k1 s.heap a xs ∧ AtK k2 s.heap b ys ∧ R (.ok (.ret (.ref (zh4 k1 k2 s.heap a b).objs.size))) { s with heap := zh5 k1 k2 s.heap a b }) :=
  .of_wp fun prog w A R s h => by
    obtain ⟨hp, g, d, tk, os⟩ := s
    obtain ⟨hl1, hl2, h⟩ := h
    have hsub := sub_zip
    have hA : AtK k1 (Shared.heap ⟨hp, g, d, tk, os⟩) a xs := hl1
    have hB : AtK k2 (Shared.heap ⟨hp.push (itK k1 a), g, d, tk, os⟩) b ys := AtK.at hl2 fun o e => Heap.get?_push_of_some _ e
    wp_walk using iterK hA, iterK hB
    exact ⟨_, rfl, h⟩
section
variable {X : Cx} {es : List Expr} {x1 : Nat} {tpos : Pos}
def iZip (K : PySem.W.Frag) (k1 k2 : Sk) (ta : TA) : TI := fun σ H R => ta σ H fun vs H1 => ∃ a b xs ys, vs = [.ref a, .ref b] ∧ SqK k1 K H1 a xs ∧ SqK k2 K H1 b ys ∧ R (Itz K k1 k2 a b) H1
theorem pi_zip (k1 k2 : Sk) {a b : Expr} {ta : TA} {p pos : Pos} (hg : Gl X "zip") (hm : X.mg "zip" = none) (ha : PA X [a, b] ta) (hs : starEach [a, b] X.env = [(false, eval a X.env), (false, eval b X.env)] := by rfl) (hs2 : starEach [b] X.env = [(false, eval b X.env)] := by rfl) :
    PI X (.Tuple es x1 tpos) (.Call (.Name "zip" p) [a, b] [] pos) (iZip X.K k1 k2 ta) := by
  intro pins s σ H R I h
  refine Call_ (ld_blt (u := .type "zip") I hg hm (by decide +kernel) (PyProof.Rows.callWith_type1 (thn (ha pos pins s σ H _ I h) fun us s1 hx9 => ?_) (by rw [hs, hs2]) (by rw [hs2]; rfl)))
  obtain ⟨vs, H1, I1, r1, q1⟩ := hx9
  obtain ⟨l1, l2, xs, ys, rfl, hA, hB, q⟩ := q1
  obtain ⟨u1, u2, rfl, r1', r2'⟩ := vals2 r1
  cases r1'
  cases r2'
  obtain ⟨its, rv, pa⟩ := I1.seqK hA
  obtain ⟨jts, rw', pb⟩ := I1.seqK hB
  refine callType_new PySem.F.called_zip (by decide) (PySem.F.typeCall_zip_2 _ _) (PySem.F.newCall_zip_2 _ _) (fun obj => PySem.F.args_object_init_3 obj _ _) PySem.F.entry_zip_new (zip_made k1 k2 l1 l2 its.toArray jts.toArray) ⟨pa, pb, ?_⟩
  have n1 : (zh1 k1 s1.heap l1).objs.size = s1.heap.objs.size + 1 := Heap.size_push ..
  have n2 : (zh2 k1 k2 s1.heap l1 l2).objs.size = s1.heap.objs.size + 2 := by rw [Heap.size_push, n1]
  have n3 : (zh3 k1 k2 s1.heap l1 l2).objs.size = s1.heap.objs.size + 3 := by rw [Heap.size_push, n2]
  have n4 : (zh4 k1 k2 s1.heap l1 l2).objs.size = s1.heap.objs.size + 4 := by rw [Heap.size_push, n3]
  have g5 : IsZip (zh5 k1 k2 s1.heap l1 l2) (zh4 k1 k2 s1.heap l1 l2).objs.size (zh2 k1 k2 s1.heap l1 l2).objs.size (zh3 k1 k2 s1.heap l1 l2).objs.size .none := Heap.get?_push_size _ rfl
  have g4 : IsPair (zh5 k1 k2 s1.heap l1 l2) (zh3 k1 k2 s1.heap l1 l2).objs.size .none .none := Heap.get?_push_of_some _ (Heap.get?_push_size _ rfl)
  have g3 : IsPair (zh5 k1 k2 s1.heap l1 l2) (zh2 k1 k2 s1.heap l1 l2).objs.size (.ref s1.heap.objs.size) (.ref (zh1 k1 s1.heap l1).objs.size) := Heap.get?_push_of_some _ (Heap.get?_push_of_some _ (Heap.get?_push_size _ rfl))
  have g2 : ItK k2 (zh5 k1 k2 s1.heap l1 l2) (zh1 k1 s1.heap l1).objs.size l2 0 := (ItK.new k2 (zh1 k1 s1.heap l1) l2).at fun o e => Heap.get?_push_of_some _ (Heap.get?_push_of_some _ (Heap.get?_push_of_some _ e))
  have g1 : ItK k1 (zh5 k1 k2 s1.heap l1 l2) s1.heap.objs.size l1 0 := (ItK.new k1 s1.heap l1).at fun o e => Heap.get?_push_of_some _ (Heap.get?_push_of_some _ (Heap.get?_push_of_some _ (Heap.get?_push_of_some _ e)))
  have kp : ∀ c o, s1.heap.get? c = some o → (zh5 k1 k2 s1.heap l1 l2).get? c = some o := fun c o e => Heap.get?_push_of_some _ (Heap.get?_push_of_some _ (Heap.get?_push_of_some _ (Heap.get?_push_of_some _ (Heap.get?_push_of_some _ e))))
  refine ⟨⟨_, g5, rfl⟩, wpAny_pyIter_zip (f0 := .none) g5 ?_⟩
  rw [n1, n2, n3, n4] at *
  have I2 : Inv X pins σ H1 { s1 with heap := zh5 k1 k2 s1.heap l1 l2 } := I1.kept (t' := s1.toks) kp
  refine ⟨s1.heap.objs.size + 4, [s1.heap.objs.size + 4, s1.heap.objs.size + 2, s1.heap.objs.size + 3, s1.heap.objs.size, s1.heap.objs.size + 1], _, _, H1, rfl, I2, turn_zip k1 k2 l1 l2 _ _ _ _ _ ?_, ⟨g5, g3, ⟨_, _, g4⟩, g1, g2⟩, fun c hc => ?_, q⟩
  · intro m1 m2 h1 h2
    have d : ∀ i j : Nat, i ≠ j → s1.heap.objs.size + i ≠ s1.heap.objs.size + j := fun i j h => by omega
    exact ⟨d 2 4 (by decide), d 3 4 (by decide), d 0 4 (by decide), d 1 4 (by decide), d 2 3 (by decide), d 2 0 (by decide), d 2 1 (by decide), d 3 0 (by decide), d 3 1 (by decide), d 0 1 (by decide),
      h1 _ (by simp), h1 _ (by simp), h1 _ (by simp), h1 _ (by simp), h2 _ (by simp), h2 _ (by simp), h2 _ (by simp), h2 _ (by simp)⟩
  · have hc' : s1.heap.objs.size ≤ c := by
      simp only [List.mem_cons, List.not_mem_nil, or_false] at hc
      rcases hc with r | r | r | r | r
      · rw [r]; exact Nat.le_add_right _ _
      · rw [r]; exact Nat.le_add_right _ _
      · rw [r]; exact Nat.le_add_right _ _
      · rw [r]; exact Nat.le_refl _
      · rw [r]; exact Nat.le_add_right _ _
    exact I1.fpOk hc' (I1.hok.fresh hc')
end
end L2
set_option Elab.async false
set_option linter.all false
set_option maxRecDepth 100000
namespace L2
open PySem PySem.Spec PyProof.Rows
open PySem.AutoSeq1 (wpAny_loadPart')
theorem tuple_add_nil (l b : Addr) (items items2 : Array Value) (n n2 : Nat) (dd dd2 : Option Addr) (sl sl2 : Array (Option Value)) (hc0 : items.isEmpty = true) :
    Meets (Builtin.«tuple.__add__» ⟨[.ref l, .ref b], []⟩) (fun _ R s => s.heap.get? l = some { cls := .type "tuple", dict := dd, data := .seq items n, slots := sl } ∧ s.heap.get? b = some { cls := .type "tuple", dict := dd2, data := .seq items2 n2, slots := sl2 } ∧ R (.ok (.ret (Value.ref b))) s) :=
  .of_wp fun prog w A R s h => by
    obtain ⟨hp, g, d, tk, os⟩ := s
    obtain ⟨hl, hb, h⟩ := h
    have f1 := AutoSeq1.idx_int
    have f2 := AutoSeq1.sub_tuple_tuple
    wp_walk using wpAny_loadPart' hl, wpAny_loadPart' hb
    exact ⟨_, rfl, h⟩
section
variable {X : Cx}
theorem op_cat2 : OpR X (binaryOp .Add) (fun x y H Q => ∃ a b xs ys, x = .ref a ∧ y = .ref b ∧ SqT X.K H a xs ∧ SqT X.K H b ys ∧ xs.length + ys.length ≤ sizeLine ∧ ∀ p H', Same H H' → SqT X.K H' p (xs ++ ys) → Q (.ref p) H') := by
  intro pins s σ H x y v u Q I rx ry h
  obtain ⟨a, b, xs, ys, rfl, rfl, ha, hb, hz, q⟩ := h
  by_cases hx : xs = []
  · subst hx
    cases rx
    cases ry
    obtain ⟨its, r1, ⟨⟨cls, dd, data, sl⟩, ho, hc, n, hd⟩, _⟩ := I.tuple ha
    obtain ⟨its2, r2, ⟨⟨cls2, dd2, data2, sl2⟩, ho2, hc2, n2, hd2⟩, _⟩ := I.tuple hb
    simp only at hc hd hc2 hd2
    subst hc hd hc2 hd2
    cases r1
    exact concat_meets ⟨_, ho, rfl⟩ ⟨_, ho2, rfl⟩ noFill_tuple_add seq_tuple_add PySem.F.slot_tuple_add PySem.F.entry_tuple_add (PySem.F.args_tuple_add_2 _ _)
      (tuple_add_nil a b _ _ n n2 dd dd2 sl sl2 rfl) ⟨ho, ho2, ⟨.ref b, H, I, rfl, q b H (Same.refl H) hb⟩⟩
  · refine op_catT pins s σ H _ _ v u Q I rx ry ⟨a, b, xs, ys, rfl, rfl, ha, hb, hx, hz, fun e => ?_, fun e p hp => ?_⟩
    · subst e
      exact q a H (Same.refl H) (by rw [List.append_nil]; exact ha)
    · exact q p _ (Same.new hp) (SqT.of upd_same)
theorem getItem_tuple_whole {prog : Program} {w : World} {A : Around} {E : Value → Shared → Prop} {s : Shared} {t sl : Addr} {items : Array Value} {vl vu : Value} {lo hi : Option Int} {Q : Value → Shared → Prop} (ht : IsTup s.heap t items) (hs : s.heap.IsSliceOf sl vl vu .none) (pl : IsPart vl lo) (pu : IsPart vu hi)
    (hw : HT.sIx items.size 0 lo = 0 ∧ HT.sIx items.size items.size hi = items.size) (h : Q (.ref t) s) : wpAny (model prog w) A (getItem (.ref t) (.ref sl)) Q E s := by
  obtain ⟨os, hos, hcs, hds⟩ := id hs
  have hTs : s.TypeIs (.ref sl) "slice" := ⟨os, hos, hcs⟩
  unfold getItem
  try with_reducible refine wpAny_holding ?_
  first | refine wpAny_bind (wpAny_pure ?_) | skip
  refine wpAny_bind (wpAny_sequenceKey ht.typeIs (by decide) ?_)
  refine wpAny_bind (wpAny_callSpecial?_slot (name := Str.ofString "__getitem__") ht.typeIs PyProof.Rows.slot_tuple_getitem
    (wpAny_call_entry PyProof.Rows.slot_tuple_getitem ht.typeIs entry_tuple_getitem ?_ (args_tuple_getitem _ _)))
  refine wpAny_bind (m := Builtin.Tuple.tupleItemsOf (.ref t)) (tupleItemsOf_ ht ?_)
  refine wpAny_bind (wpAny_typeOf hTs ?_)
  rw [if_pos (by decide)]
  refine wpAny_bind (HT.sliceApplied_gen hs pl pu ?_)
  have hyes : (((HT.sIx items.size 0 lo : Nat) : Int) == 0 && (1 : Int) == 1 && (HT.sIx items.size items.size hi - HT.sIx items.size 0 lo) == items.size) = true := by
    rw [hw.1, hw.2]; simp
  show wpAny _ _ (if (((HT.sIx items.size 0 lo : Nat) : Int) == 0 && (1 : Int) == 1 && (HT.sIx items.size items.size hi - HT.sIx items.size 0 lo) == items.size) = true then _ else _) _ _ s
  rw [if_pos hyes]
  unfold Builtin.Tuple.tupleIsExact
  refine wpAny_bind (wpAny_bind (wpAny_typeOf ht.typeIs (wpAny_pure ?_)))
  refine wpAny_ite_split (fun _ => wpAny_bind (wpAny_rule (wpAny_pure ⟨_, rfl, wpAny_pure h⟩))) (fun hab => absurd (by rfl) hab)
theorem sl_tup2 : SlR X (fun x lo hi H Q => ∃ a xs, x = .ref a ∧ SqT X.K H a xs ∧ ∀ p H', Same H H' → SqT X.K H' p (cutV xs lo hi) → Q (.ref p) H') := by
  intro pins s σ H x v vl vu lo hi sl Q I rx hs pl pu h
  obtain ⟨a, xs, rfl, hx, q⟩ := h
  by_cases hw : HT.sIx xs.length 0 lo = 0 ∧ HT.sIx xs.length xs.length hi = xs.length
  · cases rx
    obtain ⟨its, r, ht, hz⟩ := I.tuple hx
    have hlen : its.toArray.size = xs.length := by rw [List.size_toArray]; exact r.length.symm
    refine ⟨"tuple", _, PyProof.Rows.slot_tuple_getitem.lookup, ht.typeIs, ?_⟩
    refine getItem_tuple_whole ht hs pl pu (by rw [hlen]; exact hw) ⟨.ref a, H, I, rfl, q a H (Same.refl H) ?_⟩
    have e : cutV xs lo hi = xs := by
      unfold cutV
      rw [hw.1, hw.2, List.drop_zero, Nat.sub_zero, List.take_length]
    rw [e]; exact hx
  · exact sl_tup pins s σ H _ v vl vu lo hi sl Q I rx hs pl pu ⟨a, xs, rfl, hx, hw, fun p hp => q p _ (Same.new hp) (SqT.of upd_same)⟩
theorem cutV_to (xs : List V) (k : Nat) : cutV xs none (some (k : Int)) = xs.take k := by
  unfold cutV
  rw [HT.sIx_none, HT.sIx_nat, List.drop_zero, Nat.sub_zero]
  by_cases h : k ≤ xs.length
  · rw [Nat.min_eq_left h]
  · rw [Nat.min_eq_right (by omega), List.take_of_length_le (Nat.le_refl _), List.take_of_length_le (by omega)]
theorem cutV_from (xs : List V) (k : Nat) : cutV xs (some (k : Int)) none = xs.drop k := by
  unfold cutV
  rw [HT.sIx_none, HT.sIx_nat]
  by_cases h : k ≤ xs.length
  · rw [Nat.min_eq_left h, List.take_of_length_le (by rw [List.length_drop]; exact Nat.le_refl _)]
  · rw [Nat.min_eq_right (by omega), List.drop_of_length_le (Nat.le_refl _), List.drop_of_length_le (by omega), List.take_nil]
end
end L2
set_option Elab.async false
set_option linter.all false
set_option maxRecDepth 100000
namespace L2
open PySem PySem.Spec PyProof.Rows
def ixCheck (N frn : List Str) (fr : List Nat) : Bool := frn.length == fr.length && (frn.zip fr).all fun y => N[y.2]? == some y.1
theorem compOk_of {X : Cx} {scope : Scope} {own frn : List Str} {fr : List Nat} (sc : Scope) (N : List Str) (h1 : X.env.scope = sc) (h2 : X.N = N) (h : (compCheck sc scope own frn && ixCheck N frn fr) = true) : CompOk X scope own fr frn := by
  rw [Bool.and_eq_true] at h
  obtain ⟨ha, hb⟩ := h
  unfold ixCheck at hb
  simp only [Bool.and_eq_true, beq_iff_eq, List.all_eq_true] at hb
  refine ⟨by rw [h1]; exact ha, fun k x hk => ?_, hb.1.symm⟩
  have hlt : k < fr.length := by rw [← hb.1]; exact (List.getElem?_eq_some_iff.mp hk).1
  refine ⟨fr[k], List.getElem?_eq_getElem hlt, ?_⟩
  have hm : (x, fr[k]) ∈ frn.zip fr := by
    refine List.mem_of_getElem? (i := k) ?_
    rw [List.getElem?_zip_eq_some]
    exact ⟨hk, List.getElem?_eq_getElem hlt⟩
  rw [h2]
  exact hb.2 _ hm
section
variable {J : It} {own : Nat} {fr : List Nat} {g : TG} {tt : TT} {te : TE} {σ : St} {H : Hp} {Q : Hp → List V → Prop}
theorem comp_it (n : Nat) (hn : n ≤ sizeLine) (SH : St → Prop) (Pv : Nat → List V → Hp → Prop) (hσ : SH (blk own fr σ)) (h0 : Pv 0 [] H) (hlen : ∀ i ys H, Pv i ys H → ys.length ≤ i)
    (hstop : ∀ ys H, Pv n ys H → J.stop n H) (hgo : ∀ i ys H, i < n → Pv i ys H → J.go i H)
    (hs : ∀ i ys σ x H H', i < n → SH σ → Pv i ys H → J.yld i H x H' → ys.length < sizeLine → g x σ H' fun σ2 H2 => tt σ2 H2 fun b H3 => if b = true then te σ2 H3 fun y H4 => ys.length < sizeLine ∧ SH σ2 ∧ Pv (i + 1) (ys ++ [y]) H4 else SH σ2 ∧ Pv (i + 1) ys H3)
    (hd : ∀ ys H, Pv n ys H → Q H ys) :
    ∃ W : Nat → Nat → List V → St → Hp → Prop, (∃ m, W 0 m [] (blk own fr σ) H) ∧ ∀ i m ys σ' H, W i m ys σ' H →
      (J.stop i H ∧ Q H ys) ∨
      (J.go i H ∧ ∃ N : List V → St → Hp → Prop, (∀ ys' σ2 H2, N ys' σ2 H2 → ∃ m', m' < m ∧ W (i + 1) m' ys' σ2 H2) ∧
        ∀ x H', J.yld i H x H' → g x σ' H' fun σ2 H2 => tt σ2 H2 fun b H3 => if b = true then te σ2 H3 fun y H4 => ys.length < sizeLine ∧ N (ys ++ [y]) σ2 H4 else N ys σ2 H3) := by
  refine ⟨fun i m ys σ' H => m = n - i ∧ i ≤ n ∧ SH σ' ∧ Pv i ys H, ⟨n, by simp, Nat.zero_le _, hσ, h0⟩, ?_⟩
  rintro i m ys σ' H ⟨rfl, hi, sh, p⟩
  by_cases hlt : i < n
  · refine .inr ⟨hgo i ys H hlt p, fun ys' σ2 H2 => SH σ2 ∧ Pv (i + 1) ys' H2, fun ys' σ2 H2 ⟨e, q⟩ => ⟨n - (i + 1), by omega, rfl, hlt, e, q⟩, fun x H' y => ?_⟩
    exact hs i ys σ' x H H' hlt sh p y (by have := hlen i ys H p; omega)
  · have e : i = n := by omega
    subst e
    exact .inl ⟨hstop ys H p, hd ys H p⟩
theorem comp_tup {K : PySem.W.Frag} {a : Addr} {xs : List V} (SH : St → Prop) (Pv : Nat → List V → Hp → Prop) (hn : xs.length ≤ sizeLine) (hσ : SH (blk own fr σ)) (h0 : Pv 0 [] H) (hlen : ∀ i ys H, Pv i ys H → ys.length ≤ i) (hl : ∀ i ys H, Pv i ys H → SqT K H a xs)
    (hs : ∀ i ys σ x H, xs[i]? = some x → SH σ → Pv i ys H → ys.length < sizeLine → g x σ H fun σ2 H2 => tt σ2 H2 fun b H3 => if b = true then te σ2 H3 fun y H4 => ys.length < sizeLine ∧ SH σ2 ∧ Pv (i + 1) (ys ++ [y]) H4 else SH σ2 ∧ Pv (i + 1) ys H3)
    (hd : ∀ ys H, Pv xs.length ys H → Q H ys) :
    ∃ W : Nat → Nat → List V → St → Hp → Prop, (∃ m, W 0 m [] (blk own fr σ) H) ∧ ∀ i m ys σ' H, W i m ys σ' H →
      ((Itt K a).stop i H ∧ Q H ys) ∨
      ((Itt K a).go i H ∧ ∃ N : List V → St → Hp → Prop, (∀ ys' σ2 H2, N ys' σ2 H2 → ∃ m', m' < m ∧ W (i + 1) m' ys' σ2 H2) ∧
        ∀ x H', (Itt K a).yld i H x H' → g x σ' H' fun σ2 H2 => tt σ2 H2 fun b H3 => if b = true then te σ2 H3 fun y H4 => ys.length < sizeLine ∧ N (ys ++ [y]) σ2 H4 else N ys σ2 H3) := by
  refine comp_it xs.length hn SH Pv hσ h0 hlen (fun ys H p => ⟨xs, hl _ _ _ p, Nat.le_refl _⟩) (fun i ys H hi p => ⟨xs, xs[i], hl _ _ _ p, List.getElem?_eq_getElem hi⟩) (fun i ys σ x H H' hi sh p y hz => ?_) hd
  obtain ⟨e, y⟩ := y
  subst e
  exact hs i ys σ x _ (y xs (hl _ _ _ p)) sh p hz
theorem comp_list {K : PySem.W.Frag} {a : Addr} {xs : List V} (SH : St → Prop) (Pv : Nat → List V → Hp → Prop) (hn : xs.length ≤ sizeLine) (hσ : SH (blk own fr σ)) (h0 : Pv 0 [] H) (hlen : ∀ i ys H, Pv i ys H → ys.length ≤ i) (hl : ∀ i ys H, Pv i ys H → SqL K H a xs)
    (hs : ∀ i ys σ x H, xs[i]? = some x → SH σ → Pv i ys H → ys.length < sizeLine → g x σ H fun σ2 H2 => tt σ2 H2 fun b H3 => if b = true then te σ2 H3 fun y H4 => ys.length < sizeLine ∧ SH σ2 ∧ Pv (i + 1) (ys ++ [y]) H4 else SH σ2 ∧ Pv (i + 1) ys H3)
    (hd : ∀ ys H, Pv xs.length ys H → Q H ys) :
    ∃ W : Nat → Nat → List V → St → Hp → Prop, (∃ m, W 0 m [] (blk own fr σ) H) ∧ ∀ i m ys σ' H, W i m ys σ' H →
      ((Itl K a).stop i H ∧ Q H ys) ∨
      ((Itl K a).go i H ∧ ∃ N : List V → St → Hp → Prop, (∀ ys' σ2 H2, N ys' σ2 H2 → ∃ m', m' < m ∧ W (i + 1) m' ys' σ2 H2) ∧
        ∀ x H', (Itl K a).yld i H x H' → g x σ' H' fun σ2 H2 => tt σ2 H2 fun b H3 => if b = true then te σ2 H3 fun y H4 => ys.length < sizeLine ∧ N (ys ++ [y]) σ2 H4 else N ys σ2 H3) := by
  refine comp_it xs.length hn SH Pv hσ h0 hlen (fun ys H p => ⟨xs, hl _ _ _ p, Nat.le_refl _⟩) (fun i ys H hi p => ⟨xs, xs[i], hl _ _ _ p, List.getElem?_eq_getElem hi⟩) (fun i ys σ x H H' hi sh p y hz => ?_) hd
  obtain ⟨e, y⟩ := y
  subst e
  exact hs i ys σ x _ (y xs (hl _ _ _ p)) sh p hz
theorem comp_range {lo : Int} {n : Nat} (SH : St → Prop) (Pv : Nat → List V → Hp → Prop) (hn : n ≤ sizeLine) (hσ : SH (blk own fr σ)) (h0 : Pv 0 [] H) (hlen : ∀ i ys H, Pv i ys H → ys.length ≤ i)
    (hs : ∀ i ys σ H, i < n → SH σ → Pv i ys H → ys.length < sizeLine → g (.int (lo + i)) σ H fun σ2 H2 => tt σ2 H2 fun b H3 => if b = true then te σ2 H3 fun y H4 => ys.length < sizeLine ∧ SH σ2 ∧ Pv (i + 1) (ys ++ [y]) H4 else SH σ2 ∧ Pv (i + 1) ys H3)
    (hd : ∀ ys H, Pv n ys H → Q H ys) :
    ∃ W : Nat → Nat → List V → St → Hp → Prop, (∃ m, W 0 m [] (blk own fr σ) H) ∧ ∀ i m ys σ' H, W i m ys σ' H →
      ((Itr lo n).stop i H ∧ Q H ys) ∨
      ((Itr lo n).go i H ∧ ∃ N : List V → St → Hp → Prop, (∀ ys' σ2 H2, N ys' σ2 H2 → ∃ m', m' < m ∧ W (i + 1) m' ys' σ2 H2) ∧
        ∀ x H', (Itr lo n).yld i H x H' → g x σ' H' fun σ2 H2 => tt σ2 H2 fun b H3 => if b = true then te σ2 H3 fun y H4 => ys.length < sizeLine ∧ N (ys ++ [y]) σ2 H4 else N ys σ2 H3) := by
  refine comp_it n hn SH Pv hσ h0 hlen (fun ys H p => Nat.le_refl _) (fun i ys H hi p => hi) (fun i ys σ x H H' hi sh p y hz => ?_) hd
  obtain ⟨e, y⟩ := y
  subst e y
  exact hs i ys σ _ hi sh p hz
theorem comp_zip {K : PySem.W.Frag} {k1 k2 : Sk} {a b : Addr} {xs ys : List V} (SH : St → Prop) (Pv : Nat → List V → Hp → Prop) (hn : xs.length ≤ sizeLine) (heq : xs.length = ys.length) (hσ : SH (blk own fr σ)) (h0 : Pv 0 [] H) (hlen : ∀ i zs H, Pv i zs H → zs.length ≤ i) (hl : ∀ i zs H, Pv i zs H → SqK k1 K H a xs ∧ SqK k2 K H b ys)
    (hs : ∀ i zs σ x y p H, xs[i]? = some x → ys[i]? = some y → SH σ → Pv i zs H → H p = none → zs.length < sizeLine → g (.ref p) σ (upd H p (.tup [x, y])) fun σ2 H2 => tt σ2 H2 fun c H3 => if c = true then te σ2 H3 fun y H4 => zs.length < sizeLine ∧ SH σ2 ∧ Pv (i + 1) (zs ++ [y]) H4 else SH σ2 ∧ Pv (i + 1) zs H3)
    (hd : ∀ zs H, Pv xs.length zs H → Q H zs) :
    ∃ W : Nat → Nat → List V → St → Hp → Prop, (∃ m, W 0 m [] (blk own fr σ) H) ∧ ∀ i m ys σ' H, W i m ys σ' H →
      ((Itz K k1 k2 a b).stop i H ∧ Q H ys) ∨
      ((Itz K k1 k2 a b).go i H ∧ ∃ N : List V → St → Hp → Prop, (∀ ys' σ2 H2, N ys' σ2 H2 → ∃ m', m' < m ∧ W (i + 1) m' ys' σ2 H2) ∧
        ∀ x H', (Itz K k1 k2 a b).yld i H x H' → g x σ' H' fun σ2 H2 => tt σ2 H2 fun b H3 => if b = true then te σ2 H3 fun y H4 => ys.length < sizeLine ∧ N (ys ++ [y]) σ2 H4 else N ys σ2 H3) := by
  refine comp_it xs.length hn SH Pv hσ h0 hlen (fun zs H p => ⟨xs, ys, (hl _ _ _ p).1, (hl _ _ _ p).2, by rw [← heq, Nat.min_self]⟩) (fun i zs H hi p => ⟨xs, ys, xs[i], ys[i]'(by omega), (hl _ _ _ p).1, (hl _ _ _ p).2, List.getElem?_eq_getElem hi, List.getElem?_eq_getElem (by omega)⟩) (fun i zs σ v H H' hi sh p y hz => ?_) hd
  obtain ⟨q, hq, rfl, hy⟩ := y
  obtain ⟨x, y, h1, h2, rfl⟩ := hy xs ys (hl _ _ _ p).1 (hl _ _ _ p).2
  exact hs i zs σ x y q H h1 h2 sh p hq hz
end
end L2
set_option Elab.async false
set_option linter.all false
set_option maxRecDepth 100000
namespace L2
open PySem PySem.Spec PyProof.Rows
section
variable {X : Cx}
def CDivB (i j : Int) : Prop := 0 < j ∧ j < 1267650600228229401496703205376
theorem op_fdivB : OpR X (binaryOp .FloorDiv) (rI CDivB fun i j => .int (i / j)) := opI fun i j _ _ _ _ _ hc q => by
  have h1 : (0 : Int) < j := hc.1
  have h2 : j < 1267650600228229401496703205376 := hc.2
  refine floordiv_int (by omega) (by rw [Int.fdiv_eq_ediv_of_nonneg i (by omega)]; exact q) (.inl (PyProof.noPylong_of_log2 ?_))
  have h3 : j.natAbs.log2 < 100 := (Nat.log2_lt (by omega)).mpr (by omega)
  omega
theorem vals_of : ∀ {xs : List V} {us : List Value}, xs.length = us.length → (∀ (j : Nat) (x : V) (u : Value), xs[j]? = some x → us[j]? = some u → RelV x u) → Vals xs us
  | [], [], _, _ => .nil
  | [], _ :: _, h, _ => by cases h
  | _ :: _, [], h, _ => by cases h
  | x :: xs, u :: us, h, k => .cons (k 0 x u rfl rfl) (vals_of (by simpa using h) fun j y v hy hv => k (j + 1) y v hy hv)
theorem call_list_rng (hc : X.calm = true) : CallR X (.type "list") (fun xs H Q => ∃ (a : Addr) (n : Nat), xs = [.ref a] ∧ H a = some (.rng 0 n) ∧ n ≤ 1000 ∧ ∀ p, H p = none → Q (.ref p) (upd H p (.lst ((upto n).map V.int)))) := by
  intro pins s σ H xs us Q I r h
  obtain ⟨a, n, rfl, ha, hn, q⟩ := h
  obtain ⟨u, rfl, rx⟩ := vals1 r
  cases rx
  obtain ⟨t, u, v, e⟩ := I.hok a _ ha
  have hsz : Builtin.Range.rangeSize 0 (n : Int) 1 = (n : Int) := by rw [rangeSize_one]; split <;> omega
  have hsm : Builtin.Range.small 0 (n : Int) 1 = true := small_one (by omega) (by omega) (by omega) (by omega)
  refine call_list_range (I.ok.hd hc) e hsm hsz (Nat.le_trans hn (by decide)) fun h' tk acc' c' kp hl hi => ?_
  have hv : Vals ((upto n).map V.int) acc'.toList := by
    obtain ⟨h1, h2⟩ := hi
    refine vals_of (by unfold upto; simp [h1]) fun j x u hx hu => ?_
    have hj : j < n := by
      have := (List.getElem?_eq_some_iff.mp hu).1
      rw [Array.length_toList, h1] at this
      exact this
    obtain ⟨t, rfl⟩ := h2 j u (by rw [← Array.getElem?_toList]; exact hu)
    unfold upto at hx
    rw [List.getElem?_map, List.getElem?_map, List.getElem?_range hj] at hx
    have e : V.int (j : Int) = x := Option.some.inj hx
    rw [← e]
    exact ⟨t, by rw [Int.zero_add, Int.mul_one]⟩
  have hlen : ((upto n).map V.int).length ≤ sizeLine := by unfold upto; rw [List.length_map, List.length_map, List.length_range, sizeLine_eq]; omega
  exact ⟨.ref s.heap.objs.size, _, I.laid (t' := tk) kp (Nat.le_refl _) (show ObjOk X.prog X.w _ h' _ (.lst _) from ⟨hlen, acc'.toList, c', hv, hl⟩), rfl, q _ (I.hok.fresh (Nat.le_refl _))⟩
theorem sliceApplied_rev {prog : Program} {w : World} {A : Around} {E : Value → Shared → Prop} {s : Shared} {sl : Addr} {tk : Tok} {n : Nat} {Q : Int × Int × Nat → Shared → Prop} (hs : s.heap.IsSliceOf sl .none .none (.int (-1) tk))
    (h : Q ((n : Int) - 1, -1, n) s) : wpAny (model prog w) A (Builtin.Slice.sliceApplied (.ref sl) (pure (n : Int))) Q E s := by
  obtain ⟨os, hos, hcs, hds⟩ := id hs
  unfold Builtin.Slice.sliceApplied Builtin.Slice.sliceFields
  refine wpAny_bind (wpAny_bind (wpAny_field hos hds (x := .none) rfl (wpAny_bind (wpAny_field hos hds (x := .none) rfl (wpAny_bind (wpAny_field hos hds (x := .int (-1) tk) rfl (wpAny_pure ?_)))))))
  refine wpAny_bind (HT.slicePart_ (.int (-1) tk) ?_)
  show wpAny _ _ (if ((-1 : Int) == 0) = true then _ else _) _ _ s
  rw [if_neg (by decide)]
  refine wpAny_bind (HT.slicePart_ .none (wpAny_bind (HT.slicePart_ .none (wpAny_bind (wpAny_pure ?_)))))
  show wpAny _ _ (match Builtin.Slice.sliceAdjust none none (-1) (n : Int) with | (lo, hi) => pure (lo, (-1 : Int), Builtin.Slice.slicePlaces lo hi (-1))) _ _ s
  have e : Builtin.Slice.sliceAdjust none none (-1) (n : Int) = ((n : Int) - 1, -1) := by simp [Builtin.Slice.sliceAdjust]
  rw [e]
  have e2 : Builtin.Slice.slicePlaces ((n : Int) - 1) (-1) (-1) = n := by
    unfold Builtin.Slice.slicePlaces
    rw [if_neg (by decide)]
    by_cases h0 : n = 0
    · subst h0; decide
    · rw [if_pos (by omega)]
      have : ((n : Int) - 1 - -1 - 1) / (- -1) + 1 = n := by rw [show (- -1 : Int) = 1 from rfl, Int.ediv_one]; omega
      rw [this]; simp
  show wpAny _ _ (pure ((n : Int) - 1, (-1 : Int), Builtin.Slice.slicePlaces ((n : Int) - 1) (-1) (-1))) _ _ s
  rw [e2]
  exact wpAny_pure h
theorem fm_congr {α β : Type} {f g : α → Option β} : ∀ {l : List α}, (∀ x ∈ l, f x = g x) → l.filterMap f = l.filterMap g
  | [], _ => rfl
  | x :: r, h => by rw [List.filterMap_cons, List.filterMap_cons, h x (List.mem_cons_self ..), fm_congr fun y hy => h y (List.mem_cons_of_mem _ hy)]
theorem pick_rev (xs : Array Value) : ((List.range xs.size).filterMap fun (k : Nat) => xs[((xs.size : Int) - 1 + (k : Int) * (-1)).toNat]?).toArray = xs.toList.reverse.toArray := by
  have h := HT.pick_gen xs.toList.reverse.toArray 0 xs.size
  have e : (List.range xs.size).filterMap (fun (k : Nat) => xs[((xs.size : Int) - 1 + (k : Int) * (-1)).toNat]?) = (List.range xs.size).filterMap (fun (m : Nat) => xs.toList.reverse.toArray[(((0 : Nat) : Int) + (m : Int) * 1).toNat]?) := by
    refine fm_congr fun k hk => ?_
    have hk' := List.mem_range.mp hk
    have h1 : ((xs.size : Int) - 1 + (k : Int) * (-1)).toNat = xs.size - 1 - k := by omega
    have h2 : (((0 : Nat) : Int) + (k : Int) * 1).toNat = k := by omega
    rw [h1, h2]
    simp only [List.getElem?_toArray]
    rw [List.getElem?_reverse (by simpa using hk')]
    simp
  rw [e, h]
  congr 1
  rw [List.drop_zero, List.take_of_length_le (by simp)]
theorem getItem_tuple_rev {prog : Program} {w : World} {A : Around} {E : Value → Shared → Prop} {s : Shared} {t sl : Addr} {items : Array Value} {tk : Tok} {Q : Value → Shared → Prop} (ht : IsTup s.heap t items) (hs : s.heap.IsSliceOf sl .none .none (.int (-1) tk))
    (h : Q (.ref s.heap.objs.size) { s with heap := s.heap.push { cls := .type "tuple", data := .seq items.toList.reverse.toArray } }) (hsz : items.size ≤ sizeLine) : wpAny (model prog w) A (getItem (.ref t) (.ref sl)) Q E s := by
  have htake : sizeOk (.seq items.toList.reverse.toArray) := by
    show items.toList.reverse.toArray.size ≤ sizeLine
    rw [List.size_toArray, List.length_reverse, Array.length_toList]
    exact hsz
  obtain ⟨os, hos, hcs, hds⟩ := id hs
  have hTs : s.TypeIs (.ref sl) "slice" := ⟨os, hos, hcs⟩
  unfold getItem
  try with_reducible refine wpAny_holding ?_
  first | refine wpAny_bind (wpAny_pure ?_) | skip
  refine wpAny_bind (wpAny_sequenceKey ht.typeIs (by decide) ?_)
  refine wpAny_bind (wpAny_callSpecial?_slot (name := Str.ofString "__getitem__") ht.typeIs PyProof.Rows.slot_tuple_getitem
    (wpAny_call_entry PyProof.Rows.slot_tuple_getitem ht.typeIs entry_tuple_getitem ?_ (args_tuple_getitem _ _)))
  refine wpAny_bind (m := Builtin.Tuple.tupleItemsOf (.ref t)) (tupleItemsOf_ ht ?_)
  refine wpAny_bind (wpAny_typeOf hTs ?_)
  rw [if_pos (by decide)]
  refine wpAny_bind (sliceApplied_rev hs ?_)
  have hno : ¬ ((((items.size : Int) - 1) == 0 && (-1 : Int) == 1 && items.size == items.size) = true) := by simp
  show wpAny _ _ (if (((items.size : Int) - 1) == 0 && (-1 : Int) == 1 && items.size == items.size) = true then _ else _) _ _ s
  rw [if_neg hno, pick_rev]
  first
    | exact wpAny_bind (m := Builtin.Tuple.tupleExact _) (wpAny_newObj_type (wpAny_pure ⟨_, rfl, wpAny_pure h⟩) htake)
    | exact wpAny_bind (m := Builtin.Tuple.tupleExact _) (wpAny_newObj_type (wpAny_bind (wpAny_pure (wpAny_pure ⟨_, rfl, wpAny_pure h⟩))) htake)
    | exact wpAny_bind (wpAny_bind (m := Builtin.Tuple.tupleExact _) (wpAny_newObj_type (wpAny_pure (wpAny_pure ⟨_, rfl, wpAny_pure h⟩)) htake))
    | exact wpAny_bind (wpAny_bind (m := Builtin.Tuple.tupleExact _) (wpAny_newObj_type (wpAny_pure ⟨_, rfl, wpAny_pure h⟩) htake))
def tRev (K : PySem.W.Frag) (te ts : TE) : TE := fun σ H Q => te σ H fun x H1 => ts σ H1 fun y H2 => y = .int (-1) ∧ ∃ a xs, x = .ref a ∧ SqT K H2 a xs ∧ ∀ p, H2 p = none → Q (.ref p) (upd H2 p (.tup xs.reverse))
theorem pe_rev {e st : Expr} {te ts : TE} {pos p2 : Pos} (he : PE X e te) (hst : PE X st ts) : PE X (.Subscript e (.Slice none none (some st) p2) pos) (tRev X.K te ts) := by
  intro pins s σ H Q I h
  refine Subscript_ (thn (he pins s σ H _ I h) fun v s1 hx9 => ?_)
  obtain ⟨x, H1, I1, r1, q1⟩ := hx9
  refine wpAny_Slice ?_
  rw [evalPart_none]
  refine wpAny_pure ?_
  show wpAny _ _ (evalPart none X.env) _ _ s1
  rw [evalPart_none]
  refine wpAny_pure ?_
  show wpAny _ _ (evalPart (some st) X.env) _ _ s1
  rw [evalPart_some]
  refine thn (hst pins s1 σ H1 _ I1 q1) fun vst s3 hx9 => ?_
  obtain ⟨y, H3, I3, r3, q3⟩ := hx9
  obtain ⟨rfl, a, xs, rfl, hx, q⟩ := q3
  obtain ⟨tk, rfl⟩ := r3
  cases r1
  have I4 : Inv X pins σ H3 { s3 with heap := s3.heap.push { cls := .type "slice", data := .fields #[.none, .none, .int (-1) tk] } } := I3.kept (t' := s3.toks) fun b ob q => Heap.get?_push_of_some _ q
  obtain ⟨its, r, ht, hz⟩ := I4.tuple hx
  have hlen := r.length
  have hg : wpAny (model X.prog X.w) X.A (getItem (.ref a) (.ref s3.heap.objs.size)) (EP X pins σ Q) X.xe { s3 with heap := s3.heap.push { cls := .type "slice", data := .fields #[.none, .none, .int (-1) tk] } } := by
    refine getItem_tuple_rev ht (Heap.IsSliceOf.new ..) ?_ (by rw [List.size_toArray]; omega)
    refine ⟨.ref _, _, I4.laid (t' := s3.toks) (o := .tup xs.reverse) (fun b ob q => Heap.get?_push_of_some _ q) (Nat.le_refl _) ?_, rfl, q _ (I4.hok.fresh (Nat.le_refl _))⟩
    exact ⟨by rw [List.length_reverse]; exact hz, its.reverse, 0, r.reverse, Heap.get?_push_size _ rfl⟩
  show wpAny (model X.prog X.w) X.A (subscriptTail e (.Slice none none (some st) p2) (.ref a) (.ref s3.heap.objs.size)) (EP X pins σ Q) X.xe { s3 with heap := s3.heap.push { cls := .type "slice", data := .fields #[.none, .none, .int (-1) tk] } }
  exact tail_any (ops := [.ref a, .ref s3.heap.objs.size]) ht.typeIs PyProof.Rows.slot_tuple_getitem.lookup hg (by with_unfolding_all rfl)
end
end L2
set_option Elab.async false
set_option linter.all false
set_option maxRecDepth 100000
namespace L2
open PySem PySem.Spec PyProof.Rows
def Vw (S : List Addr) (H : Hp) : Hp := fun b => if b ∈ S then none else H b
theorem Vw.out {S : List Addr} {H : Hp} {b : Addr} (n : b ∉ S) : Vw S H b = H b := by unfold Vw; rw [if_neg n]
theorem Vw.sub {S : List Addr} {H : Hp} : Same (Vw S H) H := fun b o h => by
  by_cases z : b ∈ S
  · unfold Vw at h; rw [if_pos z] at h; cases h
  · rw [Vw.out z] at h; exact h
theorem Vw.keep {S : List Addr} {H H' : Hp} (e : ∀ b o, b ∉ S → H b = some o → H' b = some o) : Same (Vw S H) (Vw S H') := fun b o h => by
  by_cases z : b ∈ S
  · unfold Vw at h; rw [if_pos z] at h; cases h
  · rw [Vw.out z] at h ⊢; exact e b o z h
theorem Vw.same {S : List Addr} {H H' : Hp} (e : Same H H') : Same (Vw S H) (Vw S H') := Vw.keep fun b o _ h => e b o h
def Fx (S : List Addr) (H : Hp) : Prop := ∀ b ∈ S, ∃ xs, H b = some (.lst xs)
theorem Fx.same {S : List Addr} {H H' : Hp} (f : Fx S H) (e : Same H H') : Fx S H' := fun b hb => let ⟨xs, h⟩ := f b hb; ⟨xs, e b _ h⟩
theorem Fx.new {S : List Addr} {H : Hp} {p : Addr} (f : Fx S H) (h : H p = none) : p ∉ S := fun z => by
  obtain ⟨xs, q⟩ := f p z
  rw [q] at h; cases h
theorem Fx.nil {H : Hp} : Fx [] H := fun _ h => (List.not_mem_nil h).elim
section
variable {K : PySem.W.Frag} {S : List Addr} {H H' H0 : Hp}
theorem Fx.seqT {a : Addr} {xs : List V} (f : Fx S H) (h : SqT K H a xs) : SqT K (Vw S H) a xs := by
  rcases h with (h | ⟨o, h⟩) | h
  · exact .inl (.inl (by rw [Vw.out fun z => by obtain ⟨ys, q⟩ := f a z; rw [q] at h; cases h]; exact h))
  · exact .inl (.inr ⟨o, by rw [Vw.out fun z => by obtain ⟨ys, q⟩ := f a z; rw [q] at h; cases h]; exact h⟩)
  · exact .inr h
theorem Vw.at {p : Addr} {o : HO} (f : Fx S H) (h : H p = none) : Vw S (upd H p o) p = some o := by rw [Vw.out (f.new h)]; exact upd_same
def Dn (K : PySem.W.Frag) (S : List Addr) (H : Hp) (x : V) : Prop := ∃ d, Den K (Vw S H) d x
def DT (K : PySem.W.Frag) (S : List Addr) (n : Nat) (H : Hp) (x : V) : Prop := ∃ a xs, x = .ref a ∧ SqT K (Vw S H) a xs ∧ xs.length ≤ n ∧ ∀ y ∈ xs, Dn K S H y
def II (_ : Hp) (x : V) : Prop := ∃ i, x = .int i
class Mo (R : Hp → V → Prop) : Prop where
  mo : ∀ {H H' : Hp} {v : V}, Same H H' → R H v → R H' v
theorem Dn.keep {x : V} (h : Dn K S H x) (e : Same (Vw S H) (Vw S H')) : Dn K S H' x := let ⟨d, h⟩ := h; ⟨d, e.den _ _ h⟩
theorem Dn.same {x : V} (h : Dn K S H x) (e : Same H H') : Dn K S H' x := h.keep (Vw.same e)
theorem DT.keep {n : Nat} {x : V} (h : DT K S n H x) (e : Same (Vw S H) (Vw S H')) : DT K S n H' x := let ⟨a, xs, h1, h2, h3, h4⟩ := h; ⟨a, xs, h1, e.seqT h2, h3, fun y hy => (h4 y hy).keep e⟩
theorem DT.same {n : Nat} {x : V} (h : DT K S n H x) (e : Same H H') : DT K S n H' x := h.keep (Vw.same e)
instance : Mo (Dn K S) := ⟨fun e h => Dn.same h e⟩
instance {n : Nat} : Mo (DT K S n) := ⟨fun e h => DT.same h e⟩
instance : Mo II := ⟨fun _ h => h⟩
theorem dn_int (i : Int) : Dn K S H (.int i) := ⟨.int i, den_int.mpr rfl⟩
theorem II.dn {x : V} (h : II H x) : Dn K S H x := let ⟨i, h⟩ := h; h ▸ dn_int i
theorem dn_all : ∀ {xs : List V}, (∀ x ∈ xs, Dn K S H x) → ∃ ds, DenAll K (Vw S H) ds xs
  | [], _ => ⟨[], denAll_nil.mpr rfl⟩
  | x :: r, h => by
    obtain ⟨d, hd⟩ := h x (List.mem_cons_self ..)
    obtain ⟨ds, hds⟩ := dn_all (xs := r) fun y hy => h y (List.mem_cons_of_mem _ hy)
    exact ⟨d :: ds, denAll_cons.mpr ⟨x, r, rfl, hd, hds⟩⟩
theorem DT.dn {n : Nat} {x : V} (h : DT K S n H x) : Dn K S H x := by
  obtain ⟨a, xs, rfl, h2, _, h4⟩ := h
  obtain ⟨ds, hds⟩ := dn_all h4
  exact ⟨.tuple ds, den_tuple.mpr ⟨a, xs, rfl, h2, hds⟩⟩
theorem dn_ints {l : List Int} : ∀ x ∈ l.map V.int, Dn K S H x := fun x hx => by
  obtain ⟨i, _, rfl⟩ := List.mem_map.mp hx
  exact dn_int i
theorem DT.ints {a : Addr} {l : List Int} {n : Nat} (f : Fx S H) (h : SqT K H a (l.map V.int)) (hn : l.length ≤ n) : DT K S n H (.ref a) := ⟨a, _, rfl, f.seqT h, by rw [List.length_map]; exact hn, dn_ints⟩
def Al (H0 : Hp) (S : List Addr) (te : TE) (σ : St) (R : Hp → V → Prop) : Prop := ∀ H, Same H0 H → Fx S H → ∀ Q : VK, (∀ v H', Same H H' → R H' v → Q v H') → te σ H Q
def AlO (H0 : Hp) (S : List Addr) (t : TO) (σ : St) : Prop := ∀ H, Same H0 H → Fx S H → ∀ Q : Option Int → Hp → Prop, (∀ o H', Same H H' → Q o H') → t σ H Q
variable {σ : St} {R R' : Hp → V → Prop} {te ta tb ts : TE} {t tr : TA} {tl th : TO}
theorem al_var {i : Nat} {v : V} [m : Mo R] (h : σ[i]? = some (some v)) (r : R H0 v) : Al H0 S (tVar i) σ R := fun H s _ Q k => ⟨v, h, k v H (Same.refl H) (m.mo s r)⟩
theorem al_c {v : V} [m : Mo R] (r : R H0 v) : Al H0 S (tC v) σ R := fun H s _ Q k => k v H (Same.refl H) (m.mo s r)
theorem Al.mono (h : Al H0 S te σ R) (m : ∀ H v, R H v → R' H v) : Al H0 S te σ R' := fun H s f Q k => h H s f Q fun v H' s' r => k v H' s' (m H' v r)
theorem al_int {i : Int} : Al H0 S (tC (.int i)) σ II := al_c ⟨i, rfl⟩
theorem Al.i (h : Al H0 S te σ II) : Al H0 S te σ (Dn K S) := h.mono fun _ _ r => r.dn
theorem Al.d {n : Nat} (h : Al H0 S te σ (DT K S n)) : Al H0 S te σ (Dn K S) := h.mono fun _ _ r => r.dn
def rCat2 (K : PySem.W.Frag) : R2 := fun x y H Q => ∃ a b xs ys, x = .ref a ∧ y = .ref b ∧ SqT K H a xs ∧ SqT K H b ys ∧ xs.length + ys.length ≤ sizeLine ∧ ∀ p H', Same H H' → SqT K H' p (xs ++ ys) → Q (.ref p) H'
def rSl2 (K : PySem.W.Frag) : V → Option Int → Option Int → Hp → VK → Prop := fun x lo hi H Q => ∃ a xs, x = .ref a ∧ SqT K H a xs ∧ ∀ p H', Same H H' → SqT K H' p (cutV xs lo hi) → Q (.ref p) H'
theorem cutV_mem {xs : List V} {lo hi : Option Int} {x : V} (h : x ∈ cutV xs lo hi) : x ∈ xs := List.mem_of_mem_drop (List.mem_of_mem_take h)
theorem cutV_len {xs : List V} {lo hi : Option Int} : (cutV xs lo hi).length ≤ xs.length := by
  unfold cutV
  rw [List.length_take, List.length_drop]
  omega
theorem alO_none : AlO H0 S tNoPart σ := fun H _ _ Q k => k none H (Same.refl H)
theorem alO_some (h : Al H0 S te σ II) : AlO H0 S (tPart te) σ := fun H s f Q k => h H s f _ fun v H' s' ⟨i, e⟩ => ⟨i, e, k _ H' s'⟩
theorem al_neg1 : Al H0 S (tUn (rU fun i => .int (-i)) (tC (.int 1))) σ fun _ v => v = .int (-1) := fun H s f Q k => ⟨1, rfl, k _ H (Same.refl H) rfl⟩
theorem al_op0 {g : Int → Int → Int} (ha : Al H0 S ta σ II) (hb : Al H0 S tb σ II) : Al H0 S (tOp (rI0 fun i j => .int (g i j)) ta tb) σ II := fun H s f Q k => ha H s f _ fun v H1 s1 ⟨i, e⟩ => hb H1 (s.trans s1) (f.same s1) _ fun u H2 s2 ⟨j, e'⟩ => ⟨i, j, e, e', k _ H2 (s1.trans s2) ⟨_, rfl⟩⟩
instance {a : Addr} {xs : List V} : Mo (fun H v => v = .ref a ∧ SqT K H a xs) := ⟨fun e h => ⟨h.1, e.seqT h.2⟩⟩
instance {x : V} : Mo (fun _ v => v = x) := ⟨fun _ h => h⟩
end
end L2
set_option Elab.async false
set_option linter.all false
set_option maxRecDepth 100000
namespace L2
open PySem PySem.Spec PyProof.Rows
open PySem.AutoSeq1 (wpAny_loadPart')
theorem nf {b : Bool} (h : b = false) : decide (b = true) = false := by rw [h]; rfl
section
variable {X : Cx} {pins : List (Addr × Obj)} {σ : St} {H : Hp} {s : Shared}
end

section
variable {K : PySem.W.Frag} {S : List Addr} {H H' H0 : Hp} {E E' : Hp → V → Prop}
def DTe (K : PySem.W.Frag) (S : List Addr) (E : Hp → V → Prop) (n : Nat) (H : Hp) (x : V) : Prop := ∃ a xs, x = .ref a ∧ SqT K (Vw S H) a xs ∧ xs.length ≤ n ∧ ∀ y ∈ xs, E H y
def LTe (S : List Addr) (E : Hp → V → Prop) (n : Nat) (H : Hp) (x : V) : Prop := ∃ a xs, x = .ref a ∧ Vw S H a = some (.lst xs) ∧ xs.length ≤ n ∧ ∀ y ∈ xs, E H y
instance {n : Nat} [m : Mo E] : Mo (DTe K S E n) := ⟨fun e ⟨a, xs, h1, h2, h3, h4⟩ => ⟨a, xs, h1, (Vw.same e).seqT h2, h3, fun y hy => m.mo e (h4 y hy)⟩⟩
instance {n : Nat} [m : Mo E] : Mo (LTe S E n) := ⟨fun e ⟨a, xs, h1, h2, h3, h4⟩ => ⟨a, xs, h1, Vw.same e _ _ h2, h3, fun y hy => m.mo e (h4 y hy)⟩⟩
def AlE (H0 : Hp) (S : List Addr) (E : Hp → V → Prop) (n : Nat) (t : TA) (σ : St) : Prop := ∀ H, Same H0 H → Fx S H → ∀ Q : List V → Hp → Prop, (∀ vs H', Same H H' → vs.length = n → (∀ v ∈ vs, E H' v) → Q vs H') → t σ H Q
variable {σ : St} {te ta tb ts : TE} {t tr : TA} {tl th : TO}
theorem alE_nil : AlE H0 S E 0 tNil σ := fun H _ _ Q k => k [] H (Same.refl H) rfl (fun _ h => (List.not_mem_nil h).elim)
theorem alE_cons {n : Nat} [m : Mo E] (h : Al H0 S te σ E) (r : AlE H0 S E n tr σ) : AlE H0 S E (n + 1) (tCons te tr) σ := fun H s f Q k => h H s f _ fun v H1 s1 d1 => r H1 (s.trans s1) (f.same s1) _ fun vs H2 s2 l d2 =>
  k (v :: vs) H2 (s1.trans s2) (by rw [List.length_cons, l]) fun x hx => by
    rcases List.mem_cons.mp hx with rfl | hx
    · exact m.mo s2 d1
    · exact d2 x hx
theorem alE_tup {n : Nat} [m : Mo E] (h : AlE H0 S E n t σ) (hn : n ≤ 1000 := by decide) : Al H0 S (tTup t) σ (DTe K S E n) := fun H s f Q k => h H s f _ fun vs H1 s1 l d => ⟨by rw [l]; exact Nat.le_of_lt (small1000 hn), fun p hp =>
  k (.ref p) _ (s1.trans (Same.new hp)) ⟨p, vs, rfl, SqT.of (Vw.at (f.same s1) hp), by rw [l]; exact Nat.le_refl _, fun y hy => m.mo (Same.new hp) (d y hy)⟩⟩
theorem alE_lst {n : Nat} [m : Mo E] (h : AlE H0 S E n t σ) (hn : n ≤ 1000 := by decide) : Al H0 S (tLst t) σ (LTe S E n) := fun H s f Q k => h H s f _ fun vs H1 s1 l d => ⟨by rw [l]; exact Nat.le_of_lt (small1000 hn), fun p hp =>
  k (.ref p) _ (s1.trans (Same.new hp)) ⟨p, vs, rfl, Vw.at (f.same s1) hp, by rw [l]; exact Nat.le_refl _, fun y hy => m.mo (Same.new hp) (d y hy)⟩⟩
theorem alE_cat {n m : Nat} [M : Mo E] (ha : Al H0 S ta σ (DTe K S E n)) (hb : Al H0 S tb σ (DTe K S E m)) (hn : n + m ≤ 1000 := by decide) : Al H0 S (tOp (rCat2 K) ta tb) σ (DTe K S E (n + m)) := fun H s f Q k => ha H s f _ fun v H1 s1 d1 => hb H1 (s.trans s1) (f.same s1) _ fun u H2 s2 d2 => by
  have d1' : DTe K S E n H2 v := Mo.mo s2 d1
  obtain ⟨a, xs, rfl, ha, la, da⟩ := d1'
  obtain ⟨b, ys, rfl, hb, lb, db⟩ := d2
  have f2 := (f.same s1).same s2
  refine ⟨a, b, xs, ys, rfl, rfl, Vw.sub.seqT ha, Vw.sub.seqT hb, Nat.le_of_lt (small1000 (by omega)), fun p H' s' hp => k _ H' (s1.trans (s2.trans s')) ⟨p, xs ++ ys, rfl, (f2.same s').seqT hp, by rw [List.length_append]; omega, fun y hy => ?_⟩⟩
  rcases List.mem_append.mp hy with hy | hy
  · exact M.mo s' (da y hy)
  · exact M.mo s' (db y hy)
theorem alE_catL {n m : Nat} [M : Mo E] (ha : Al H0 S ta σ (LTe S E n)) (hb : Al H0 S tb σ (LTe S E m)) (hn : n + m ≤ 1000 := by decide) : Al H0 S (tOp rCat ta tb) σ (LTe S E (n + m)) := fun H s f Q k => ha H s f _ fun v H1 s1 d1 => hb H1 (s.trans s1) (f.same s1) _ fun u H2 s2 d2 => by
  have d1' : LTe S E n H2 v := Mo.mo s2 d1
  obtain ⟨a, xs, rfl, ha, la, da⟩ := d1'
  obtain ⟨b, ys, rfl, hb, lb, db⟩ := d2
  have f2 := (f.same s1).same s2
  refine ⟨a, b, xs, ys, rfl, rfl, Vw.sub _ _ ha, Vw.sub _ _ hb, Nat.le_of_lt (small1000 (by omega)), fun p hp => k _ _ (s1.trans (s2.trans (Same.new hp))) ⟨p, xs ++ ys, rfl, Vw.at f2 hp, by rw [List.length_append]; omega, fun y hy => ?_⟩⟩
  rcases List.mem_append.mp hy with hy | hy
  · exact M.mo (Same.new hp) (da y hy)
  · exact M.mo (Same.new hp) (db y hy)
theorem alE_slice {n : Nat} [M : Mo E] (h : Al H0 S te σ (DTe K S E n)) (hl : AlO H0 S tl σ) (hh : AlO H0 S th σ) : Al H0 S (tSl (rSl2 K) te tl th) σ (DTe K S E n) := fun H s f Q k => h H s f _ fun v H1 s1 d1 => hl H1 (s.trans s1) (f.same s1) _ fun lo H2 s2 => hh H2 ((s.trans s1).trans s2) ((f.same s1).same s2) _ fun hi H3 s3 => by
  have d3 : DTe K S E n H3 v := Mo.mo s3 (Mo.mo s2 d1)
  obtain ⟨a, xs, rfl, ha, la, da⟩ := d3
  have f3 := ((f.same s1).same s2).same s3
  exact ⟨a, xs, rfl, Vw.sub.seqT ha, fun p H' s' hp => k _ H' (s1.trans (s2.trans (s3.trans s'))) ⟨p, _, rfl, (f3.same s').seqT hp, Nat.le_trans cutV_len la, fun y hy => M.mo s' (da y (cutV_mem hy))⟩⟩
theorem alE_rev {n : Nat} [M : Mo E] (h : Al H0 S te σ (DTe K S E n)) (hs : Al H0 S ts σ fun _ v => v = .int (-1)) : Al H0 S (tRev K te ts) σ (DTe K S E n) := fun H s f Q k => h H s f _ fun v H1 s1 d1 => hs H1 (s.trans s1) (f.same s1) _ fun u H2 s2 e => by
  have d2 : DTe K S E n H2 v := Mo.mo s2 d1
  obtain ⟨a, xs, rfl, ha, la, da⟩ := d2
  have f2 := (f.same s1).same s2
  exact ⟨e, a, xs, rfl, Vw.sub.seqT ha, fun p hp => k _ _ (s1.trans (s2.trans (Same.new hp))) ⟨p, _, rfl, SqT.of (Vw.at f2 hp), by rw [List.length_reverse]; exact la, fun y hy => M.mo (Same.new hp) (da y (List.mem_reverse.mp hy))⟩⟩
theorem nameAll2 {i : Nat} {x : V} {σ : St} {H : Hp} {A B : St → Hp → Prop} (h : A (σ.set i (some x)) H) : gName i x σ H fun σ2 H2 => tAll σ2 H2 fun b H3 => if b = true then A σ2 H3 else B σ2 H3 := by
  show if true = true then A (σ.set i (some x)) H else B (σ.set i (some x)) H
  exact iteT h
theorem Al.weak {R R' : Hp → V → Prop} (h : Al H0 S te σ R) (m : ∀ H v, R H v → R' H v) : Al H0 S te σ R' := fun H s f Q k => h H s f Q fun v H' s' r => k v H' s' (m H' v r)
theorem set_al {R : Hp → V → Prop} {i : Nat} {u : TS} {D : Ends} (f : Fx S H) (h : Al H S te σ R) (k : ∀ v H', Same H H' → R H' v → u D (σ.set i (some v)) H') : tSeq (tAsg te (gName i)) u D σ H := h H (Same.refl H) f _ k
end
section
variable {env : Env} {rest es : List Expr} {k : Nat} {pos : Pos} {a b c : Expr}
theorem se_const {v : Const} : starEach (.Constant v k pos :: rest) env = (false, eval (.Constant v k pos) env) :: starEach rest env := rfl
end
end L2
set_option Elab.async false
set_option linter.all false
set_option maxRecDepth 100000
namespace L2
open PySem PySem.Spec PyProof.Rows
def compCheck1 (sc scope : Scope) (z0 : Str) (own : List Str) (frn : List Str) : Bool :=
  scope.kind == .function && scope.names.all (fun y => y.2 != .cell || y.1 == z0) && scope.names.all (fun y => y.2 != .local || scope.names.lookup y.1 == some .local) &&
  scope.names.all (fun y => y.2 != .free || sc.names.lookup y.1 == some .cell || sc.names.lookup y.1 == some .free) && decide (own ++ frn).Nodup &&
  frn.all (fun x => scope.names.lookup x == some .free) && scope.names.lookup z0 == some .cell && scope.names.all (fun y => y.2 != .free || y.1 != z0)
structure CompOk1 (X : Cx) (scope : Scope) (z0 : Str) (own : List Str) (fr : List Nat) (frn : List Str) : Prop where
  ck : compCheck1 X.env.scope scope z0 own frn = true
  ix : ∀ (k : Nat) (x : Str), frn[k]? = some x → ∃ j : Nat, fr[k]? = some j ∧ X.N[j]? = some x
  len : fr.length = frn.length
  cf : ∀ (n : Nat) (cl : List (Str × Addr)), cellsFrom n scope.names cl = (z0, n) :: cl
  pc : ∀ h : Heap, pushCells h scope.names = h.push { cls := .type "cell", data := .cell none }
section
variable {X : Cx} {scope : Scope} {z0 : Str} {own frn : List Str} {fr : List Nat}
theorem CompOk1.parts (S : CompOk1 X scope z0 own fr frn) : scope.kind = .function ∧ (∀ y ∈ scope.names, y.2 = .cell → y.1 = z0) ∧ (∀ y ∈ scope.names, y.2 = .local → scope.names.lookup y.1 = some .local) ∧
    (∀ y ∈ scope.names, y.2 = .free → X.env.scope.names.lookup y.1 = some .cell ∨ X.env.scope.names.lookup y.1 = some .free) ∧ (own ++ frn).Nodup ∧ (∀ x ∈ frn, scope.names.lookup x = some .free) ∧ scope.names.lookup z0 = some .cell ∧ ∀ y ∈ scope.names, y.2 = .free → y.1 ≠ z0 := by
  have h := S.ck
  unfold compCheck1 at h
  simp only [Bool.and_eq_true, List.all_eq_true, decide_eq_true_eq, Bool.or_eq_true, bne_iff_ne, ne_eq, beq_iff_eq] at h
  obtain ⟨⟨⟨⟨⟨⟨⟨h1, h2⟩, h3⟩, h4⟩, h5⟩, h7⟩, h8⟩, h9⟩ := h
  refine ⟨h1, fun y hy e => ?_, fun y hy e => ?_, fun y hy e => ?_, h5, h7, h8, fun y hy e => ?_⟩
  · rcases h2 y hy with z | z
    · exact absurd e z
    · exact z
  · rcases h3 y hy with z | z
    · exact absurd e z
    · exact z
  · rcases h4 y hy with (z | z) | z
    · exact absurd e z
    · exact .inl z
    · exact .inr z
  · rcases h9 y hy with z | z
    · exact absurd e z
    · exact z
end
section
variable {X : Cx} {scope : Scope} {z0 : Str} {own frn : List Str} {fr : List Nat} {elt tg iter : Expr} {ifs : List Expr} {pos : Pos} {wi : TI} {g : TG} {tt : TT} {te : TE}
theorem CompOk1.clo {pins : List (Addr × Obj)} {σ : St} {H : Hp} {s : Shared} (S : CompOk1 X scope z0 own fr frn) (I : Inv X pins σ H s) : closureFor scope X.env = pure (clOf X.env scope.names []) := by
  obtain ⟨p1, p2, p3, p4, p5, p7, p8, p9⟩ := S.parts
  exact clo_of fun y hy e => I.ok.has y.1 (p4 y hy e)

end

end L2
set_option Elab.async false
set_option linter.all false
set_option maxRecDepth 100000
namespace L2
open PySem PySem.Spec PyProof.Rows
section
variable {X : Cx}
end
end L2
set_option Elab.async false
set_option linter.all false
set_option maxRecDepth 100000
namespace L2
open PySem PySem.Spec PyProof.Rows
theorem ObjOk.isThere {P : Program} {w : World} {H : Hp} {h : Heap} {a : Addr} {o : HO} (x : ObjOk P w H h a o) : ∃ ob, h.get? a = some ob := by
  cases o with
  | lst xs => obtain ⟨_, _, _, _, e⟩ := x; exact ⟨_, e⟩
  | tup xs => obtain ⟨_, _, _, _, e⟩ := x; exact ⟨_, e⟩
  | dK kvs => obtain ⟨_, _, _, _, o, _, _, e, _⟩ := x; exact ⟨_, e⟩
  | dT kvs => obtain ⟨_, _, _, _, o, _, _, e, _⟩ := x; exact ⟨_, e⟩
  | set S n => obtain ⟨o, _, _, _, e, _⟩ := x; exact ⟨_, e⟩
  | ins C dx fs => obtain ⟨_, _, _, e, _⟩ := x; exact ⟨_, e⟩
  | own y => obtain ⟨_, e⟩ := x; exact ⟨_, e⟩
  | xd fs => obtain ⟨_, ⟨_, _, _, e, _⟩, _⟩ := x; exact ⟨_, e⟩
  | rng lo hi => obtain ⟨_, _, _, e⟩ := x; exact ⟨_, e⟩
  | frz ob u => obtain ⟨e, _⟩ := x; exact ⟨_, e⟩
  | tbl ps => exact ⟨_, (show h.get? a = some _ from x)⟩
  | tab q => obtain ⟨_, e, _⟩ := x; exact ⟨_, e⟩
  | met f y => exact ⟨_, (show h.get? a = some _ from x)⟩
  | ext φ => obtain ⟨_, ⟨_, e⟩, _⟩ := x; exact ⟨_, e⟩
def FlyAt (h : Heap) (a : Addr) (cls : Value) (T : Addr) : Prop :=
  ∃ oe vs oT ts, h.get? a = some oe ∧ oe.cls = cls ∧ oe.data = .fields vs ∧ vs[1]? = some (.ref T) ∧ T ≠ a ∧ h.get? T = some oT ∧ oT.data = .fields ts ∧ ts[3]? = some .none
def CX1 (P : Program) (w : World) : CXT := fun outer H s E e s' => ∃ (a T C : Addr) (H' : Hp), e = .ref a ∧ s'.os = s.os ∧ AllBare s'.gens ∧ Un (frs outer) [] H H' s.heap s'.heap ∧ HOk P w H' s'.heap ∧ FlyAt s'.heap a (.ref C) T ∧
  s.heap.get? a = none ∧ s.heap.get? T = none ∧ H' a = none ∧ H' T = none ∧ E (.ref C) none H'
theorem frames_rebase {h b1 b2 : Heap} : ∀ {l : List Env}, h.FunFrames b1 l → (∀ L ∈ frs l, b2.get? L = none) → h.FunFrames b2 l
  | [], _, _ => trivial
  | env :: rest, ⟨hk, ⟨L, o, hf, hn, ho, hd⟩, hr⟩, hb => ⟨hk, ⟨L, o, hf, hb L (by unfold frs; rw [List.filterMap_cons, hf]; exact List.mem_cons_self ..), ho, hd⟩, frames_rebase hr fun M hM => hb M (by
      unfold frs at hM ⊢
      rw [List.filterMap_cons, hf]
      exact List.mem_cons_of_mem _ hM)⟩
theorem left_facts {base h h' : Heap} {l : List Env} {a : Addr} {cls : Value} {hid : List Addr} (hb : base = PySem.W.hideAll h hid) (hl : h.FunFrames base l) (x : Heap.Left base l a cls h h') (ha : a ∈ hid) :
    (∀ b o, b ∉ hid → h.get? b = some o → h'.get? b = some o) ∧ (∀ b o, b ∈ frs l → h.get? b = some o → ∃ sl, h'.get? b = some { o with slots := sl }) ∧ ∃ T, FlyAt h' a cls T ∧ T ∉ frs l ∧ (T ∈ hid ∨ h.get? T = none) := by
  obtain ⟨x1, x2, ⟨oe, vs, T, oT, ts, e1, e2, e3, e4, e5, e6, e7, e8, e9⟩, x4⟩ := x
  refine ⟨fun b o nb e => x1 b o (by rw [hb]; exact PySem.W.hideAll_get _ e nb), fun b o hbf e => ?_, T, ⟨oe, vs, oT, ts, e1, e2, e3, e4, e6, e7, e8, e9⟩, fun z => ?_, ?_⟩
  · obtain ⟨_, o', ho', hd'⟩ := hl.mem hbf
    have eo : o' = o := Option.some.inj (ho'.symm.trans e)
    subst eo
    exact x4 b o' ho' hd'
  · obtain ⟨_, o', ho', hd'⟩ := x2.mem z
    have eo : o' = oT := Option.some.inj (ho'.symm.trans e7)
    subst eo
    exact hd' ts e8
  · by_cases hT : T ∈ hid
    · exact .inl hT
    · refine .inr ?_
      cases q : h.get? T with
      | none => rfl
      | some o =>
        have := PySem.W.hideAll_get hid q hT
        rw [← hb, e5] at this
        cases this
section
variable {P : Program} {w : World} {K : PySem.W.Frag} {mg : Str → Option Value} {base : Heap} {N : List Str} {qual : Str} {scope : Scope} {f : Addr} {cd : Value} {A : Around} {outer : List Env} {s0 : Shared} {H0 : Hp} {E : XK}
theorem fly_end {pins : List (Addr × Obj)} {σ : St} {H : Hp} {s : Shared} {h' : Heap} {a C : Addr} {hid : List Addr} {bs : Heap} (I : Inv (cxOf (CX1 P w) P w K mg base N qual scope f cd A outer s0 H0 E) pins σ H s)
    (hb : bs = PySem.W.hideAll s.heap hid) (hl : s.heap.FunFrames bs (envOfC qual scope s0.heap.objs.size f cd :: outer)) (x : Heap.Left bs (envOfC qual scope s0.heap.objs.size f cd :: outer) a (.ref C) s.heap h') (ha : a ∈ hid)
    (hh : ∀ b ∈ hid, b ∈ frs (envOfC qual scope s0.heap.objs.size f cd :: outer) ∨ (s0.heap.get? b = none ∧ H b = none)) (hE : E (.ref C) none H) (ha0 : s0.heap.get? a = none) (hHa : H a = none) :
    CX1 P w outer H0 s0 E (.ref a) { s with heap := h' } := by
  obtain ⟨k1, k2, T, fl, nT, hT⟩ := left_facts hb hl x ha
  have Lne : ∀ b o, s0.heap.get? b = some o → b ≠ s0.heap.objs.size := fun b o e z => Nat.lt_irrefl _ (z ▸ Heap.lt_size e)
  have fs : ∀ b, b ∈ frs (envOfC qual scope s0.heap.objs.size f cd :: outer) ↔ b = s0.heap.objs.size ∨ b ∈ frs outer := fun b => by
    unfold frs
    rw [List.filterMap_cons]
    exact List.mem_cons
  have un : Un (frs outer) [] H0 H s0.heap s.heap := I.base
  have nh : ∀ b o, s0.heap.get? b = some o → b ∉ frs outer → b ∉ hid := fun b o e nb z => by
    rcases hh b z with q | q
    · rcases (fs b).mp q with q | q
      · exact Lne b o e q
      · exact nb q
    · rw [q.1] at e; cases e
  have trk : ∀ b u, H b = some u → b ∉ hid := fun b u e z => by
    rcases hh b z with q | q
    · rw [I.stkFree b q] at e; cases e
    · rw [q.2] at e; cases e
  have T0 : s0.heap.get? T = none ∧ H T = none := by
    rcases hT with z | z
    · rcases hh T z with q | q
      · exact absurd q nT
      · exact q
    · refine ⟨?_, ?_⟩
      · cases q : s0.heap.get? T with
        | none => rfl
        | some o =>
          obtain ⟨o', e⟩ := un.there T o q (by simp)
          rw [z] at e; cases e
      · cases q : H T with
        | none => rfl
        | some u =>
          obtain ⟨o', e⟩ := (I.hok T u q).isThere
          rw [show s.heap.get? T = none from z] at e; cases e
  refine ⟨a, T, C, H, rfl, I.os, I.bare, ⟨fun b o e n nb _ => ?_, fun b o e n hb' _ => ?_, un.free, fun b o e _ => ?_, un.tups, un.frzs, un.tbls⟩, fun b u e => ?_, fl, ha0, T0.1, hHa, T0.2, hE⟩
  · exact k1 b o (nh b o e nb) (un.keep b o e n nb (by simp))
  · obtain ⟨sl, q⟩ := un.slot b o e n hb' (by simp)
    obtain ⟨sl', q'⟩ := k2 b _ ((fs b).mpr (.inr hb')) q
    exact ⟨sl', q'⟩
  · obtain ⟨o', q⟩ := un.there b o e (by simp)
    by_cases hb' : b ∈ frs outer
    · obtain ⟨sl, q'⟩ := k2 b _ ((fs b).mpr (.inr hb')) q
      exact ⟨_, q'⟩
    · exact ⟨o', k1 b o' (nh b o e hb') q⟩
  · refine (I.hok b u e).stay (fun c v hc q => k1 c v ?_ q) (fun _ q => q) fun _ _ q => q
    rcases hc with z | z
    · rw [z]; exact trk b u e
    · exact trk c _ z
theorem pass1 : Passes (CX1 P w) (cxOf (CX1 P w) P w K mg base N qual scope f cd A outer s0 H0 E) E := by
  intro pins σ H s e s' I h
  obtain ⟨a, T, C, H', rfl, os, bare, un, hok, fl, na, nT, hHa, hHT, hE⟩ := h
  have I3 : Inv (cxOf (CX1 P w) P w K mg base N qual scope f cd A outer s0 H0 E) pins σ H' s' := I.call' (ch := []) os un hok bare (fun b z => absurd z (by simp))
  have un0 : Un (frs outer) [] H0 H s0.heap s.heap := I.base
  have n0 : ∀ b, s.heap.get? b = none → s0.heap.get? b = none := fun b z => by
    cases q : s0.heap.get? b with
    | none => rfl
    | some o =>
      obtain ⟨o', e⟩ := un0.there b o q (by simp)
      rw [z] at e; cases e
  have hl : s'.heap.FunFrames (PySem.W.hideAll s'.heap (a :: T :: frs (envOfC qual scope s0.heap.objs.size f cd :: outer))) (envOfC qual scope s0.heap.objs.size f cd :: outer) :=
    frames_rebase I3.stack fun L hL => PySem.W.hideAll_none _ (List.mem_cons_of_mem _ (List.mem_cons_of_mem _ hL))
  obtain ⟨oe, vs, oT, ts, e1, e2, e3, e4, e6, e7, e8, e9⟩ := fl
  show wpAny (model P w) (A.deeper (envOfC qual scope s0.heap.objs.size f cd)) (leaving (envOfC qual scope s0.heap.objs.size f cd) (.ref a)) _ _ s'
  refine wpAny_leaving_next (base := PySem.W.hideAll s'.heap (a :: T :: frs (envOfC qual scope s0.heap.objs.size f cd :: outer))) (cls := .ref C) I3.ok.frames hl rfl
    ⟨oe, vs, T, oT, ts, e1, e2, e3, e4, PySem.W.hideAll_none _ (by simp), e6, e7, e8, e9⟩ (fun b o q => PySem.W.of_hideAll _ q) (PySem.W.hideAll_none _ (by simp)) fun h' lf => ?_
  refine fly_end I3 rfl hl lf (by simp) (fun b hb => ?_) hE (n0 a na) hHa
  rcases List.mem_cons.mp hb with z | hb
  · rw [z]; exact .inr ⟨n0 a na, hHa⟩
  rcases List.mem_cons.mp hb with z | hb
  · rw [z]; exact .inr ⟨n0 T nT, hHT⟩
  · exact .inl hb
theorem raised1 {pins : List (Addr × Obj)} {σ : St} {H : Hp} {s : Shared} {h' : Heap} {a C : Addr} {vs : List Value} (I : Inv (cxOf (CX1 P w) P w K mg base N qual scope f cd A outer s0 H0 E) pins σ H s) (m : Heap.MadeExcOf s.heap h' a (.ref C) vs) (hE : E (.ref C) none H) :
    (cxOf (CX1 P w) P w K mg base N qual scope f cd A outer s0 H0 E).xe (.ref a) { s with heap := h' } := by
  obtain ⟨t, e1, _, _⟩ := m.there
  have I3 : Inv (cxOf (CX1 P w) P w K mg base N qual scope f cd A outer s0 H0 E) pins σ H { s with heap := h' } := I.kept (t' := s.toks) m.keeps
  have un0 : Un (frs outer) [] H0 H s0.heap s.heap := I.base
  have a0 : s0.heap.get? a = none := by
    cases q : s0.heap.get? a with
    | none => rfl
    | some o =>
      obtain ⟨o', e⟩ := un0.there a o q (by simp)
      rw [m.new] at e; cases e
  have hHa : H a = none := by
    cases q : H a with
    | none => rfl
    | some u =>
      obtain ⟨o', e⟩ := (I.hok a u q).isThere
      rw [m.new] at e; cases e
  have hl : h'.FunFrames (PySem.W.hideAll h' (a :: frs (envOfC qual scope s0.heap.objs.size f cd :: outer))) (envOfC qual scope s0.heap.objs.size f cd :: outer) :=
    frames_rebase I3.stack fun L hL => PySem.W.hideAll_none _ (List.mem_cons_of_mem _ hL)
  show wpAny (model P w) (A.deeper (envOfC qual scope s0.heap.objs.size f cd)) (leaving (envOfC qual scope s0.heap.objs.size f cd) (.ref a)) _ _ { s with heap := h' }
  refine wpAny_leaving_first (base := PySem.W.hideAll h' (a :: frs (envOfC qual scope s0.heap.objs.size f cd :: outer))) I3.ok.frames hl rfl e1 (fun b o q => PySem.W.of_hideAll _ q) (PySem.W.hideAll_none _ (by simp)) rfl rfl fun h2 lf => ?_
  refine fly_end (s := { s with heap := h' }) I3 rfl hl lf (by simp) (fun b hb => ?_) hE a0 hHa
  rcases List.mem_cons.mp hb with z | hb
  · rw [z]; exact .inr ⟨a0, hHa⟩
  · exact .inl hb
theorem Fun.okX {x qual : Str} {st : Stmt} {f : Addr} {fd : FuncData} {N ps : List Str} {k : Nat} {sp : Sp} (F : Fun K x qual st f fd) (S : FnScope N ps (defScope st)) (len : ∀ vs H Q E, sp vs H Q E → vs.length = ps.length)
    (hbody : ∀ (cdv : Value) (A : Around) (outer : List Env) (s : Shared) (H : Hp) (vs : List V) (Q : VK) (E : XK), Room k (A.deeper (envOfC qual (defScope st) s.heap.objs.size f cdv)) → sp vs H Q E →
      ∃ t, PSs (cxOf (CX1 P w) P w K mg base N qual (defScope st) f cdv A outer s H E) (defBody st) t ∧ t { nx := fun _ H' => Q .non H', rt := Q } (start N vs) H) : FnOk P w K mg base (CX1 P w) (k + 1) f fd ps sp := by
  obtain ⟨oc, od, kV, doc, pm, an, cdv, ct, osl, rfl, lk, hcd⟩ := F.ex
  exact fn_of lk hcd S len fun A outer s H vs Q E hr hsp => hbody cdv A outer s H vs Q E hr hsp
end
end L2
set_option Elab.async false
set_option linter.all false
set_option maxRecDepth 100000
namespace L2
open PySem PySem.Spec PyProof.Rows
abbrev vbm : List Value := [.type "ValueError", .type "Exception", .type "BaseException", .type "object"]
def qns : List Str := ["__init__", "__getattribute__", "__getattr__", "__class__"]
inductive TailN (h : Heap) (bmB : List Value) : List Value → Prop
  | base : TailN h bmB bmB
  | own {A : Addr} {c0 : Value} {dd : Option Addr} {cd : ClassData} {sl : Array (Option Value)} {mA : Str → Option Value} {tl : List Value} :
      h.get? A = some { cls := c0, dict := dd, data := .cls cd, slots := sl } → h.Ns cd.ns mA → (∀ n ∈ qns, mA n = none) → TailN h bmB tl → TailN h bmB (.ref A :: tl)
theorem TailN.tail {h : Heap} {bmB tl : List Value} (T : TailN h bmB tl) : OwnTail h bmB tl := by
  induction T with
  | base => exact .base
  | own hA hN hq _ ih => exact .own hA hN (hq _ (.head _)) ih
theorem TailN.keeps {h h' : Heap} {bmB tl : List Value} (T : TailN h bmB tl) (hk : ∀ b o, h.get? b = some o → h'.get? b = some o) : TailN h' bmB tl := by
  induction T with
  | base => exact .base
  | own hA hN hq _ ih => exact .own (hk _ _ hA) (hN.keeps hk) hq ih
def EcH (h : Heap) (C : Addr) (bm : List Value) : Prop := ∃ N nm q bs hdct sn sub ab col dd k0 k1 k2 k3 k5 mN, h.get? C = some (excClassObj nm q C N bs bm hdct sn sub ab col dd k0 k1 k2 k3 k5 "ValueError.__new__") ∧ h.Ns N mN ∧ (∀ n ∈ qns, mN n = none) ∧ TailN h vbm bm
theorem EcH.keeps {h h' : Heap} {C : Addr} {bm : List Value} (x : EcH h C bm) (hk : ∀ b o, h.get? b = some o → h'.get? b = some o) : EcH h' C bm := by
  obtain ⟨N, nm, q, bs, hdct, sn, sub, ab, col, dd, k0, k1, k2, k3, k5, mN, hC, hN, hq, T⟩ := x
  exact ⟨N, nm, q, bs, hdct, sn, sub, ab, col, dd, k0, k1, k2, k3, k5, mN, hk _ _ hC, hN.keeps hk, hq, T.keeps hk⟩
section
variable {M : Model} {prog : Program} {w : World} {A : Around} {E : Value → Shared → Prop} {h : Heap} {g : Array GenState} {d : Drawn} {t : Nat} {os : OsState} {a C : Addr} {o : Obj} {bm : List Value}
theorem along_N {bmB tl : List Value} {n : Str} {y : Option Value} {Q : Option Value → Shared → Prop} (hn : n ∈ qns) (T : TailN h bmB tl) (hrest : lookupAlong bmB n = pure y) (hq : Q y ⟨h, g, d, t, os⟩) :
    wpAny M A (lookupAlong tl n) Q E ⟨h, g, d, t, os⟩ := by
  induction T with
  | base => rw [hrest]; exact wpAny_pure hq
  | own hA hN hni _ ih =>
    rw [lookupAlong_cons]
    refine wpAny_bind (wpAny_classOwn_cls hA hN ?_)
    rw [hni n hn]
    exact ih
theorem look_N {n : Str} {y : Option Value} {Q : Option Value → Shared → Prop} (hn : n ∈ qns) (x : EcH h C bm) (hB : typeLookup (.type "ValueError") n = pure y) (hq : Q y ⟨h, g, d, t, os⟩) : wpAny M A (typeLookup (.ref C) n) Q E ⟨h, g, d, t, os⟩ := by
  obtain ⟨N, nm, q, bs, hdct, sn, sub, ab, col, dd, k0, k1, k2, k3, k5, mN, hC, hN, hmN, T⟩ := x
  have hrest : lookupAlong vbm n = pure y := by rw [typeLookup_eq, PySem.F.excBase_ValueError.mroIs] at hB; exact hB
  rw [typeLookup_eq]
  refine wpAny_bind (wpAny_mroOf_exc hC ?_)
  rw [lookupAlong_cons]
  refine wpAny_bind (wpAny_classOwn_exc hC hN ?_)
  rw [hmN n hn]
  exact along_N hn T hrest hq
theorem lk_ve_class : typeLookup (.type "ValueError") "__class__" = pure (some (.builtin "object.__class__")) := by rw [typeLookup_type, builtinLookup_eq_fast]; kernel_rfl
theorem sub_N {base : Value} {Q : Bool → Shared → Prop} (x : EcH h C bm) (hq : Q ((Value.ref C :: bm).contains base) ⟨h, g, d, t, os⟩) : wpAny M A (isSubtype (.ref C) base) Q E ⟨h, g, d, t, os⟩ := by
  obtain ⟨N, nm, q, bs, hdct, sn, sub, ab, col, dd, k0, k1, k2, k3, k5, mN, hC, hN, hmN, T⟩ := x
  exact wpAny_isSubtype_exc hC hq
theorem EcH.has {T : String} (x : EcH h C bm) (hb : vbm.contains (.type T) = true) : (Value.ref C :: bm).contains (.type T) = true := by
  obtain ⟨N, nm, q, bs, hdct, sn, sub, ab, col, dd, k0, k1, k2, k3, k5, mN, hC, hN, hmN, TT⟩ := x
  rw [List.contains_cons, TT.tail.hasType hb, Bool.or_true]
theorem class_get_N {R : Result → Shared → Prop} (x : EcH h C bm) (hx : h.get? a = some o) (hc : o.cls = .ref C) (hq : R (.ok (.ret (.ref C))) ⟨h, g, d, t, os⟩) :
    codeAny (model prog w) A (.call (.builtin "getset_descriptor.__get__") ⟨[.builtin "object.__class__", .ref a, .ref C], []⟩) R ⟨h, g, d, t, os⟩ := by
  have hT5 : (⟨h, g, d, t, os⟩ : Shared).TypeIs (.builtin "object.__class__") "getset_descriptor" := PySem.F.typeOf_object_class
  have hcB : (Value.ref C :: bm).contains (.type (".".intercalate ("object.__class__".cutAt '.').dropLast)) = true := by
    rw [PySem.F.owner_object_class]; exact x.has (by decide +kernel)
  refine codeAny_call_builtin PySem.F.slot_gs_get.plain PySem.F.entry_gs_get (PySem.F.slot_gs_get.check _ _ _ _ _ _ _ _ hT5 (PySem.F.args_gs_get _ _ _) ?_)
  repeat (any_goals (first | assumption | (with_reducible refine wpAny_loadPart_at hx ?_; rw [hc]) | (with_reducible refine sub_N x ?_; rw [hcB]) | wp_step))
  refine ⟨Code.quiet_builtin _ (by decide +kernel), codeAny_builtin PySem.F.entry_object_class ?_⟩
  repeat (any_goals (first | assumption | (with_reducible refine wpAny_loadPart_at hx ?_; rw [hc]) | wp_step))
theorem class_entry_N {tk : Tok} {Q : PySem.Fin → Shared → Prop} (x : EcH h C bm) (hx : h.get? a = some o) (hc : o.cls = .ref C) (hq : Q (.done (.ret (.ref C))) ⟨h, g, d, t, os⟩) :
    wpAny (model prog w) A (Builtin.«object.__getattribute__» ⟨[.ref a, .str "__class__" tk], []⟩) Q E ⟨h, g, d, t, os⟩ := by
  have hT5 : (⟨h, g, d, t, os⟩ : Shared).TypeIs (.builtin "object.__class__") "getset_descriptor" := PySem.F.typeOf_object_class
  have f5 := PySem.F.typeOf_object_class
  have f6 := PySem.F.slot_gs_get.lookup
  have f7 := PySem.F.slot_gs_set.lookup
  have hm : ("__class__" : Str) ∈ qns := .tail _ (.tail _ (.tail _ (.head _)))
  repeat (any_goals (first | assumption | (with_reducible refine wpAny_loadPart_at hx ?_; rw [hc]) | with_reducible refine look_N hm x lk_ve_class ?_ | wp_step))
  refine class_get_N x hx hc ?_
  repeat (any_goals (first | assumption | wp_step))
theorem check_ga_N {nameV : Value} {Q : Unit → Shared → Prop} (x : EcH h C bm) (hx : h.get? a = some o) (hc : o.cls = .ref C) (hq : Q () ⟨h, g, d, t, os⟩) : wpAny M A (checkBuiltinCall "BaseException.__getattribute__" ⟨[.ref a, nameV], []⟩) Q E ⟨h, g, d, t, os⟩ := by
  have hk : builtinKind "BaseException.__getattribute__" = some .slot := by decide +kernel
  have hsplit : splitId "BaseException.__getattribute__" = some ("BaseException", "__getattribute__") := by decide +kernel
  have hcB : (Value.ref C :: bm).contains (.type "BaseException") = true := x.has (by decide +kernel)
  have ha := PySem.F.args_bexc_ga (.ref a) nameV
  simp only [checkBuiltinCall, hk, hsplit]
  refine wpAny_bind ?_
  · unfold isInstance
    repeat (first | (with_reducible refine wpAny_loadPart_at hx ?_; rw [hc]) | (with_reducible refine sub_N x ?_; rw [hcB]) | wp_step)
    exact hq
theorem class_by_N {tk : Tok} {Q : Value → Shared → Prop} (x : EcH h C bm) (hx : h.get? a = some o) (hc : o.cls = .ref C) (hq : Q (.ref C) ⟨h, g, d, t, os⟩) : wpAny (model prog w) A (getAttrBy (.ref a) (.str "__class__" tk) false) Q E ⟨h, g, d, t, os⟩ := by
  have FB := PySem.F.attrBase_ValueError
  have f3 := FB.ga.bind (.ref a)
  have hx2 : (Value.builtin "BaseException.__getattribute__" == Value.builtin "object.__getattribute__") = false := by decide +kernel
  have hx1 : (onTheHeap (Value.ref C) && Value.builtin "BaseException.__getattribute__" == Value.builtin "object.__getattribute__") = false := by rw [hx2]; rfl
  have hm1 : ("__getattribute__" : Str) ∈ qns := .tail _ (.head _)
  have hm2 : ("__getattr__" : Str) ∈ qns := .tail _ (.tail _ (.head _))
  repeat (any_goals (first | assumption | (with_reducible refine wpAny_loadPart_at hx ?_; rw [hc]) | with_reducible refine look_N hm1 x FB.ga.lookup ?_ | with_reducible refine look_N hm2 x FB.noGetattr ?_ | wp_step))
  refine codeAny_call_builtin FB.ga.plain PySem.F.entry_bexc_ga (check_ga_N x hx hc (class_entry_N x hx hc ?_))
  repeat (any_goals (first | assumption | wp_step))
theorem class_attr_N {Q : Option Value → Shared → Prop} (x : EcH h C bm) (hx : h.get? a = some o) (hc : o.cls = .ref C) (hq : Q (some (.ref C)) ⟨h, g, d, t + 1, os⟩) : wpAny (model prog w) A (getAttr? (.ref a) "__class__") Q E ⟨h, g, d, t, os⟩ := by
  unfold getAttr? getAttrBy?
  repeat (any_goals (first | assumption | with_reducible apply class_by_N x hx hc | wp_step))
end
end L2
set_option Elab.async false
set_option linter.all false
set_option maxRecDepth 100000
namespace L2
open PySem PySem.Spec PyProof.Rows
section
variable {M : Model} {prog : Program} {w : World} {A : Around} {E : Value → Shared → Prop} {h : Heap} {g : Array GenState} {d : Drawn} {t : Nat} {os : OsState} {a C : Addr} {o : Obj} {bm : List Value}
theorem isi_own {C' : Addr} {dd' : Option Addr} {cd' : ClassData} {sl' : Array (Option Value)} {Q : Value → Shared → Prop} (x : EcH h C bm) (hx : h.get? a = some o) (hc : o.cls = .ref C) (hC' : h.get? C' = some { cls := .type "type", dict := dd', data := .cls cd', slots := sl' })
    (hq : ∀ t', Q (.bool ((Value.ref C :: bm).contains (.ref C'))) ⟨h, g, d, t', os⟩) : wpAny (model prog w) A (call (.builtin "isinstance") [.ref a, .ref C']) Q E ⟨h, g, d, t, os⟩ := by
  have f3 := tc_sub
  have hT' : (⟨h, g, d, t, os⟩ : Shared).TypeIs (.ref C') "type" := ⟨_, hC', rfl⟩
  obtain ⟨N, nm, q, bs, hdct, sn, sub, ab, col, dd, k0, k1, k2, k3, k5, mN, hC, _⟩ := id x
  refine PyProof.Rows.call_isinstance_of ?_ (by intro e; cases e)
  by_cases e : C = C'
  · subst e
    have hb : (Value.ref C :: bm).contains (.ref C) = true := by simp
    rw [hb] at hq
    unfold Builtin.«isinstance.nested»
    repeat (any_goals (first | assumption | (with_reducible refine wpAny_loadPart_at hx ?_; rw [hc]) | wp_step))
    exact hq _
  · have hne : (Value.ref C == Value.ref C') = false := by simp [e]
    cases hb : (Value.ref C :: bm).contains (.ref C') with
    | true =>
      rw [hb] at hq
      unfold Builtin.«isinstance.nested»
      repeat (any_goals (first | assumption | (with_reducible refine wpAny_loadPart_at hx ?_; rw [hc]) | (with_reducible refine wpAny_loadPart_at hC' ?_) | (with_reducible refine sub_N x ?_; rw [hb]) | wp_step))
      exact hq _
    | false =>
      rw [hb] at hq
      have hTC : ∀ t', (⟨h, g, d, t', os⟩ : Shared).TypeIs (.ref C) "type" := fun _ => ⟨_, hC, rfl⟩
      unfold Builtin.«isinstance.nested»
      repeat (any_goals (first | assumption | (with_reducible refine wpAny_loadPart_at hx ?_; rw [hc]) | (with_reducible refine wpAny_loadPart_at hC' ?_) | (with_reducible refine sub_N x ?_; rw [hb]) | with_reducible refine class_attr_N x hx hc ?_ | (with_reducible refine wpAny_loadPart_at hC ?_) | wp_step))
      exact hq _
theorem isi_ve {Q : Value → Shared → Prop} (x : EcH h C bm) (hx : h.get? a = some o) (hc : o.cls = .ref C)
    (hq : ∀ t', Q (.bool true) ⟨h, g, d, t', os⟩) : wpAny (model prog w) A (call (.builtin "isinstance") [.ref a, .type "ValueError"]) Q E ⟨h, g, d, t, os⟩ := by
  have f3 := tc_sub
  have hty : typeOf (.type "ValueError") = pure (.type "type") := by kernel_rfl
  have hne : (Value.ref C == Value.type "ValueError") = false := by rfl
  have hb : (Value.ref C :: bm).contains (.type "ValueError") = true := x.has (by decide +kernel)
  refine PyProof.Rows.call_isinstance_of ?_ (by intro e; cases e)
  unfold Builtin.«isinstance.nested»
  repeat (any_goals (first | assumption | (with_reducible refine wpAny_loadPart_at hx ?_; rw [hc]) | (with_reducible refine sub_N x ?_; rw [hb]) | wp_step))
  exact hq _
end
end L2
set_option Elab.async false
set_option linter.all false
set_option maxRecDepth 100000
namespace L2
open PySem PySem.Spec PyProof.Rows
def ExO (C a : Addr) : HO := .ext fun h => ∃ o, h.get? a = some o ∧ o.cls = .ref C
section
variable {X : Cx}
theorem Inv.exo {pins : List (Addr × Obj)} {σ : St} {H : Hp} {s : Shared} {a C : Addr} (I : Inv X pins σ H s) (h : H a = some (ExO C a)) : ∃ o, s.heap.get? a = some o ∧ o.cls = .ref C := (I.hok a _ h).1
theorem call_isi_exc {K : PySem.W.Frag} {C' : Addr} (hK : X.K = K) (hC' : ∀ h : Heap, K.In h → ∃ dd cd sl, h.get? C' = some { cls := .type "type", dict := dd, data := .cls cd, slots := sl }) :
    CallR X (.builtin "isinstance") (fun xs H Q => ∃ a C bm, xs = [.ref a, .ref C'] ∧ H a = some (ExO C a) ∧ (∀ h : Heap, K.In h → EcH h C bm) ∧ Q (.bl ((Value.ref C :: bm).contains (.ref C'))) H) := by
  subst hK
  intro pins s σ H xs us Q I r h
  obtain ⟨a, C, bm, rfl, hH, hE, q⟩ := h
  obtain ⟨u, t, rfl, rx, rt⟩ := vals2 r
  cases rx
  cases rt
  obtain ⟨o, ho, hc⟩ := I.exo hH
  obtain ⟨dd, cd, sl, h2⟩ := hC' _ I.kIn
  obtain ⟨hh, g, d, tk, os⟩ := s
  exact isi_own (hE _ I.kIn) ho hc h2 fun t' => ⟨.bl _, H, I.tok _, rfl, q⟩
theorem call_isi_ve {K : PySem.W.Frag} (hK : X.K = K) :
    CallR X (.builtin "isinstance") (fun xs H Q => ∃ a C bm, xs = [.ref a, .ty "ValueError"] ∧ H a = some (ExO C a) ∧ (∀ h : Heap, K.In h → EcH h C bm) ∧ Q (.bl true) H) := by
  subst hK
  intro pins s σ H xs us Q I r h
  obtain ⟨a, C, bm, rfl, hH, hE, q⟩ := h
  obtain ⟨u, t, rfl, rx, rt⟩ := vals2 r
  cases rx
  cases rt
  obtain ⟨o, ho, hc⟩ := I.exo hH
  obtain ⟨hh, g, d, tk, os⟩ := s
  exact isi_ve (hE _ I.kIn) ho hc fun t' => ⟨.bl _, H, I.tok _, rfl, q⟩
def tRaise (C : Addr) (E : XK) : TS := fun _ _ H => E (.ref C) none H
theorem ps_raise {x txt : Str} {np cpos pos p2 : Pos} {k : Nat} {C : Addr} {bm : List Value} {E : XK} (hEc : ∀ h : Heap, X.K.In h → EcH h C bm) (hg : Gl X x) (hm : X.mg x = some (.ref C)) (hc : X.calm = true)
    (hR : ∀ (pins : List (Addr × Obj)) (σ : St) (H : Hp) (s : Shared) (h' : Heap) (a : Addr) (vs : List Value), Inv X pins σ H s → Heap.MadeExcOf s.heap h' a (.ref C) vs → E (.ref C) none H → X.xe (.ref a) { s with heap := h' })
    (hdb : (x == ("__debug__" : Str)) = false := by decide) :
    PS X (.Raise (some (.Call (.Name x np) [.Constant (.str txt) k p2] [] cpos)) none pos) (tRaise C E) := by
  intro pins s σ H D I h
  obtain ⟨N, nm, q, bs, hdct, sn, sub, ab, col, dd, k0, k1, k2, k3, k5, mN, hC, hN, hq, T⟩ := hEc _ I.ok.mod.kin
  refine wpAny_Raise_call_subU (C := C) (nm := nm) (q := q) (N := N) (bs := bs) (bm := bm) (hdct := hdct) (sn := sn) (sub := sub) (ab := ab) (col := col) (dd := dd) (k0 := k0) (k1 := k1) (k2 := k2) (k3 := k3) (k5 := k5) (mN := mN)
    PySem.F.excBase_ValueError (by decide +kernel) PySem.F.excBase_ValueError (T.tail.hasType (by decide +kernel)) (I.ok.hd hc) rfl (hq _ (.head _)) ?_
  refine ld_glob I hg hm ⟨rfl, ?_⟩ hdb
  have ha : PA X [.Constant (.str txt) k p2] (tCons (tC (.str txt)) tNil) := pa_cons pe_str pa_nil
  refine Calls.evalArgs_plain (wpAny_mono (ha cpos pins s σ H (fun xs H1 => xs.length = 1 ∧ E (.ref C) none H1) I ⟨rfl, h⟩) (fun vs s₂ hx9 => ?_) fun _ _ y => y)
  obtain ⟨xs, H1, I1, r, z1, z⟩ := hx9
  have hkk : ∀ b o, X.base.get? b = some o → s₂.heap.get? b = some o := I1.bk
  have hl := r.length
  refine ⟨rfl, ?_, hkk _ _ hC, hN.keeps hkk, T.tail.keeps hkk, fun h' a' m => hR pins σ H1 s₂ h' a' _ I1 m z⟩
  show vs.length ≤ _
  rw [sizeLine_eq]
  omega
end
end L2
set_option Elab.async false
set_option linter.all false
set_option maxRecDepth 100000
namespace L2
open PySem PySem.Spec PyProof.Rows
section
variable {P : Program} {w : World} {l : List Env} {H H' : Hp} {s s' : Shared} {E : XK} {a T C : Addr}
theorem cx1_left {h' bs : Heap} (un : Un (frs l) [] H H' s.heap s'.heap) (os : s'.os = s.os) (bare : AllBare s'.gens) (hok : HOk P w H' s'.heap) (na : s.heap.get? a = none) (nT : s.heap.get? T = none) (hHa : H' a = none) (hHT : H' T = none) (hE : E (.ref C) none H')
    (hb : bs = PySem.W.hideAll s'.heap (a :: T :: frs l)) (hl : s'.heap.FunFrames bs l) (frf : ∀ b ∈ frs l, H' b = none) (x : Heap.Left bs l a (.ref C) s'.heap h') : CX1 P w l H s E (.ref a) { s' with heap := h' } := by
  obtain ⟨k1, k2, T', fl, nT', hT'⟩ := left_facts hb hl x (by simp)
  have nh : ∀ b o, s.heap.get? b = some o → b ∉ frs l → b ∉ a :: T :: frs l := fun b o e nb z => by
    rcases List.mem_cons.mp z with q | z
    · rw [q, na] at e; cases e
    rcases List.mem_cons.mp z with q | z
    · rw [q, nT] at e; cases e
    · exact nb z
  have trk : ∀ b u, H' b = some u → b ∉ a :: T :: frs l := fun b u e z => by
    rcases List.mem_cons.mp z with q | z
    · rw [q, hHa] at e; cases e
    rcases List.mem_cons.mp z with q | z
    · rw [q, hHT] at e; cases e
    · rw [frf b z] at e; cases e
  have T0 : s.heap.get? T' = none ∧ H' T' = none := by
    rcases hT' with z | z
    · rcases List.mem_cons.mp z with q | z
      · rw [q]; exact ⟨na, hHa⟩
      rcases List.mem_cons.mp z with q | z
      · rw [q]; exact ⟨nT, hHT⟩
      · exact absurd z nT'
    · refine ⟨?_, ?_⟩
      · cases q : s.heap.get? T' with
        | none => rfl
        | some o =>
          obtain ⟨o', e⟩ := un.there T' o q (by simp)
          rw [z] at e; cases e
      · cases q : H' T' with
        | none => rfl
        | some u =>
          obtain ⟨o', e⟩ := (hok T' u q).isThere
          rw [show s'.heap.get? T' = none from z] at e; cases e
  refine ⟨a, T', C, H', rfl, os, bare, ⟨fun b o e n nb _ => ?_, fun b o e n hb' _ => ?_, un.free, fun b o e _ => ?_, un.tups, un.frzs, un.tbls⟩, fun b u e => ?_, fl, na, T0.1, hHa, T0.2, hE⟩
  · exact k1 b o (nh b o e nb) (un.keep b o e n nb (by simp))
  · obtain ⟨sl, q⟩ := un.slot b o e n hb' (by simp)
    obtain ⟨sl', q'⟩ := k2 b _ hb' q
    exact ⟨sl', q'⟩
  · obtain ⟨o', q⟩ := un.there b o e (by simp)
    by_cases hb' : b ∈ frs l
    · obtain ⟨sl, q'⟩ := k2 b _ hb' q
      exact ⟨_, q'⟩
    · exact ⟨o', k1 b o' (nh b o e hb') q⟩
  · refine (hok b u e).stay (fun c v hc q => k1 c v ?_ q) (fun _ q => q) fun _ _ q => q
    rcases hc with z | z
    · rw [z]; exact trk b u e
    · exact trk c _ z
theorem FlyAt.traced {h bs : Heap} {cls : Value} (fl : FlyAt h a cls T) (hT : bs.get? T = none) : ∃ a0, h.TracedW bs a cls a0 := by
  obtain ⟨oe, vs, oT, ts, e1, e2, e3, e4, e6, e7, e8, e9⟩ := fl
  have hs : 1 < vs.size := (Array.getElem?_eq_some_iff.mp e4).1
  exact ⟨vs[0]'(by omega), oe, vs, T, oT, ts, e1, ⟨e2, Array.getElem?_eq_getElem _⟩, e3, e4, hT, e6, e7, e8, e9⟩
end
section
variable {X : Cx} {pins : List (Addr × Obj)} {σ : St} {H : Hp} {s s' : Shared} {E : XK} {e : Value} {M : Model} {A : Around} {F : Value → Shared → Prop} {L : Addr}
theorem Inv.caught (I : Inv X pins σ H s) (h : CX1 X.prog X.w X.stack H s E e s') : ∃ (a C : Addr) (H' : Hp), e = .ref a ∧ Inv X pins σ H' s' ∧ s.heap.get? a = none ∧ H' a = none ∧ E (.ref C) none H' ∧ ∃ o, s'.heap.get? a = some o ∧ o.cls = .ref C := by
  obtain ⟨a, T, C, H', rfl, os, bare, un, hok, ⟨oe, vs, oT, ts, e1, e2, _⟩, na, nT, hHa, hHT, hE⟩ := h
  exact ⟨a, C, H', rfl, I.call' (ch := []) os un hok bare (fun b z => absurd z (by simp)), na, hHa, hE, oe, e1, e2⟩
theorem cx1_note (hst : X.stack = X.env :: X.outer) (hf : X.env.frame = some L) (hfr : A.frames = some X.stack) (I : Inv X pins σ H s) (h : CX1 X.prog X.w X.stack H s E e s') :
    wpAny M A (noteFrame e X.env) (fun _ s2 => wpAny M A (setFlight e none) (fun _ s3 => CX1 X.prog X.w X.stack H s E e s3) F s2) F s' := by
  obtain ⟨a, T, C, H', rfl, os, bare, un, hok, fl, na, nT, hHa, hHT, hE⟩ := h
  have I3 : Inv X pins σ H' s' := I.call' (ch := []) os un hok bare (fun b z => absurd z (by simp))
  have hl : s'.heap.FunFrames (PySem.W.hideAll s'.heap (a :: T :: frs X.stack)) X.stack :=
    frames_rebase I3.stack fun L hL => PySem.W.hideAll_none _ (List.mem_cons_of_mem _ (List.mem_cons_of_mem _ hL))
  obtain ⟨a0, tr⟩ := fl.traced (bs := PySem.W.hideAll s'.heap (a :: T :: frs X.stack)) (PySem.W.hideAll_none _ (by simp))
  have fin := fun (h' : Heap) => cx1_left (P := X.prog) (w := X.w) (h' := h') un os bare hok na nT hHa hHT hE rfl hl I3.stkFree
  generalize hbs : PySem.W.hideAll s'.heap (a :: T :: frs X.stack) = bs at *
  have kb : bs.StaysIn s'.heap := fun b o q => by rw [← hbs] at q; exact PySem.W.of_hideAll _ q
  have en : bs.get? a = none := by rw [← hbs]; exact PySem.W.hideAll_none _ (by simp)
  have hl2 := hl
  rw [hst] at hl2
  refine wpAny_looks_onW (base := bs) (outer := X.outer) (by rw [← hst]; exact hfr) hf ⟨kb, en, hl2, tr⟩ fun h1 held up1 => ?_
  refine wpAny_landsW held fun h2 fly up2 => ?_
  obtain ⟨f1, f2, f3, f4⟩ := fly.flying
  exact fin h2 ⟨f1, by rw [hst]; exact f3, f4, up1.trans up2⟩
theorem cx1_set (I : Inv X pins σ H s) (h : CX1 X.prog X.w X.stack H s E e s') : wpAny M A (setFlight e none) (fun _ s3 => CX1 X.prog X.w X.stack H s E e s3) F s' := by
  obtain ⟨a, T, C, H', rfl, os, bare, un, hok, fl, na, nT, hHa, hHT, hE⟩ := h
  have I3 : Inv X pins σ H' s' := I.call' (ch := []) os un hok bare (fun b z => absurd z (by simp))
  have hl : s'.heap.FunFrames (PySem.W.hideAll s'.heap (a :: T :: frs X.stack)) X.stack :=
    frames_rebase I3.stack fun L hL => PySem.W.hideAll_none _ (List.mem_cons_of_mem _ (List.mem_cons_of_mem _ hL))
  obtain ⟨a0, tr⟩ := fl.traced (bs := PySem.W.hideAll s'.heap (a :: T :: frs X.stack)) (PySem.W.hideAll_none _ (by simp))
  have fin := fun (h' : Heap) => cx1_left (P := X.prog) (w := X.w) (h' := h') un os bare hok na nT hHa hHT hE rfl hl I3.stkFree
  generalize hbs : PySem.W.hideAll s'.heap (a :: T :: frs X.stack) = bs at *
  have kb : bs.StaysIn s'.heap := fun b o q => by rw [← hbs] at q; exact PySem.W.of_hideAll _ q
  refine wpAny_setFlight_noneW kb hl tr.at fun h1 k1 k2 k3 k4 => fin h1 ⟨k1, k2, ?_, fun b o q n => ⟨o.slots, k4 b o q n⟩⟩
  obtain ⟨oe, vs, T, oT, ts, he, hc, r⟩ := k3
  exact ⟨oe, vs, T, oT, ts, he, hc.1, r⟩
theorem Inv.trackN {D : Addr} {u : HO} (I : Inv X pins σ H s) (new : ObjOk X.prog X.w (upd H D u) s.heap D u) (hn : H D = none) (hL : D ≠ X.env.locals)
    (h1 : X.s₀.heap.get? D = none) (h2 : ∀ x c, X.env.cells.lookup x = some c → c ≠ D) (h3 : ∀ p ∈ X.pn ++ pins, p.1 ≠ D) : Inv X pins σ (upd H D u) s := by
  have ne : ∀ b v, H b = some v → b ≠ D := fun b v e z => by rw [z, hn] at e; cases e
  refine ⟨I.ok, I.os, I.bare, ⟨I.base.keep, I.base.slot, fun b o q n hx => ?_, I.base.there, fun b xs q => ?_, fun b o v q => ?_, fun b ps q => ?_⟩, I.loc, I.cell, ?_, fun x c q => ?_, fun p hp => ?_, fun b v q => ?_, I.len⟩
  · rw [upd_ne (fun z => by rw [z, h1] at q; cases q)]; exact I.base.free b o q n hx
  · have := I.base.tups b xs q
    rw [upd_ne (ne b _ this)]; exact this
  · have := I.base.frzs b o v q
    rw [upd_ne (ne b _ this)]; exact this
  · obtain ⟨more, this⟩ := I.base.tbls b ps q
    exact ⟨more, by rw [upd_ne (ne b _ this)]; exact this⟩
  · rw [upd_ne (Ne.symm hL)]; exact I.free
  · rw [upd_ne (h2 x c q)]; exact I.freeC x c q
  · obtain ⟨p1, p2, p3⟩ := I.pin p hp
    exact ⟨p1, by rw [upd_ne (h3 p hp)]; exact p2, p3⟩
  · by_cases hb : b = D
    · subst hb
      rw [upd_same] at q; cases q
      exact new
    · rw [upd_ne hb] at q
      exact (I.hok b v q).stay (fun c v _ q => q) (fun c q => by rw [upd_ne (ne c _ q)]; exact q) fun c xs q => by rw [upd_ne (ne c _ q)]; exact q
theorem goes_ok {i : Nat} {x : Str} {pos : Pos} {Q : Unit → Shared → Prop} (I : Inv X pins σ H s) (hN : X.N.Nodup) (hi : X.N[i]? = some x) (hk : X.env.scope.names.lookup x = some .local)
    (h : ∀ s', Inv X pins (σ.set i none) H s' → Q () s') : wpAny M A (do bindName X.env x .none; unbindBehindTheSuite X.env x pos) Q F s := by
  obtain ⟨m, hn, hl⟩ := id I.loc
  have hcls : (X.env.scope.kind == .class || (X.env.scope.kind == .module && X.env.locals != X.env.globals)) = false := by rw [I.ok.kind]; rfl
  have hiσ : i < σ.length := by rw [I.len]; exact (List.getElem?_eq_some_iff.mp hi).1
  have cne := I.cne
  obtain ⟨oL, _, _, hoL, _⟩ := id hn
  refine wpAny_nameGoes_keeps hk hn hcls fun h' v hn' hs => ?_
  refine h _ ⟨I.ok, I.os, I.bare, ⟨fun b o e n hb hx => ?_, fun b o e n hb hx => ?_, I.base.free, fun b o e hx => ?_, I.base.tups, I.base.frzs, I.base.tbls⟩, ⟨_, hn', fun j y v' e1 e2 e3 => ?_⟩, fun y c e => ?_, I.free, I.freeC, fun p hp => ?_, fun b ob e => ?_, by simpa using I.len⟩
  · exact (hs.2 b (Nat.ne_of_lt (Nat.lt_of_lt_of_le (Heap.lt_size e) I.ok.above))).trans (I.base.keep b o e n hb hx)
  · obtain ⟨sl, e1⟩ := I.base.slot b o e n hb hx
    exact ⟨sl, (hs.2 b (Nat.ne_of_lt (Nat.lt_of_lt_of_le (Heap.lt_size e) I.ok.above))).trans e1⟩
  · obtain ⟨o', e1⟩ := I.base.there b o e hx
    exact ⟨o', (hs.2 b (Nat.ne_of_lt (Nat.lt_of_lt_of_le (Heap.lt_size e) I.ok.above))).trans e1⟩
  · by_cases hj : j = i
    · subst hj
      rw [List.getElem?_set_self hiσ] at e2
      cases e2
    · rw [List.getElem?_set_ne (Ne.symm hj)] at e2
      obtain ⟨u', r', q⟩ := hl j y v' e1 e2 e3
      refine ⟨u', r', ?_⟩
      rcases q with ⟨k, e⟩ | ⟨k, c, e, z⟩
      · refine .inl ⟨k, ?_⟩
        have : y ≠ x := fun e => hj (nodup_ix hN e1 (e ▸ hi))
        simp [this, e]
      · exact .inr ⟨k, c, e, z.sameBut hs (cne _ _ e)⟩
  · obtain ⟨v', z⟩ := I.cell y c e
    exact ⟨v', z.sameBut hs (cne _ _ e)⟩
  · obtain ⟨p1, p2, p3, p4⟩ := I.pin p hp
    exact ⟨(hs.2 _ p3).trans p1, p2, p3, p4⟩
  · refine (I.hok b ob e).stay (fun c w' hc q => (hs.2 c ?_).trans q) (fun _ q => q) fun _ _ q => q
    rintro rfl
    rcases hc with z | hc
    · rw [← z, I.free] at e; cases e
    · rw [I.free] at hc; cases hc
end
end L2
set_option Elab.async false
set_option linter.all false
set_option maxRecDepth 100000
namespace L2
open PySem PySem.Spec PyProof.Rows
section
variable {M : Model} {A : Around} {E : Value → Shared → Prop} {h : Heap} {g : Array GenState} {d : Drawn} {t : Nat} {os : OsState} {a C C' : Addr} {oe : Obj} {bm bm' : List Value}
theorem exc_N {Q : Bool → Shared → Prop} (x : EcH h C bm) (x' : EcH h C' bm') (he : h.get? a = some oe) (hc : oe.cls = .ref C) (hb : (Value.ref C :: bm).contains (.ref C') = true)
    (hq : Q true ⟨h, g, d, t, os⟩) : wpAny M A (excMatches (.ref a) (.ref C')) Q E ⟨h, g, d, t, os⟩ := by
  have hcB : (Value.ref C' :: bm').contains (.type "BaseException") = true := x'.has (by decide +kernel)
  have f := tc_notTuple
  obtain ⟨N, nm, q, bs, hdct, sn, sub, ab, col, dd, k0, k1, k2, k3, k5, mN, hC', _⟩ := id x'
  unfold excMatches
  repeat (first | (with_reducible refine wpAny_loadPart_at he ?_; rw [hc]) | with_reducible refine wpAny_loadPart_at hC' ?_ | (with_reducible refine sub_N x' ?_; rw [hcB]) | (with_reducible refine sub_N x ?_; rw [hb]) | wp_step)
  exact hq
end
abbrev TB := Ends → XK → St → Hp → Prop
def FX (X : Cx) (pins : List (Addr × Obj)) (σ : St) (EX : XK) (e : Value) (s' : Shared) : Prop := ∃ (H0 : Hp) (s1 : Shared), Inv X pins σ H0 s1 ∧ CX1 X.prog X.w X.stack H0 s1 EX e s'
def PB (X : Cx) (st : List Stmt) (t : TB) : Prop :=
  ∀ (pins : List (Addr × Obj)) (s : Shared) (σ : St) (H : Hp) (D : Ends) (EX : XK), Inv X pins σ H s → t D EX σ H → wpAny (model X.prog X.w) X.A (execs st X.env) (SP X pins D) (FX X pins σ EX) s
section
variable {X : Cx} {k : Nat} {f : Addr} {fd : FuncData} {ps : List Str} {sp : Sp} {dvs : List V} {ds : List Value} {x : Str} {p pos apos : Pos} {e : Expr} {es : List Expr} {t : TA}
theorem call_fx {pins : List (Addr × Obj)} {σ : St} {H : Hp} {s : Shared} {Q : VK} {EX : XK} (F : FnOk X.prog X.w X.K X.mg X.base (CX1 X.prog X.w) k f fd ps sp) (hr : Room k X.A) (hg : Gl X x) (hm : X.mg x = some (.ref f)) (hk : PySem.W.keepIn X.K (.ref f) = true) (hb : Binds X.K fd ps ds) (hd : Vals dvs ds)
    (ha : PA X.nox (e :: es) t) (hdb : (x == ("__debug__" : Str)) = false) (he : starEach (e :: es) X.env = (false, eval e X.env) :: starEach es X.env) (hpl : (backTo pos (starEach es X.env)).any (·.1) = false)
    (I : Inv X pins σ H s) (h : tCall sp dvs EX t σ H Q) : wpAny (model X.prog X.w) X.A (eval (.Call (.Name x p) (e :: es) [] pos) X.env) (EP X pins σ Q) (FX X pins σ EX) s := by
  refine wpAny_Call_Name_kw (ld_glob I hg hm ?_ hdb)
  refine PySem.W.callWith_K (h₀ := X.base) I.ok.mod.kin hk (wpAny_mono (ha pos pins s σ H _ (I.wish _) h) (fun us s1 ⟨vs, H1, I1', r, q⟩ => ⟨I1'.kIn, ?_⟩) fun _ _ z => False.elim z) he hpl
  have I1 : Inv X pins σ H1 s1 := I1'.unwish
  have r2 : Vals (vs ++ dvs) (us ++ ds) := r.append hd
  have hl : (us ++ ds).length = ps.length := by rw [← r2.length]; exact F.len _ _ _ _ q
  refine wpAny_call (codeAny_mono (F.run X.A X.stack s1 H1 ⟨us, []⟩ (us ++ ds) (vs ++ dvs) Q EX hr I1.env0 (hb s1 us I1.kIn hl) r2 q) fun r s' hq => ?_)
  cases r with
  | error e => exact ⟨H1, s1, I1, hq⟩
  | ok fl =>
    cases fl with
    | ret u => exact I1.after hq
    | next => exact False.elim hq
    | brk => exact False.elim hq
    | cont => exact False.elim hq
def tbSet (i : Nat) (sp : Sp) (dvs : List V) (t : TA) : TB := fun D EX σ H => tCall sp dvs EX t σ H fun v H2 => D.nx (σ.set i (some v)) H2
def tbIf (tt : TT) (a b : TB) : TB := fun D EX σ H => tt σ H fun c H1 => if c = true then a D EX σ H1 else b D EX σ H1
theorem pb_set {i : Nat} {y : Str} {py pos' : Pos} (F : FnOk X.prog X.w X.K X.mg X.base (CX1 X.prog X.w) k f fd ps sp) (hr : Room k X.A) (hg : Gl X x) (hm : X.mg x = some (.ref f)) (hk : PySem.W.keepIn X.K (.ref f) = true) (hb : Binds X.K fd ps ds) (hd : Vals dvs ds)
    (ha : PA X.nox (e :: es) t) (hN : X.N.Nodup) (hi : X.N[i]? = some y) (hy : Loc X.env.scope y) (hdb : (x == ("__debug__" : Str)) = false := by decide) (he : starEach (e :: es) X.env = (false, eval e X.env) :: starEach es X.env := by rfl) (hpl : (backTo pos (starEach es X.env)).any (·.1) = false := by rfl)
    (hs : swapsWith (.Call (.Name x p) (e :: es) [] pos) (some (.Name y py)) pos'.line X.env = pure false := by rfl) (hf : X.fn y = true ∨ X.env.scope.names.lookup y = some .local := by first | exact .inl rfl | exact .inr rfl | assumption) :
    PB X [.Assign [.Name y py] (.Call (.Name x p) (e :: es) [] pos) pos'] (tbSet i sp dvs t) := by
  intro pins s σ H D EX I h
  refine wpAny_execs_cons (wpAny_Assign_Name (thn (call_fx F hr hg hm hk hb hd ha hdb he hpl I h) fun v s1 hx9 => ?_) hs)
  obtain ⟨x, H1, I1, r1, q1⟩ := hx9
  exact store_ok I1 hN hi hy r1 (fun s2 I2 => wpAny_execs_nil ⟨_, H1, I2, q1⟩) hf
theorem pb_if {c : Expr} {a b : List Stmt} {tt : TT} {ta tb : TB} (hc : PT X.nox c tt) (ha : PB X a ta) (hb : PB X b tb) : PB X [.If c a b pos] (tbIf tt ta tb) := by
  intro pins s σ H D EX I h
  refine wpAny_execs_cons (wpAny_If (wpAny_mono (hc pins s σ H _ (I.wish _) h) (fun d s1 hx9 => ?_) fun _ _ z => False.elim z))
  obtain ⟨H1, I1', q1⟩ := hx9
  have I1 : Inv X pins σ H1 s1 := I1'.unwish
  have fin : ∀ (l : List Stmt), (wpAny (model X.prog X.w) X.A (execs l X.env) (SP X pins D) (FX X pins σ EX) s1) → wpAny (model X.prog X.w) X.A (execs l X.env) (fun f s₁ => match f with | .next => wpAny (model X.prog X.w) X.A (execs [] X.env) (SP X pins D) (FX X pins σ EX) s₁ | f => SP X pins D f s₁) (FX X pins σ EX) s1 := fun l z =>
    thn z fun f s2 q => by
      cases f with
      | next => exact wpAny_execs_nil q
      | ret v => exact q
      | brk => exact q
      | cont => exact q
  cases d with
  | true => exact fin a (ha pins s1 σ H1 D EX I1 q1)
  | false => exact fin b (hb pins s1 σ H1 D EX I1 q1)
def tTry (X : Cx) (C' : Addr) (i j : Nat) (tb : TB) : TS := fun D σ H => tb D (fun cls _ H2 => ∃ C bm, cls = .ref C ∧ (∀ h : Heap, X.K.In h → EcH h C bm) ∧ (Value.ref C :: bm).contains (.ref C') = true ∧ ∀ a, H2 a = none → D.nx ((σ.set i (some (.ref a))).set j none) (upd H2 a (ExO C a))) σ H
theorem ps_try {st : List Stmt} {tb : TB} {dn en cn : Str} {p1 p2 p3 p4 p5 p6 : Pos} {i j : Nat} {C' L : Addr} {bm' : List Value} (hb : PB X st tb) (hst : X.stack = X.env :: X.outer) (hf : X.env.frame = some L) (hex : X.ex = [])
    (hg : Gl X dn) (hm : X.mg dn = some (.ref C')) (hC' : ∀ h : Heap, X.K.In h → EcH h C' bm') (hN : X.N.Nodup) (hi : X.N[i]? = some cn) (hj : X.N[j]? = some en) (hij : i ≠ j) (hlc : X.env.scope.names.lookup cn = some .local) (hle : X.env.scope.names.lookup en = some .local)
    (hdb : (dn == ("__debug__" : Str)) = false := by decide) (hd2 : (en == ("__debug__" : Str)) = false := by decide) (hcd : (en == ("__classdict__" : Str)) = false := by decide)
    (hs : swapsWith (.Name en p3) (some (.Name cn p2)) p4.line X.env = pure false := by rfl) :
    PS X (.Try st [.ExceptHandler (some (.Name dn p1)) (some en) [.Assign [.Name cn p2] (.Name en p3) p4] p5] [] [] p6) (tTry X C' i j tb) := by
  intro pins s σ H D I h
  refine wpAny_Try_except (wpAny_mono (hb pins s σ H D _ I h) (fun f s1 q => ?_) fun e s1 q => ?_)
  · cases f with
    | next => exact wpAny_execs_nil q
    | ret v => exact q
    | brk => exact q
    | cont => exact q
  obtain ⟨H0, s0, I0, q⟩ := q
  refine wpAny_mono (cx1_note (F := X.xe) hst hf I.ok.frames I0 q) (fun _ s2 q2 => wpAny_mono q2 (fun _ s3 q3 => ?_) fun _ _ z => z) fun _ _ z => z
  obtain ⟨a, _, _, rfl, _⟩ := I0.caught q3
  -- the clause is looked at with the exception held
  have okY : ({ X with A := X.A.mark (some (.ref a)), calm := false, xe := fun _ _ => False } : Cx).Ok :=
    ⟨I.ok.mod, I.ok.kind, I.ok.glob, I.ok.blt, I.ok.above, I.ok.inj, I.ok.has, I.ok.cab, fun z => Bool.noConfusion (show false = true from z), I.ok.frames, I.ok.stk, I.ok.exf, I.ok.bs, I.ok.bsz, I.ok.noex, I.ok.exfs, I.ok.funs, I.ok.frf⟩
  have toY : ∀ {σ' : St} {H' : Hp} {s' : Shared}, Inv X pins σ' H' s' → Inv { X with A := X.A.mark (some (.ref a)), calm := false, xe := fun _ _ => False } pins σ' H' s' := fun J => ⟨okY, J.os, J.bare, J.base, J.loc, J.cell, J.free, J.freeC, J.pin, J.hok, J.len⟩
  have ofY : ∀ {σ' : St} {H' : Hp} {s' : Shared}, Inv { X with A := X.A.mark (some (.ref a)), calm := false, xe := fun _ _ => False } pins σ' H' s' → Inv X pins σ' H' s' := fun J => ⟨I.ok, J.os, J.bare, J.base, J.loc, J.cell, J.free, J.freeC, J.pin, J.hok, J.len⟩
  refine wpAny_handleBy_cons (codeAny_handlers_test ?_) (by intro q; cases q)
  obtain ⟨a', C, H3, ea, I3, na, hHa, ⟨C1, bm, eC, hEc, hcon, _⟩, o, ho, hc⟩ := I0.caught q3
  cases ea
  cases eC
  refine ld_glob (X := { X with A := X.A.mark (some (.ref a)), calm := false, xe := fun _ _ => False }) (toY I3) hg hm ?_ hdb
  obtain ⟨hh, gg, dd, tt, oo⟩ := s3
  refine exc_N (hEc _ I3.kIn) (hC' _ I3.kIn) ho hc hcon ?_
  show codeAny _ _ _ _ _
  refine codeAny_handlers_suite_as ?_
  refine wpAny_mono (cx1_set (F := fun _ _ => False) I0 q3) (fun _ s4 q4 => ?_) fun _ _ z => False.elim z
  obtain ⟨a', C, H4, ea, I4, na, hHa, ⟨C1, bm, eC, hEc, hcon, hnx⟩, o, ho, hc⟩ := I0.caught q4
  cases ea
  cases eC
  have old : ∀ b o, s0.heap.get? b = some o → b ≠ a := fun b o e z => by rw [z, na] at e; cases e
  have I5 : Inv X pins σ (upd H4 a (ExO C a)) s4 := by
    refine I4.trackN ⟨⟨o, ho, hc⟩, ⟨o, ho⟩, fun h1 h2 ⟨o1, e1, c1⟩ k => ⟨o1, k o1 e1, c1⟩⟩ hHa ?_ ?_ (fun y c e => ?_) fun p hp => ?_
    · obtain ⟨m, ⟨oL, _, _, hoL, _⟩, _⟩ := I0.loc
      exact Ne.symm (old _ _ hoL)
    · cases z : X.s₀.heap.get? a with
      | none => rfl
      | some o' =>
        obtain ⟨o2, e⟩ := I0.base.there a o' z (by rw [hex]; simp)
        exact absurd rfl (old _ _ e)
    · obtain ⟨v, oc, hoc, _⟩ := I0.cell y c e
      exact old _ _ hoc
    · exact old _ _ (I0.pin p hp).1
  refine store_ok2 (i := j) (v := .ref a) I5 hN hj (.inl hle) rfl (fun s5 I6 _ => ?_) (.inr hle)
  have P1 : PSs { X with A := X.A.mark (some (.ref a)), calm := false, xe := fun _ _ => False } [.Assign [.Name cn p2] (.Name en p3) p4] (tAsg (tVar j) (gName i)) := pss_one (ps_set hN hi (.inl hlc) (pe_var hj (.inl hle) hd2 hcd) hs (.inr hlc))
  have jl : j < σ.length := by rw [I4.len]; exact (List.getElem?_eq_some_iff.mp hj).1
  refine wpAny_mono (P1 pins s5 _ _ { nx := fun σ' H' => σ' = (σ.set j (some (.ref a))).set i (some (.ref a)) ∧ H' = upd H4 a (ExO C a), rt := fun _ _ => False } (toY I6) ⟨.ref a, List.getElem?_set_self jl, rfl, rfl⟩) (fun fl s6 q6 => ?_) fun _ _ z => False.elim z
  cases fl with
  | next =>
    obtain ⟨σ', H', I7, rfl, rfl⟩ := q6
    refine goes_ok (ofY I7) hN hj hle fun s8 I8 => ⟨_, _, I8, ?_⟩
    have := hnx a hHa
    rw [List.set_comm _ _ hij.symm, List.set_set]
    exact this
  | ret v => obtain ⟨_, _, _, _, _, z⟩ := q6; exact z.elim
  | brk => obtain ⟨_, _, _, z⟩ := q6; exact z.elim
  | cont => obtain ⟨_, _, _, z⟩ := q6; exact z.elim
end
end L2
set_option Elab.async false
set_option linter.all false
set_option maxRecDepth 100000
namespace L2
open PySem PySem.Spec PyProof.Rows
theorem bools_mem {bs : List Bool} : ∀ {us : List Value}, Vals (bs.map V.bl) us → us = bs.map Value.bool := by
  induction bs with
  | nil => intro us r; rw [List.map_nil] at r; cases r; rfl
  | cons b bs ih =>
    intro us r
    rw [List.map_cons] at r
    cases r with
    | cons r1 r2 =>
      have e : _ = Value.bool b := r1
      rw [List.map_cons, ← ih r2, e]
theorem eq_bools {bs : List Bool} {k : Bool} {y : Value} (hy : y ∈ bs.map Value.bool) (A : Around) (s : Shared) : SeqAt.EqAt A s y (.bool k) (isBoolOf k y) := by
  obtain ⟨b, _, rfl⟩ := List.mem_map.mp hy
  exact SeqAt.EqAt.bool_bool b k
section
variable {X : Cx} {K : PySem.W.Frag}
theorem mt_countLB (hK : X.K = K) : MtR X "list.count" (fun x vs H Q => ∃ (a : Addr) (bs : List Bool) (k : Bool), x = .ref a ∧ vs = [.bl k] ∧ SqL K H a (bs.map V.bl) ∧ Q (.int (bs.count k : Nat)) H) := by
  subst hK
  intro pins s σ H x xs v us Q I rx r h
  obtain ⟨a, bs, k, rfl, rfl, ha, q⟩ := h
  obtain ⟨u, rfl, e⟩ := vals1 r
  cases e
  cases rx
  obtain ⟨its, rv, ⟨⟨cls, dd, data, sl⟩, n, ho, hc, hdd, hd⟩, hzz⟩ := I.list ha
  simp only at hc hd
  subst hc hd
  obtain rfl := bools_mem rv
  refine call_meets PySem.F.slot_list_count ⟨_, ho, rfl⟩ PySem.F.entry_list_count (PySem.F.args_list_count_2 _ _) (SeqAt.list_countAt a (bs.map Value.bool).toArray n dd sl (.bool k) (isBoolOf k)) ⟨ho, fun y hy => eq_bools (by simpa using hy) _ _, ?_⟩
  have e : ((bs.map Value.bool).toArray.toList.countP (isBoolOf k)) = bs.count k := by
    rw [List.toList_toArray, List.countP_map]
    rfl
  rw [e]
  exact ⟨.int _, H, I.tok _, ⟨_, rfl⟩, q⟩
theorem mt_indexLB (hK : X.K = K) : MtR X "list.index" (fun x vs H Q => ∃ (a : Addr) (bs : List Bool) (k : Bool) (j : Nat), x = .ref a ∧ vs = [.bl k] ∧ SqL K H a (bs.map V.bl) ∧ bs[j]? = some k ∧ (∀ m, m < j → bs[m]? ≠ some k) ∧ Q (.int (j : Nat)) H) := by
  subst hK
  intro pins s σ H x xs v us Q I rx r h
  obtain ⟨a, bs, k, j, rfl, rfl, ha, hj, hno, q⟩ := h
  obtain ⟨u, rfl, e⟩ := vals1 r
  cases e
  cases rx
  obtain ⟨its, rv, ⟨⟨cls, dd, data, sl⟩, n, ho, hc, hdd, hd⟩, hzz⟩ := I.list ha
  simp only at hc hd
  subst hc hd
  obtain rfl := bools_mem rv
  have hjl : j < bs.length := (List.getElem?_eq_some_iff.mp hj).1
  have hzl : bs.length ≤ sizeLine := by rw [List.length_map] at hzz; exact hzz
  have val : ∀ m (hm : m < (bs.map Value.bool).toArray.size), isBoolOf k (bs.map Value.bool).toArray[m] = decide (bs[m]? = some k) := fun m hm => by
    have hmn : m < bs.length := by simpa using hm
    have e : (bs.map Value.bool).toArray[m] = Value.bool bs[m] := by simp
    rw [e, List.getElem?_eq_getElem hmn]
    unfold isBoolOf
    by_cases z : bs[m] = k
    · simp [z]
    · simp [z]
  refine call_meets PySem.F.slot_list_index ⟨_, ho, rfl⟩ PySem.F.entry_list_index (PySem.F.args_list_index_2 _ _) (SeqAt.list_indexAt a (bs.map Value.bool).toArray n dd sl (.bool k) (isBoolOf k) j (by simp; omega) (by rw [sizeLine_eq] at hzl; omega) ?_ ?_) ⟨ho, fun y hy => eq_bools (by simpa using hy) _ _, ?_⟩
  · rw [val, hj]; simp
  · intro m hm hlt
    rw [val]
    exact decide_eq_false (hno m hlt)
  · exact ⟨.int _, H, I.tok _, ⟨_, rfl⟩, q⟩
end
end L2
set_option Elab.async false
set_option linter.all false
set_option maxRecDepth 100000
namespace L2
open PySem PySem.Spec PyProof.Rows
structure PEo (X : Cx) (e : Expr) (t : TE) : Prop where
  go : PE X e t
structure PAo (X : Cx) (es : List Expr) (t : TA) : Prop where
  go : PA X es t
structure PSo (X : Cx) (st : Stmt) (t : TS) : Prop where
  go : PS X st t
structure PSso (X : Cx) (sts : List Stmt) (t : TS) : Prop where
  go : PSs X sts t
section
variable {X : Cx} {pos : Pos} {e a b : Expr} {es : List Expr} {te ta tb : TE} {t : TA} {st : Stmt} {rest : List Stmt} {ts us : TS}
theorem pao_nil : PAo X [] tNil := ⟨pa_nil⟩
theorem pao_cons (h : PEo X e te) (r : PAo X es t) (hs : starEach (e :: es) X.env = (false, eval e X.env) :: starEach es X.env) : PAo X (e :: es) (tCons te t) := ⟨pa_cons h.go r.go hs⟩
theorem peo_str {x j} : PEo X (.Constant (.str x) j pos) (tC (.str x)) := ⟨pe_str⟩
theorem peo_lst (h : PAo X es t) : PEo X (.List es pos) (tLst t) := ⟨pe_lst h.go⟩
theorem psso_one (h : PSo X st ts) : PSso X [st] ts := ⟨pss_one h.go⟩
theorem psso_cons (h : PSo X st ts) (r : PSso X rest us) : PSso X (st :: rest) (tSeq ts us) := ⟨pss_cons h.go r.go⟩
theorem pso_set {i : Nat} {x : Str} {pos' : Pos} (hN : X.N.Nodup) (hi : X.N[i]? = some x) (hx : Loc X.env.scope x) (he : PEo X e te) (hs : swapsWith e (some (.Name x pos')) pos.line X.env = pure false := by rfl) (hf : X.fn x = true ∨ X.env.scope.names.lookup x = some .local := by first | exact .inl rfl | exact .inr rfl | assumption) :
    PSo X (.Assign [.Name x pos'] e pos) (tAsg te (gName i)) := ⟨ps_set hN hi hx he.go hs hf⟩
end
end L2
set_option Elab.async false
set_option linter.all false
set_option maxRecDepth 100000
namespace L2
open PySem PySem.Spec PyProof.Rows
def tDt (K : PySem.W.Frag) (Z : List Addr) (S : St → Prop) (d : PyData) : TE := fun σ H Q => S σ ∧ Fx Z H ∧ ∀ v H', Same H H' → Den K (Vw Z H') d v → Q v H'
def tDA (K : PySem.W.Frag) (Z : List Addr) (S : St → Prop) (ds : List PyData) : TA := fun σ H Q => S σ ∧ Fx Z H ∧ ∀ vs H', Same H H' → DenAll K (Vw Z H') ds vs → Q vs H'
structure Dt (X : Cx) (K : PySem.W.Frag) (Z : List Addr) (S : St → Prop) (e : Expr) (d : PyData) : Prop where
  go : PE X e (tDt K Z S d)
structure DA (X : Cx) (K : PySem.W.Frag) (Z : List Addr) (S : St → Prop) (es : List Expr) (ds : List PyData) : Prop where
  go : PA X es (tDA K Z S ds)
section
variable {X : Cx} {K : PySem.W.Frag} {Z : List Addr} {S : St → Prop} {te : TE} {pos : Pos} {e a b : Expr} {es : List Expr} {d : PyData} {ds : List PyData}
theorem PE.imp {t t' : TE} (h : PE X e t) (q : ∀ σ H Q, t' σ H Q → t σ H Q) : PE X e t' := fun pins s σ H Q I z => h pins s σ H Q I (q σ H Q z)
theorem PA.imp {t t' : TA} (h : PA X es t) (q : ∀ σ H Q, t' σ H Q → t σ H Q) : PA X es t' := fun pos pins s σ H Q I z => h pos pins s σ H Q I (q σ H Q z)
theorem PSso.ex {sts : List Stmt} {t : TS} {R : TS → Prop} (h : PSso X sts t) (r : R t) : ∃ t, PSs X sts t ∧ R t := ⟨t, h.go, r⟩
end
end L2
set_option Elab.async false
set_option linter.all false
set_option maxRecDepth 100000
namespace L2
open PySem PySem.Spec PyProof.Rows
section
variable {X : Cx} {tg l : Expr} {body : List Stmt} {tl : TE} {g : TG} {tb : TS} {pos : Pos}
end
end L2
set_option Elab.async false
set_option linter.all false
set_option maxRecDepth 100000
namespace L2
open PySem PySem.Spec PyProof.Rows
def isStrKey (e : DictEntry) : Bool := match e.key with
  | .str _ _ => true
  | _ => false
def ecB (K : PySem.W.Frag) (C : Addr) (bm : List Value) : Bool := match K.lookup C with
  | some ⟨.type "type", _, .cls cd, sl⟩ => (match sl.toList with
    | [_, _, _, _, some (.builtin n), _] => n == "ValueError.__new__" && cd.mro == .ref C :: bm && !cd.hasDel && (match K.lookup cd.ns with
      | some ⟨_, _, .dict es _, _⟩ => es.toList.all isStrKey && qns.all (fun n => (es.toList.find? (·.key.isStr n)).isNone)
      | _ => false)
    | _ => false)
  | _ => false
theorem ec_of {K : PySem.W.Frag} {h : Heap} {C : Addr} {bm : List Value} (X : K.In h) (q : ecB K C bm = true) : ∃ N nm qn bs hdct sn sub ab col dd k0 k1 k2 k3 k5 mN,
    h.get? C = some (excClassObj nm qn C N bs bm hdct sn sub ab col dd k0 k1 k2 k3 k5 "ValueError.__new__") ∧ h.Ns N mN ∧ ∀ n ∈ qns, mN n = none := by
  unfold ecB at q
  split at q
  · rename_i dd cd sl ho
    split at q
    · rename_i k0 k1 k2 k3 n k5 hs
      split at q
      · rename_i c1 d1 es ep s1 hN
        simp only [Bool.and_eq_true, beq_iff_eq, Bool.not_eq_true', List.all_eq_true, Option.isNone_iff_eq_none] at q
        obtain ⟨⟨⟨rfl, hm⟩, hdel⟩, hk, hq⟩ := q
        obtain ⟨nm, bs, mro, ns, qn, hd, sn, sub, ab, col, del⟩ := cd
        dsimp only at hm hdel hN
        subst hm hdel
        have hsl : sl = #[k0, k1, k2, k3, some (.builtin "ValueError.__new__"), k5] := by
          obtain ⟨l⟩ := sl
          simp only at hs
          rw [hs]
        subst hsl
        refine ⟨ns, nm, qn, bs, hd, sn, sub, ab, col, dd, k0, k1, k2, k3, k5, nsFind es, X _ _ ho, ⟨_, es, ep, X _ _ hN, rfl, fun e he => ?_, fun _ => rfl⟩, fun n hn => ?_⟩
        · have := hk e (Array.mem_toList_iff.mpr he)
          unfold isStrKey at this
          split at this
          · rename_i a b e; exact ⟨a, b, e⟩
          · cases this
        · have := hq n hn
          unfold nsFind findBy
          rw [← Array.find?_toList, this]
          rfl
      · simp at q
    · cases q
  · cases q
theorem ecH_base {K : PySem.W.Frag} {C : Addr} (q : ecB K C vbm = true) (h : Heap) (X : K.In h) : EcH h C vbm := by
  obtain ⟨N, nm, qn, bs, hdct, sn, sub, ab, col, dd, k0, k1, k2, k3, k5, mN, h1, h2, h3⟩ := ec_of X q
  exact ⟨N, nm, qn, bs, hdct, sn, sub, ab, col, dd, k0, k1, k2, k3, k5, mN, h1, h2, h3, .base⟩
theorem ecH_own {K : PySem.W.Frag} {C D : Addr} (qD : ecB K D vbm = true) (q : ecB K C (.ref D :: vbm) = true) (h : Heap) (X : K.In h) : EcH h C (.ref D :: vbm) := by
  obtain ⟨N, nm, qn, bs, hdct, sn, sub, ab, col, dd, k0, k1, k2, k3, k5, mN, h1, h2, h3⟩ := ec_of X q
  obtain ⟨_, _, _, _, _, _, _, _, _, _, _, _, _, _, _, mD, e1, e2, e3⟩ := ec_of X qD
  exact ⟨N, nm, qn, bs, hdct, sn, sub, ab, col, dd, k0, k1, k2, k3, k5, mN, h1, h2, h3, .own e1 e2 e3 .base⟩
end L2
set_option Elab.async false
set_option linter.all false
set_option maxRecDepth 100000
namespace L2
open PySem PySem.Spec PyProof.Rows
def distR : List Int → Nat
  | [] => 0
  | k :: r => if k ∈ r then distR r else distR r + 1
def dist (l : List Int) : Nat := distR l.reverse
theorem dist_snoc (l : List Int) (k : Int) : dist (l ++ [k]) = if k ∈ l then dist l else dist l + 1 := by
  unfold dist
  rw [List.reverse_append]
  show distR (k :: l.reverse) = _
  simp only [distR, List.mem_reverse]
theorem distR_le : ∀ l : List Int, distR l ≤ l.length
  | [] => Nat.le_refl _
  | k :: r => by
    have := distR_le r
    unfold distR
    split <;> simp <;> omega
theorem dist_le (l : List Int) : dist l ≤ l.length := by
  have := distR_le l.reverse
  rwa [List.length_reverse] at this
theorem distR_nodup : ∀ l : List Int, distR l = l.length ↔ l.Nodup
  | [] => by simp [distR]
  | k :: r => by
    have h1 := distR_nodup r
    have h2 := distR_le r
    unfold distR
    rw [List.nodup_cons, ← h1, List.length_cons]
    by_cases hk : k ∈ r
    · rw [if_pos hk]
      constructor
      · intro h; omega
      · intro h; exact absurd hk h.1
    · rw [if_neg hk]
      constructor
      · intro h; exact ⟨hk, by omega⟩
      · intro h; omega
theorem dist_nodup (l : List Int) : dist l = l.length ↔ l.Nodup := by
  have h := distR_nodup l.reverse
  rw [List.length_reverse] at h
  unfold dist
  rw [h]
  unfold List.Nodup
  rw [List.pairwise_reverse]
  constructor <;> intro h <;> exact h.imp fun z => Ne.symm z
section
variable {prog : Program} {w : World} {A : Around} {E : Value → Shared → Prop} {s : Shared}
theorem setAdd_of {a : Addr} {S : Int → Bool} {n : Nat} {k : Int} {t : Tok} {Q : Bool → Shared → Prop} (hS : s.heap.SetOf (intKind prog w) a S n) (hroom : n + 1 < scanBound)
    (h : ∀ h', Heap.SameBut a s.heap h' → h'.SetOf (intKind prog w) a (fun k' => S k' || decide (k' = k)) (if S k then n else n + 1) → Q (!S k) { s with heap := h', toks := s.toks + 1 }) :
    wpAny (model prog w) A (setAdd a (.int k t)) Q E s := by
  have hkey : (intKind prog w).is k (.int k t) = true := by simp [intKind, Value.isInt]
  unfold setAdd
  refine wpAny_bind ((intKind prog w).pyHash hkey ?_)
  exact wpAny_setAddHashed_of (s := { s with toks := s.toks + 1 }) hkey rfl hS hroom fun h' hsb hS' => h h' hsb hS'
theorem upd_loop {I S : Addr} {fp wr : List Addr} {ns : List Int} {P : Nat → Value → Prop} {St : Nat → Heap → Prop} {R : Result → Shared → Prop} (W : Walks prog w A.in1 I fp wr ns.length P St)
    (hP : ∀ i v, P i v → ∃ k t, ns[i]? = some k ∧ v = .int k t) (hfp : ∀ c ∈ fp, c ≠ S) (hwr : S ∉ wr) (hlen : ns.length + 1 < scanBound) :
    ∀ (j i : Nat) (s : Shared), i + j = ns.length → St i s.heap → s.heap.SetOf (intKind prog w) S (fun k => decide (k ∈ ns.take i)) (dist (ns.take i)) →
      (∀ h' tk, h'.SetOf (intKind prog w) S (fun k => decide (k ∈ ns)) (dist ns) → (∀ b o, b ≠ S → b ∉ wr → s.heap.get? b = some o → h'.get? b = some o) → R (.ok (.ret .none)) { s with heap := h', toks := tk }) →
      codeAny (model prog w) A (.builtin "set.update.loop" ⟨[.ref S, .ref I], []⟩) R s := by
  intro j
  induction j with
  | zero =>
    intro i s hi st hS h
    have e : i = ns.length := by omega
    subst e
    rw [List.take_length] at hS
    refine upd_done W st fun h' tk k => h h' tk ?_ fun b o _ hb e => k b o hb e
    obtain ⟨o, es, ep, t, e, c⟩ := hS
    exact ⟨o, es, ep, t, k _ _ hwr e, c⟩
  | succ j ih =>
    intro i s hi st hS h
    refine upd_step W (i := i) (by omega) st fun v h2 tk2 hv st2 k2 => ?_
    obtain ⟨k, t, hk, rfl⟩ := hP i v hv
    have hS2 : h2.SetOf (intKind prog w) S (fun k => decide (k ∈ ns.take i)) (dist (ns.take i)) := by
      obtain ⟨o, es, ep, t, e, c⟩ := hS
      exact ⟨o, es, ep, t, k2 _ _ hwr e, c⟩
    have hd := dist_le (ns.take i)
    rw [List.length_take] at hd
    refine setAdd_of (s := { s with heap := h2, toks := tk2 }) hS2 (by omega) fun h3 sb hS3 => ?_
    have et : ns.take (i + 1) = ns.take i ++ [k] := by rw [List.take_succ, hk]; rfl
    refine ih (i + 1) _ (by omega) (W.frame _ _ _ st2 fun c hc o e => (sb.2 c (hfp c hc)).trans e) ?_ fun h' tk hS' kp => ?_
    · have e1 : (fun k_1 => decide (k_1 ∈ ns.take (i + 1))) = (fun k' => decide (k' ∈ ns.take i) || decide (k' = k)) := by
        funext k'
        rw [et]
        simp
      have e2 : dist (ns.take (i + 1)) = if decide (k ∈ ns.take i) = true then dist (ns.take i) else dist (ns.take i) + 1 := by
        rw [et, dist_snoc]
        by_cases z : k ∈ ns.take i
        · rw [if_pos z, if_pos (decide_eq_true z)]
        · rw [if_neg z, if_neg (by simpa using z)]
      rw [e1, e2]
      exact hS3
    · exact h h' tk hS' fun b o nb hb e => kp b o nb hb ((sb.2 b nb).trans (k2 b o hb e))
set_option maxHeartbeats 3200000 in
theorem call_set_ints {l : Addr} {its : Array Value} {ns : List Int} {Q : Value → Shared → Prop} (hh : A.handled = none) (hl : s.heap.IsList l its) (hi : IntsAre its.toList ns) (hlen : ns.length + 1 < scanBound)
    (h : ∀ (h' : Heap) (tk : Nat), h'.SetOf (intKind prog w) s.heap.objs.size (fun k => decide (k ∈ ns)) (dist ns) → (∀ b o, b < s.heap.objs.size → s.heap.get? b = some o → h'.get? b = some o) → Q (.ref s.heap.objs.size) { s with heap := h', toks := tk }) :
    wpAny (model prog w) A (call (.type "set") [.ref l]) Q E s := by
  obtain ⟨c, tl, hmro⟩ := PySem.F.called_set.mro
  have hmade := PySem.F.called_set.made
  have hsub := PySem.F.called_set.sub
  refine wpAny_call (codeAny_of_tree ?_)
  show wpAny _ _ (callAny (.type "set") _) _ _ _
  refine wpAny_pure ⟨Code.quiet_builtin _ (by decide +kernel), codeAny_builtin PySem.F.entry_type_call ?_⟩
  rw [Around.under_plain (weight_type_call_type "set" [.ref l] []) rfl]
  have h1 := PySem.F.called_set.notType
  have h2 := PySem.F.called_set.canCreate
  have hct := PySem.F.typeCall_set_1 (.ref l)
  repeat (any_goals (first | assumption | wp_step))
  refine codeAny_mono (code_set_new_L (.ref l) (E := E) (Q₁ := fun obj s₁ => obj = .ref s.heap.objs.size ∧ s₁ = { s with heap := s.heap.push { cls := .type "set", dict := none, data := .set #[] 0 (.fresh 0 0 (Led w)) } }) ⟨rfl, rfl⟩) fun r s₁ hr => ?_
  cases r with
  | error e => exact hr
  | ok fl =>
    cases fl with
    | ret obj =>
      obtain ⟨rfl, rfl⟩ := hr
      generalize hled : Led w = led at h ⊢
      have hS : (s.heap.push { cls := .type "set", dict := none, data := .set #[] 0 (.fresh 0 0 led) }).get? s.heap.objs.size = some { cls := .type "set", dict := none, data := .set #[] 0 (.fresh 0 0 led) } := Heap.get?_push_size _ rfl
      have hT : Shared.TypeIs { s with heap := s.heap.push { cls := .type "set", dict := none, data := .set #[] 0 (.fresh 0 0 led) } } (.ref s.heap.objs.size) "set" := ⟨_, hS, rfl⟩
      have hli := PySem.F.called_set.init.lookup
      have hbi := PySem.F.called_set.init.bind (.ref s.heap.objs.size)
      repeat (any_goals (first | assumption | wp_step))
      refine codeAny_mono (codeAny_call_builtin (R := wants (fun r s₂ => r = .none ∧ ∃ h' tk, s₂ = { s with heap := h', toks := tk } ∧ h'.SetOf (intKind prog w) s.heap.objs.size (fun k => decide (k ∈ ns)) (dist ns) ∧
          (∀ b o, b < s.heap.objs.size → s.heap.get? b = some o → h'.get? b = some o)) E) PySem.F.called_set.init.plain PySem.F.entry_set_init (check_set_init_1 hT ?_)) fun r₂ s₂ hr₂ => ?_
      · obtain ⟨ol, hol, hcl, nl, hdl⟩ := hl
        obtain ⟨ocls, odict, odata, oslots⟩ := ol
        simp only at hcl hdl
        subst hcl; subst hdl
        have hol' : (s.heap.push { cls := .type "set", dict := none, data := .set #[] 0 (.fresh 0 0 led) }).get? l = some { cls := .type "list", dict := odict, data := .seq its nl, slots := oslots } := Heap.get?_push_of_some _ hol
        have hsls := PySem.F.sub_list_set
        have hslf := PySem.F.sub_list_frozenset
        have hne : (Value.type "list" == Value.type "dict") = false := by decide
        have hl1 : (s.heap.push { cls := .type "set", dict := none, data := .set #[] 0 (.fresh 0 0 led) }).IsList l its := ⟨_, hol', rfl, nl, rfl⟩
        unfold Builtin.«set.__init__» noKeywords Builtin.Frozenset.updateFrom
        generalize hPI : pyIter = PI
        wp_walk
        subst hPI
        refine wpAny_pyIter_list hl1 ?_
        refine wpAny_bind (wpAny_runValue ?_)
        have hlS : l < s.heap.objs.size := Heap.lt_size hol
        have hh3 : A.in1.in1.in1.handled = none := by simp [hh]
        generalize hH1 : s.heap.push { cls := .type "set", dict := none, data := .set #[] 0 (.fresh 0 0 led) } = H1 at *
        have szH1 : H1.objs.size = s.heap.objs.size + 1 := by rw [← hH1, Heap.size_push]
        have hneI : l ≠ H1.objs.size := by rw [szH1]; exact Nat.ne_of_lt (Nat.lt_succ_of_lt hlS)
        have W := Walks.list (prog := prog) (w := w) hh3 H1.objs.size l hneI its
        have hsz : its.size = ns.length := by rw [← hi.length, Array.length_toList]
        rw [hsz] at W
        generalize hS0 : s.heap.objs.size = S at *
        have SI : S ≠ H1.objs.size := by omega
        have lS : l ≠ S := Nat.ne_of_lt hlS
        refine upd_loop W (fun i v hv => ?_) (fun c hc => ?_) (by simpa using SI) hlen ns.length 0 _ (by omega) ⟨⟨_, Heap.get?_push_size _ rfl, rfl, rfl⟩, hl1.push _⟩ ?_ fun h6 tk6 x6 k6 => ?_
        · have hv' : its[i]? = some v := hv
          have hil : i < its.toList.length := by
            rw [Array.length_toList]
            exact (Array.getElem?_eq_some_iff.mp hv').1
          have e1 : its.toList[i]? = some v := by rw [Array.getElem?_toList]; exact hv'
          obtain ⟨k, t, e2, e3⟩ := IntsAre.at hi i v e1
          exact ⟨k, t, e3, e2⟩
        · rcases List.mem_cons.mp hc with z | z
          · rw [z]; exact Ne.symm SI
          · have z' : c = l := by simpa using z
            rw [z']; exact lS
        · refine ⟨_, #[], 0, _, Heap.get?_push_of_some _ hS, ⟨rfl, rfl, rfl⟩, rfl, fun e he => by simp at he, fun k => by simp, by decide, by rfl, rfl⟩
        · show wpAny _ _ _ _ _ _
          refine wpAny_pure ?_
          show wpAny _ _ (ret Value.none) _ _ _
          refine wpAny_pure ⟨rfl, h6, tk6, rfl, x6, fun c o hc e => ?_⟩
          have c1 : c ≠ S := Nat.ne_of_lt hc
          have c2 : c ∉ [H1.objs.size] := by
            intro z
            have z' : c = H1.objs.size := by simpa using z
            omega
          exact k6 c o c1 c2 (Heap.get?_push_of_some _ (hH1 ▸ Heap.get?_push_of_some _ e))
      · cases r₂ with
        | error e => exact hr₂
        | ok fl₂ =>
          cases fl₂ with
          | ret r =>
            obtain ⟨rfl, h', tk, rfl, hS', hk'⟩ := hr₂
            repeat (any_goals (first | assumption | wp_step))
            exact h _ _ hS' hk'
          | _ => exact hr₂.elim
    | _ => exact hr.elim
end
end L2
set_option Elab.async false
set_option linter.all false
set_option maxRecDepth 100000
namespace L2
open PySem PySem.Spec PyProof.Rows
theorem ints_vals : ∀ {vs : List Value} {ns : List Int}, Vals (ns.map V.int) vs → IntsAre vs ns
  | [], [], _ => .nil
  | v :: vs, n :: ns, h => by
    cases h with
    | cons r t =>
      obtain ⟨k, rfl⟩ := r
      exact .cons n k (ints_vals t)
  | [], n :: ns, h => by cases h
  | v :: vs, [], h => by cases h
section
variable {X : Cx}
theorem call_setI {K : PySem.W.Frag} (hK : X.K = K) (hc : X.calm = true) : CallR X (.type "set") (fun xs H Q => ∃ (l : Addr) (ns : List Int), xs = [.ref l] ∧ SqL K H l (ns.map V.int) ∧ ns.length ≤ 40 ∧ ∀ p, H p = none → Q (.ref p) (upd H p (.set (fun k => decide (k ∈ ns)) (dist ns)))) := by
  subst hK
  intro pins s σ H xs us Q I r h
  obtain ⟨l, ns, rfl, hL, hn, q⟩ := h
  obtain ⟨u, rfl, rx⟩ := vals1 r
  cases rx
  obtain ⟨its, rv, pl, hz⟩ := I.list hL
  refine call_set_ints (I.ok.hd hc) pl.isList (ints_vals rv) (Nat.lt_of_le_of_lt (Nat.succ_le_succ hn) (by decide)) fun h' tk x kp => ?_
  have kp' : ∀ b o, s.heap.get? b = some o → h'.get? b = some o := fun b o e => kp b o (Heap.lt_size e) e
  have hf := I.hok.fresh (Nat.le_refl s.heap.objs.size)
  exact ⟨.ref s.heap.objs.size, _, I.laid (t' := tk) kp' (Nat.le_refl _) (show ObjOk X.prog X.w _ _ _ (.set _ _) from x), rfl, q _ hf⟩
theorem call_len_setI : CallR X (.builtin "len") (fun xs H Q => ∃ p S n, xs = [.ref p] ∧ H p = some (.set S n) ∧ Q (.int (n : Nat)) H) := by
  intro pins s σ H xs us Q I r h
  obtain ⟨p, S, n, rfl, hp, q⟩ := h
  obtain ⟨u, rfl, rx⟩ := vals1 r
  cases rx
  obtain ⟨o, es, ep, t, ho, hex, hd, _, _, hb, hf, hn⟩ := I.hok p _ hp
  subst hn
  have hb' : es.size < 2 ^ 20 := Nat.lt_trans hb (by decide)
  have : (2 : Int) ^ 63 = 9223372036854775808 := by decide
  have : (2 : Nat) ^ 20 = 1048576 := by decide
  exact PySem.call_len_set ho hex hd hf (by omega) ⟨.int es.size, H, I.tok _, ⟨_, rfl⟩, q⟩
end
end L2
set_option Elab.async false
set_option linter.all false
set_option maxRecDepth 100000
namespace L2
open PySem PySem.Spec PyProof.Rows
section
variable {prog : Program} {w : World} {A : Around} {E : Value → Shared → Prop} {s : Shared} {e it l : Addr} {n : Nat} {P : Nat → Value → Prop} {st : Nat → Heap → Prop}
theorem enumItem {i : Nat} {old : Value} {Q : Value → Shared → Prop} (S : Sub prog w it l n P st) (hei : e ≠ it) (hel : l ≠ e) (he : IsEnum s.heap e it i old) (h1 : st i s.heap) (hi : i < n)
    (hQ : ∀ h' x tk, P i x → IsEnumOut h' e it ((i : Int) + 1) x s.heap.objs.size → st (i + 1) h' → h'.get? s.heap.objs.size = some { cls := .type "tuple", data := .seq #[.int i tk, x] } →
      (∀ c o, c ≠ e → c ≠ it → s.heap.get? c = some o → h'.get? c = some o) → Q (.ref s.heap.objs.size) { s with heap := h', toks := s.toks + 1 }) :
    wpAny (model prog w) A (Builtin.«enumerate.__next__» ⟨[.ref e], []⟩) (fun fin s' => ∃ v, fin = .done (.ret v) ∧ Q v s') E s := by
  refine wpAny_bind (m := field (.ref e) 2) (wpAny_field he rfl (x := .ref it) rfl ?_)
  refine wpAny_bind (m := Builtin.SmallTypes.nextOf (.ref it)) (S.item _ i _ _ _ hi h1 fun x g1 px t1 b1 => ?_)
  have e1 : IsEnum g1 e it i old := b1.extBut _ _ hei he
  refine wpAny_bind (m := field (.ref e) 3) (wpAny_field e1 rfl (x := rawInt i) rfl ?_)
  refine wpAny_bind (m := field (.ref e) 4) (wpAny_field e1 rfl (x := .none) rfl ?_)
  refine wpAny_bind (m := mkInt i) (wpAny_mkInt ?_)
  refine wpAny_bind (m := setField (.ref e) 3 (rawInt ((i : Int) + 1))) (wpAny_setField_rec e1 (by simp) fun g2 e2 b2 => ?_)
  have e2' : IsEnum g2 e it ((i : Int) + 1) old := e2
  refine wpAny_bind (m := setField (.ref e) 4 .none) (wpAny_setField_rec e2' (by simp) fun g3 e3 b3 => ?_)
  have e3' : IsEnum g3 e it ((i : Int) + 1) old := e3
  refine wpAny_bind (m := newTuple [.int i s.toks, x]) (wpAny_newTuple ?_)
  have sz : g3.objs.size = s.heap.objs.size := by rw [b3.1, b2.1, b1.1]
  have e4 : IsEnum (g3.push { cls := .type "tuple", data := .seq #[.int i s.toks, x] }) e it ((i : Int) + 1) old := Heap.get?_push_of_some _ e3'
  have T4 : (g3.push { cls := .type "tuple", data := .seq #[.int i s.toks, x] }).get? s.heap.objs.size = some { cls := .type "tuple", data := .seq #[.int i s.toks, x] } := by rw [← sz]; exact Heap.get?_push_size _ rfl
  have kp4 : ∀ c o, c ≠ e → c ≠ it → s.heap.get? c = some o → (g3.push { cls := .type "tuple", data := .seq #[.int i s.toks, x] }).get? c = some o := fun c o c1 c2 q =>
    Heap.get?_push_of_some _ (b3.extBut _ _ c1 (b2.extBut _ _ c1 (b1.extBut _ _ c2 q)))
  have t4 : st (i + 1) (g3.push { cls := .type "tuple", data := .seq #[.int i s.toks, x] }) := S.keep _ _ _ t1 fun c hc o q => by
    have c1 : c ≠ e := by rcases hc with r | r <;> rw [r]; exact Ne.symm hei; exact hel
    exact Heap.get?_push_of_some _ (b3.extBut _ _ c1 (b2.extBut _ _ c1 q))
  have elt : s.heap.objs.size ≠ e := Nat.ne_of_gt (Heap.lt_size he)
  rw [sz]
  generalize g3.push { cls := .type "tuple", data := .seq #[.int i s.toks, x] } = g4 at e4 T4 kp4 t4 ⊢
  refine wpAny_bind (m := Builtin.SmallTypes.ownedTupleIsFree (.ref e)) ?_
  unfold Builtin.SmallTypes.ownedTupleIsFree
  refine wpAny_bind (wpAny_field e4 rfl (x := .none) rfl (wpAny_pure ?_))
  simp only [if_true]
  refine wpAny_bind (wpAny_rule ?_)
  refine wpAny_bind (wpAny_field e4 rfl (x := old) rfl ?_)
  refine wpAny_bind (wpAny_setField_rec e4 (by simp) fun g5 e5 b5 => ?_)
  have e5' : IsEnum g5 e it ((i : Int) + 1) x := e5
  refine wpAny_bind (m := Builtin.SmallTypes.ownedTupleHandOut (.ref e) (.ref s.heap.objs.size)) ?_
  unfold Builtin.SmallTypes.ownedTupleHandOut
  refine wpAny_bind (wpAny_setField_rec e5' (by simp) fun g6 e6 b6 => ?_)
  have e6' : IsEnumOut g6 e it ((i : Int) + 1) x s.heap.objs.size := e6
  refine wpAny_setField_rec e6' (by simp) fun g7 e7 b7 => ?_
  have e7' : IsEnumOut g7 e it ((i : Int) + 1) x s.heap.objs.size := e7
  have up : ∀ c o, c ≠ e → g4.get? c = some o → g7.get? c = some o := fun c o c1 q => b7.extBut _ _ c1 (b6.extBut _ _ c1 (b5.extBut _ _ c1 q))
  refine wpAny_bind (wpAny_letGo (wpAny_pure ⟨_, rfl, hQ g7 x s.toks px e7' ?_ (up _ _ elt T4) fun c o c1 c2 q => up c o c1 (kp4 c o c1 c2 q)⟩))
  exact S.keep _ _ _ t4 fun c hc o q => up c o (by rcases hc with r | r <;> rw [r]; exact Ne.symm hei; exact hel) q
theorem enumEnd {old : Value} {Q : Fin → Shared → Prop} (hh : A.handled = none) (S : Sub prog w it l n P st) (he : IsEnum s.heap e it n old) (h1 : st n s.heap)
    (hE : ∀ h' x, Heap.ExtBut it s.heap h' → (∃ o, h'.get? x = some o ∧ o.cls = .type "StopIteration") → E (.ref x) { s with heap := h' }) :
    wpAny (model prog w) A (Builtin.«enumerate.__next__» ⟨[.ref e], []⟩) Q E s := by
  refine wpAny_bind (m := field (.ref e) 2) (wpAny_field he rfl (x := .ref it) rfl ?_)
  exact wpAny_bind (m := Builtin.SmallTypes.nextOf (.ref it)) (S.done _ _ _ _ hh h1 hE)
end
def Ite (K : PySem.W.Frag) (k : Sk) (a : Addr) : It :=
  ⟨fun i H => ∃ xs x, SqK k K H a xs ∧ xs[i]? = some x,
   fun i H v H' => ∃ p, H p = none ∧ v = .ref p ∧ ∀ xs, SqK k K H a xs → ∃ x, xs[i]? = some x ∧ H' = upd H p (.tup [.int (i : Nat), x]),
   fun i H => ∃ xs, SqK k K H a xs ∧ xs.length = i⟩
theorem turn_enum {P : Program} {w : World} {K : PySem.W.Frag} {es : List Expr} {x1} {pos : Pos} (k : Sk) (a e it : Addr) (hei : e ≠ it) :
    Turn P w K (.Tuple es x1 pos) (Ite K k a) [e, it] e (fun i h => (∃ old, IsEnum h e it i old) ∧ ItK k h it a i) where
  mem := by simp
  obj := fun i h st c hc => by
    obtain ⟨⟨old, he⟩, h1⟩ := st
    simp only [List.mem_cons, List.not_mem_nil, or_false] at hc
    rcases hc with rfl | rfl
    · exact ⟨_, he, fun v q => by cases q⟩
    · exact h1.obj
  keep := fun i h h' st kp => by
    obtain ⟨⟨old, he⟩, h1⟩ := st
    exact ⟨⟨old, kp e (by simp) _ he⟩, h1.at fun o q => kp it (by simp) o q⟩
  item := by
    intro X hP hw hK hc i pins s σ H E I hf st hg
    subst hP hw hK
    obtain ⟨⟨old, he⟩, h1⟩ := st
    obtain ⟨xs, x, ha, hx⟩ := hg
    obtain ⟨its, rv, pa⟩ := I.seqK ha
    obtain ⟨u, hu, ru⟩ := rv.get hx
    have na : ∀ c ∈ [e, it], a ≠ c := fun c hc' => I.seq_ne ha (hf c hc')
    have hT : s.TypeIs (.ref e) "enumerate" := ⟨_, he, rfl⟩
    have hi1 : i < its.toArray.size := by rw [List.size_toArray]; exact (List.getElem?_eq_some_iff.mp hu).1
    unfold pyNext
    refine wpAny_bind (wpAny_attempt (wpAny_callSpecial?_slot (name := Str.ofString "__next__") hT PySem.F.slot_enumerate_next (wpAny_call_entry PySem.F.slot_enumerate_next hT PySem.F.entry_enumerate_next
      (enumItem (subK k X.prog X.w it a its.toArray (na it (by simp))) hei (na e (by simp)) he ⟨h1, pa⟩ hi1 fun h' u' tk pu he' s1 hT' kp => wpAny_pure ?_) (PySem.F.args_enumerate_next_1 _))))
    have eu : u' = u := by
      have q : its[i]? = some u' := by simpa using pu
      rw [hu] at q
      exact (Option.some.inj q).symm
    subst eu
    refine ⟨_, rfl, wpAny_letOwnedTupleGo_enum he' fun h2 he2 sb2 => ?_⟩
    have Te : s.heap.objs.size ≠ e := Nat.ne_of_gt (Heap.lt_size he)
    have hT2 : h2.get? s.heap.objs.size = some { cls := .type "tuple", data := .seq #[.int i tk, u'] } := sb2.extBut _ _ Te hT'
    have hf0 := I.hok.fresh (Nat.le_refl s.heap.objs.size)
    have fz := I.fpOk (Nat.le_refl s.heap.objs.size) hf0
    have I2 : Inv X pins σ H { s with heap := h2, toks := s.toks + 1 } := by
      refine I.turnedL (t' := s.toks + 1) [e, it] (fun c o hc' q => ?_) hf
      simp only [List.mem_cons, List.not_mem_nil, or_false, not_or] at hc'
      exact sb2.extBut _ _ hc'.1 (kp c o hc'.1 hc'.2 q)
    have I3 : Inv X pins σ (upd H s.heap.objs.size (.tup [.int (i : Nat), x])) { s with heap := h2, toks := s.toks + 1 } := by
      refine I2.trackO (show ObjOk X.prog X.w _ _ _ (.tup [.int (i : Nat), x]) from ⟨by show 2 ≤ sizeLine; rw [sizeLine_eq]; decide, [.int i tk, u'], 0, .cons ⟨tk, rfl⟩ (.cons ru .nil), hT2⟩) hf0 fz.2.1 I.sz fz.2.2.2.2.1 fz.2.2.2.2.2
    refine ⟨.ref s.heap.objs.size, _, I3, rfl, ⟨s.heap.objs.size, hf0, rfl, fun xs' ha' => ?_⟩, ⟨⟨_, by simpa using he2⟩, s1.1.at fun o q => sb2.extBut _ _ (Ne.symm hei) q⟩, fun c hc' => ?_⟩
    · rw [I.seqK_inj ha' ha]
      exact ⟨x, hx, rfl⟩
    · have cl : c ≠ s.heap.objs.size := by
        obtain ⟨o, q⟩ : ∃ o, s.heap.get? c = some o := by
          simp only [List.mem_cons, List.not_mem_nil, or_false] at hc'
          rcases hc' with rfl | rfl
          · exact ⟨_, he⟩
          · obtain ⟨o, q, _⟩ := h1.obj; exact ⟨o, q⟩
        exact Nat.ne_of_lt (Heap.lt_size q)
      rw [upd_ne cl]
      exact (hf c hc').1
  done := by
    intro X hP hw hK hc i pins s σ H E I hf st hg
    subst hP hw hK
    obtain ⟨⟨old, he⟩, h1⟩ := st
    obtain ⟨xs, ha, hlen⟩ := hg
    obtain ⟨its, rv, pa⟩ := I.seqK ha
    have la := rv.length
    have na : ∀ c ∈ [e, it], a ≠ c := fun c hc' => I.seq_ne ha (hf c hc')
    have hT : s.TypeIs (.ref e) "enumerate" := ⟨_, he, rfl⟩
    have ei : i = its.toArray.size := by rw [List.size_toArray]; omega
    subst ei
    unfold pyNext
    refine wpAny_bind (wpAny_attempt (wpAny_callSpecial?_slot (name := Str.ofString "__next__") hT PySem.F.slot_enumerate_next (wpAny_call_entry PySem.F.slot_enumerate_next hT PySem.F.entry_enumerate_next
      (enumEnd (I.ok.hd hc) (subK k X.prog X.w it a its.toArray (na it (by simp))) he ⟨h1, pa⟩ fun h' x kp hx => ?_) (PySem.F.args_enumerate_next_1 _))))
    obtain ⟨oe, hoe, hce⟩ := hx
    refine wpAny_bind (wpAny_isInstance (T := "StopIteration") (b := true) ⟨oe, hoe, hce⟩ isSubtype_stop (wpAny_pure ⟨rfl, ?_⟩))
    refine I.turnedL (t' := s.toks) [e, it] (fun c o hc' q => ?_) hf
    simp only [List.mem_cons, List.not_mem_nil, or_false, not_or] at hc'
    exact kp c o hc'.2 q
  self := fun _ _ _ _ _ st h => by
    obtain ⟨⟨old, he⟩, _⟩ := st
    exact wpAny_pyIter_enum he h
theorem enum_made (k : Sk) (a : Addr) (xs : Array Value) :
    Meets (Builtin.«enumerate.__new__» ⟨[.type "enumerate", .ref a], []⟩) (fun _ R s => AtK k s.heap a xs ∧
      R (.ok (.ret (.ref (s.heap.push (itK k a)).objs.size))) { s with heap := (s.heap.push (itK k a)).push { cls := .type "enumerate", data := .fields #[.none, .bool false, .ref s.heap.objs.size, rawInt 0, .none, .none] } }) :=
  .of_wp fun prog w A R s h => by
    obtain ⟨hp, g, d, tk, os⟩ := s
    obtain ⟨hl, h⟩ := h
    have hsub := sub_enumerate
    have hA : AtK k (Shared.heap ⟨hp, g, d, tk, os⟩) a xs := hl
    obtain ⟨o, ho, hc⟩ : ∃ o, hp.get? a = some o ∧ (o.cls = .type "list" ∨ o.cls = .type "tuple") := by
      cases k
      · obtain ⟨o, e, c, _⟩ := hl; exact ⟨o, e, .inl c⟩
      · obtain ⟨o, e, c, _⟩ := hl; exact ⟨o, e, .inr c⟩
    have hoL : (Shared.heap ⟨hp, g, d, tk, os⟩).get? a = some o := ho
    wp_walk using AutoSeq1.wpAny_loadPart' hoL
    refine wpAny_stack_any fun st => wpAny_pure ?_
    split
    · rename_i c _ _ _ _ _
      cases (c == Value.type "enumerate")
      · wp_walk using AutoSeq1.wpAny_loadPart' hoL, iterK hA
        exact ⟨_, rfl, h⟩
      · wp_walk using AutoSeq1.wpAny_loadPart' hoL, iterK hA
        exact ⟨_, rfl, h⟩
    · wp_walk using AutoSeq1.wpAny_loadPart' hoL, iterK hA
      exact ⟨_, rfl, h⟩
section
variable {X : Cx} {es : List Expr} {x1 : Nat} {tpos : Pos}
def iEnum (K : PySem.W.Frag) (k : Sk) (ta : TA) : TI := fun σ H R => ta σ H fun vs H1 => ∃ a xs, vs = [.ref a] ∧ SqK k K H1 a xs ∧ R (Ite K k a) H1
theorem pi_enum (k : Sk) {a : Expr} {ta : TA} {p pos : Pos} (hg : Gl X "enumerate") (hm : X.mg "enumerate" = none) (ha : PA X [a] ta) (hs : starEach [a] X.env = [(false, eval a X.env)] := by rfl) :
    PI X (.Tuple es x1 tpos) (.Call (.Name "enumerate" p) [a] [] pos) (iEnum X.K k ta) := by
  intro pins s σ H R I h
  refine Call_ (ld_blt (u := .type "enumerate") I hg hm (by decide +kernel) (PyProof.Rows.callWith_type1 (thn (ha pos pins s σ H _ I h) fun us s1 hx9 => ?_) hs rfl))
  obtain ⟨vs, H1, I1, r1, q1⟩ := hx9
  obtain ⟨l, xs, rfl, hA, q⟩ := q1
  obtain ⟨u1, rfl, r1'⟩ := vals1 r1
  cases r1'
  obtain ⟨its, rv, pa⟩ := I1.seqK hA
  refine callType_new PySem.F.called_enumerate (by decide) (PySem.F.typeCall_enumerate_1 _) (PySem.F.newCall_enumerate_1 _) (fun obj => PySem.F.args_object_init_2 obj _) PySem.F.entry_enumerate_new (enum_made k l its.toArray) ⟨pa, ?_⟩
  have n1 : (s1.heap.push (itK k l)).objs.size = s1.heap.objs.size + 1 := Heap.size_push ..
  have g2 : IsEnum ((s1.heap.push (itK k l)).push { cls := .type "enumerate", data := .fields #[.none, .bool false, .ref s1.heap.objs.size, rawInt 0, .none, .none] }) (s1.heap.push (itK k l)).objs.size s1.heap.objs.size 0 .none := Heap.get?_push_size _ rfl
  have g1 : ItK k ((s1.heap.push (itK k l)).push { cls := .type "enumerate", data := .fields #[.none, .bool false, .ref s1.heap.objs.size, rawInt 0, .none, .none] }) s1.heap.objs.size l 0 := (ItK.new k s1.heap l).at fun o e => Heap.get?_push_of_some _ e
  have kp : ∀ c o, s1.heap.get? c = some o → ((s1.heap.push (itK k l)).push { cls := .type "enumerate", data := .fields #[.none, .bool false, .ref s1.heap.objs.size, rawInt 0, .none, .none] }).get? c = some o := fun c o e => Heap.get?_push_of_some _ (Heap.get?_push_of_some _ e)
  generalize (s1.heap.push (itK k l)).push { cls := .type "enumerate", data := .fields #[.none, .bool false, .ref s1.heap.objs.size, rawInt 0, .none, .none] } = h2 at g1 g2 kp ⊢
  refine ⟨⟨_, g2, rfl⟩, wpAny_pyIter_enum g2 ?_⟩
  rw [n1] at *
  have I2 : Inv X pins σ H1 { s1 with heap := h2 } := I1.kept (t' := s1.toks) kp
  refine ⟨s1.heap.objs.size + 1, [s1.heap.objs.size + 1, s1.heap.objs.size], _, _, H1, rfl, I2, turn_enum k l (s1.heap.objs.size + 1) s1.heap.objs.size (Nat.succ_ne_self _), ⟨⟨_, g2⟩, g1⟩, fun c hc => ?_, q⟩
  have hc' : s1.heap.objs.size ≤ c := by
    simp only [List.mem_cons, List.not_mem_nil, or_false] at hc
    rcases hc with r | r
    · rw [r]; exact Nat.le_add_right _ _
    · rw [r]; exact Nat.le_refl _
  exact I1.fpOk hc' (I1.hok.fresh hc')
end
theorem for_enum {K : PySem.W.Frag} {k : Sk} {a : Addr} {xs : List V} {g : TG} {tb : TS} {D : Ends} {σ : St} {H : Hp} (Pv : Nat → St → Hp → Prop) (h0 : Pv 0 σ H) (hl : ∀ i σ H, i ≤ xs.length → Pv i σ H → SqK k K H a xs)
    (hs : ∀ i x p σ H, xs[i]? = some x → Pv i σ H → H p = none → g (.ref p) σ (upd H p (.tup [.int (i : Nat), x])) fun σ2 H2 => tb { D with nx := Pv (i + 1), ct := Pv (i + 1), bk := D.nx } σ2 H2) (hd : ∀ σ H, Pv xs.length σ H → D.nx σ H) :
    ∃ W : Nat → Nat → St → Hp → Prop, (∃ m, W 0 m σ H) ∧ ∀ i m σ H, W i m σ H →
      ((Ite K k a).stop i H ∧ D.nx σ H) ∨ ((Ite K k a).go i H ∧ ∃ N : St → Hp → Prop, (∀ σ' H', N σ' H' → ∃ m', m' < m ∧ W (i + 1) m' σ' H') ∧ ∀ x H', (Ite K k a).yld i H x H' → g x σ H' fun σ2 H2 => tb { D with nx := N, ct := N, bk := D.nx } σ2 H2) := by
  refine ⟨fun i m σ H => m = xs.length - i ∧ i ≤ xs.length ∧ Pv i σ H, ⟨xs.length, by simp, Nat.zero_le _, h0⟩, ?_⟩
  rintro i m σ H ⟨rfl, hi, p⟩
  have q := hl i σ H hi p
  by_cases hlt : i < xs.length
  · refine .inr ⟨⟨xs, xs[i], q, List.getElem?_eq_getElem hlt⟩, Pv (i + 1), fun σ' H' p' => ⟨xs.length - (i + 1), by omega, rfl, hlt, p'⟩, fun x H' y => ?_⟩
    obtain ⟨p1, hp1, rfl, y⟩ := y
    obtain ⟨v, hv, rfl⟩ := y xs q
    exact hs i v p1 σ H hv p hp1
  · have e : i = xs.length := by omega
    subst e
    exact .inl ⟨⟨xs, q, rfl⟩, hd σ H p⟩
end L2
set_option Elab.async false
set_option linter.all false
set_option maxRecDepth 100000
namespace L2
open PySem PySem.Spec PyProof.Rows
theorem le1000 {n : Nat} (h : n ≤ 1000) : n ≤ sizeLine := by rw [sizeLine_eq]; omega
section
variable {own : Nat} {fr : List Nat} {g : TG} {te : TE} {σ : St} {H : Hp} {Qf : Hp → List V → Prop} {K : PySem.W.Frag}
theorem take_at {vs : List V} {i : Nat} {v : V} (h : vs[i]? = some v) : vs.take (i + 1) = vs.take i ++ [v] := by rw [List.take_succ, h]; rfl
theorem comp_fn {J : It} {n : Nat} {vs : List V} (SH : St → Prop) (hn : n ≤ 1000) (hl : vs.length = n) (hσ : SH (blk own fr σ)) (hstop : ∀ H', Same H H' → J.stop n H') (hgo : ∀ i H', i < n → Same H H' → J.go i H')
    (hs : ∀ i v x σ H1 H2, i < n → vs[i]? = some v → SH σ → Same H H1 → J.yld i H1 x H2 → ∀ Q : V → St → Hp → Prop, (∀ σ2 H4, SH σ2 → Same H1 H4 → Q v σ2 H4) → g x σ H2 fun σ2 H3 => te σ2 H3 fun y H4 => Q y σ2 H4)
    (hd : ∀ H', Same H H' → Qf H' vs) :
    ∃ W : Nat → Nat → List V → St → Hp → Prop, (∃ m, W 0 m [] (blk own fr σ) H) ∧ ∀ i m ys σ' H, W i m ys σ' H →
      (J.stop i H ∧ Qf H ys) ∨
      (J.go i H ∧ ∃ N : List V → St → Hp → Prop, (∀ ys' σ2 H2, N ys' σ2 H2 → ∃ m', m' < m ∧ W (i + 1) m' ys' σ2 H2) ∧
        ∀ x H', J.yld i H x H' → g x σ' H' fun σ2 H2 => tAll σ2 H2 fun b H3 => if b = true then te σ2 H3 fun y H4 => ys.length < sizeLine ∧ N (ys ++ [y]) σ2 H4 else N ys σ2 H3) := by
  refine comp_it n (le1000 hn) SH (fun i ys H' => ys = vs.take i ∧ Same H H') hσ ⟨rfl, Same.refl H⟩ (fun i ys H' p => by rw [p.1, List.length_take]; omega) (fun ys H' p => hstop H' p.2) (fun i ys H' hi p => hgo i H' hi p.2) ?_ (fun ys H' p => ?_)
  · rintro i ys σ' x H1 H2 hi sh ⟨rfl, s1⟩ hy hz
    have hv : vs[i]? = some vs[i] := List.getElem?_eq_getElem (by omega)
    have h := hs i vs[i] x σ' H1 H2 hi hv sh s1 hy (fun y σ2 H4 => (vs.take i).length < sizeLine ∧ SH σ2 ∧ (vs.take i ++ [y] = vs.take (i + 1) ∧ Same H H4)) fun σ2 H4 sh2 s4 => ⟨hz, sh2, (take_at hv).symm, s1.trans s4⟩
    exact h
  · obtain ⟨rfl, s1⟩ := p
    rw [List.take_of_length_le (by omega)]
    exact hd H' s1
theorem comp_fnL {a : Addr} {xs vs : List V} (SH : St → Prop) (hn : xs.length ≤ 1000) (hl : vs.length = xs.length) (ha : SqL K H a xs) (hσ : SH (blk own fr σ))
    (hs : ∀ (i : Nat) x v σ H1, xs[i]? = some x → vs[i]? = some v → SH σ → Same H H1 → ∀ Q : V → St → Hp → Prop, (∀ σ2 H4, SH σ2 → Same H1 H4 → Q v σ2 H4) → g x σ H1 fun σ2 H2 => te σ2 H2 fun y H4 => Q y σ2 H4)
    (hd : ∀ H', Same H H' → Qf H' vs) :
    ∃ W : Nat → Nat → List V → St → Hp → Prop, (∃ m, W 0 m [] (blk own fr σ) H) ∧ ∀ i m ys σ' H, W i m ys σ' H →
      ((Itl K a).stop i H ∧ Qf H ys) ∨
      ((Itl K a).go i H ∧ ∃ N : List V → St → Hp → Prop, (∀ ys' σ2 H2, N ys' σ2 H2 → ∃ m', m' < m ∧ W (i + 1) m' ys' σ2 H2) ∧
        ∀ x H', (Itl K a).yld i H x H' → g x σ' H' fun σ2 H2 => tAll σ2 H2 fun b H3 => if b = true then te σ2 H3 fun y H4 => ys.length < sizeLine ∧ N (ys ++ [y]) σ2 H4 else N ys σ2 H3) := by
  refine comp_fn SH hn hl hσ (fun H' s => ⟨xs, s.seqL ha, Nat.le_refl _⟩) (fun i H' hi s => ⟨xs, xs[i], s.seqL ha, List.getElem?_eq_getElem hi⟩) (fun i v x σ H1 H2 hi hv sh s y Q k => ?_) hd
  obtain ⟨e, y⟩ := y
  subst e
  exact hs i x v σ _ (y xs (s.seqL ha)) hv sh s Q k
theorem comp_fnR {lo : Int} {n : Nat} {vs : List V} (SH : St → Prop) (hn : n ≤ 1000) (hl : vs.length = n) (hσ : SH (blk own fr σ))
    (hs : ∀ i v σ H1, i < n → vs[i]? = some v → SH σ → Same H H1 → ∀ Q : V → St → Hp → Prop, (∀ σ2 H4, SH σ2 → Same H1 H4 → Q v σ2 H4) → g (.int (lo + i)) σ H1 fun σ2 H2 => te σ2 H2 fun y H4 => Q y σ2 H4)
    (hd : ∀ H', Same H H' → Qf H' vs) :
    ∃ W : Nat → Nat → List V → St → Hp → Prop, (∃ m, W 0 m [] (blk own fr σ) H) ∧ ∀ i m ys σ' H, W i m ys σ' H →
      ((Itr lo n).stop i H ∧ Qf H ys) ∨
      ((Itr lo n).go i H ∧ ∃ N : List V → St → Hp → Prop, (∀ ys' σ2 H2, N ys' σ2 H2 → ∃ m', m' < m ∧ W (i + 1) m' ys' σ2 H2) ∧
        ∀ x H', (Itr lo n).yld i H x H' → g x σ' H' fun σ2 H2 => tAll σ2 H2 fun b H3 => if b = true then te σ2 H3 fun y H4 => ys.length < sizeLine ∧ N (ys ++ [y]) σ2 H4 else N ys σ2 H3) := by
  refine comp_fn SH hn hl hσ (fun H' s => Nat.le_refl _) (fun i H' hi s => hi) (fun i v x σ H1 H2 hi hv sh s y Q k => ?_) hd
  obtain ⟨e, y⟩ := y
  subst e y
  exact hs i v σ _ hi hv sh s Q k
theorem comp_fnZ {k1 k2 : Sk} {a b : Addr} {xs zs vs : List V} (SH : St → Prop) (hn : xs.length ≤ 1000) (hle : xs.length ≤ zs.length) (hl : vs.length = xs.length) (ha : ∀ H', Same H H' → SqK k1 K H' a xs ∧ SqK k2 K H' b zs) (hσ : SH (blk own fr σ))
    (hs : ∀ (i : Nat) x z v p σ H1, xs[i]? = some x → zs[i]? = some z → vs[i]? = some v → H1 p = none → SH σ → Same H H1 → ∀ Q : V → St → Hp → Prop, (∀ σ2 H4, SH σ2 → Same H1 H4 → Q v σ2 H4) → g (.ref p) σ (upd H1 p (.tup [x, z])) fun σ2 H2 => te σ2 H2 fun y H4 => Q y σ2 H4)
    (hd : ∀ H', Same H H' → Qf H' vs) :
    ∃ W : Nat → Nat → List V → St → Hp → Prop, (∃ m, W 0 m [] (blk own fr σ) H) ∧ ∀ i m ys σ' H, W i m ys σ' H →
      ((Itz K k1 k2 a b).stop i H ∧ Qf H ys) ∨
      ((Itz K k1 k2 a b).go i H ∧ ∃ N : List V → St → Hp → Prop, (∀ ys' σ2 H2, N ys' σ2 H2 → ∃ m', m' < m ∧ W (i + 1) m' ys' σ2 H2) ∧
        ∀ x H', (Itz K k1 k2 a b).yld i H x H' → g x σ' H' fun σ2 H2 => tAll σ2 H2 fun b H3 => if b = true then te σ2 H3 fun y H4 => ys.length < sizeLine ∧ N (ys ++ [y]) σ2 H4 else N ys σ2 H3) := by
  refine comp_fn SH hn hl hσ (fun H' s => ⟨xs, zs, (ha H' s).1, (ha H' s).2, by omega⟩) (fun i H' hi s => ⟨xs, zs, xs[i], zs[i]'(by omega), (ha H' s).1, (ha H' s).2, List.getElem?_eq_getElem hi, List.getElem?_eq_getElem (by omega)⟩) (fun i v x σ H1 H2 hi hv sh s y Q k => ?_) hd
  obtain ⟨q, hq, rfl, hy⟩ := y
  obtain ⟨x, z, h1, h2, rfl⟩ := hy xs zs (ha H1 s).1 (ha H1 s).2
  exact hs i x z v q σ H1 h1 h2 hv hq sh s Q k
end
end L2
set_option Elab.async false
set_option linter.all false
set_option maxRecDepth 100000
namespace L2
open PySem PySem.Spec PyProof.Rows
section
variable {X : Cx} {st : Stmt} {rest : List Stmt} {t u : TS} {e : Expr} {te : TE} {tt : TT}
def tMid (t u : TS) : TS := fun D σ H => ∃ M : St → Hp → Prop, t { D with nx := M } σ H ∧ ∀ σ' H', M σ' H' → u D σ' H'
theorem pss_mid (h1 : PS X st t) (h2 : PSs X rest u) : PSs X (st :: rest) (tMid t u) := by
  intro pins s σ H D I h
  obtain ⟨M, h, k⟩ := h
  refine wpAny_execs_cons (thn (h1 pins s σ H { D with nx := M } I h) fun f s1 q => ?_)
  cases f with
  | next =>
    obtain ⟨σ', H', I', q⟩ := q
    exact h2 pins s1 σ' H' D I' (k σ' H' q)
  | ret v => exact q
  | brk => exact q
  | cont => exact q
def tMidE (t : TE) : TE := fun σ H Q => ∃ M : VK, t σ H M ∧ ∀ v H', M v H' → Q v H'
theorem pe_mid (h : PE X e te) : PE X e (tMidE te) := by
  intro pins s σ H Q I hq
  obtain ⟨M, hq, k⟩ := hq
  exact thn (h pins s σ H M I hq) fun v s1 ⟨x, H1, I1, r1, q1⟩ => ⟨x, H1, I1, r1, k x H1 q1⟩
end
section
variable {X : Cx} {K : PySem.W.Frag}
theorem op_neDK (hK : X.K = K) (hu : X.A.units + 64 < cLine) : OpR X (compareOp .NotEq) (fun x y H Q => ∃ d e, Den K H d x ∧ Den K H e y ∧ noDict d = true ∧ noDict e = true ∧ SeqAt.shaped d = true ∧ SeqAt.shaped e = true ∧ Q (.bl (!PyData.eqv d e)) H) := by subst hK; exact op_neD hu
theorem ix_listK (hK : X.K = K) : IxR X (rIxL K) := by subst hK; exact ix_list
theorem op_notIn_seqK (hK : X.K = K) : OpR X (compareOp .NotIn) (rIn K true) := by subst hK; exact op_notIn_seq
end
end L2
set_option Elab.async false
set_option linter.all false
set_option maxRecDepth 100000
namespace L2
open PySem PySem.Spec PyProof.Rows
theorem slicePick_rev (xs : Array Value) : slicePick xs none none (some (-1)) = xs.toList.reverse.toArray := by
  unfold slicePick
  have e1 : sliceBounds none none (some (-1)) xs.size = ((xs.size : Int) - 1, -1, -1) := by simp [sliceBounds]
  rw [e1, ← pick_rev xs]
  congr 1
  show List.filterMap (fun x => xs[x]?) (sliceRange ((xs.size : Int) - 1) (-1) (-1)) = _
  have e2 : sliceRange ((xs.size : Int) - 1) (-1) (-1) = (List.range xs.size).map fun (k : Nat) => ((xs.size : Int) - 1 + (k : Int) * (-1)).toNat := by
    unfold sliceRange
    rw [if_neg (by decide)]
    have e3 : (if (xs.size : Int) - 1 > -1 then ((xs.size : Int) - 1 - -1 - -1 - 1) / (- -1) else 0).toNat = xs.size := by
      by_cases h0 : xs.size = 0
      · rw [h0]; decide
      · rw [if_pos (by omega), show (- -1 : Int) = 1 from rfl, Int.ediv_one]; omega
    show (List.range (if (xs.size : Int) - 1 > -1 then ((xs.size : Int) - 1 - -1 - -1 - 1) / (- -1) else 0).toNat).map _ = _
    rw [e3]
    refine List.map_congr_left fun k _ => ?_
    congr 1
    omega
  rw [e2, List.filterMap_map]
  rfl
section
variable {X : Cx}
def tRevL (K : PySem.W.Frag) (te ts : TE) : TE := fun σ H Q => te σ H fun x H1 => ts σ H1 fun y H2 => y = .int (-1) ∧ ∃ a xs, x = .ref a ∧ SqL K H2 a xs ∧ ∀ p, H2 p = none → Q (.ref p) (upd H2 p (.lst xs.reverse))
theorem pe_revL {e st : Expr} {te ts : TE} {pos p2 : Pos} (he : PE X e te) (hst : PE X st ts) : PE X (.Subscript e (.Slice none none (some st) p2) pos) (tRevL X.K te ts) := by
  intro pins s σ H Q I h
  refine Subscript_ (thn (he pins s σ H _ I h) fun v s1 hx9 => ?_)
  obtain ⟨x, H1, I1, r1, q1⟩ := hx9
  refine wpAny_Slice ?_
  rw [evalPart_none]
  refine wpAny_pure ?_
  show wpAny _ _ (evalPart none X.env) _ _ s1
  rw [evalPart_none]
  refine wpAny_pure ?_
  show wpAny _ _ (evalPart (some st) X.env) _ _ s1
  rw [evalPart_some]
  refine thn (hst pins s1 σ H1 _ I1 q1) fun vst s3 hx9 => ?_
  obtain ⟨y, H3, I3, r3, q3⟩ := hx9
  obtain ⟨rfl, a, xs, rfl, hx, q⟩ := q3
  obtain ⟨tk, rfl⟩ := r3
  cases r1
  have I4 : Inv X pins σ H3 { s3 with heap := s3.heap.push { cls := .type "slice", data := .fields #[.none, .none, .int (-1) tk] } } := I3.kept (t' := s3.toks) fun b ob q => Heap.get?_push_of_some _ q
  obtain ⟨its, r, ht, hz⟩ := I4.list hx
  have hlen := r.length
  have hg : wpAny (model X.prog X.w) X.A (getItem (.ref a) (.ref s3.heap.objs.size)) (EP X pins σ Q) X.xe { s3 with heap := s3.heap.push { cls := .type "slice", data := .fields #[.none, .none, .int (-1) tk] } } := by
    refine wpAny_getItem_list_slice ht.isList (Heap.IsSliceOf.new ..) .none .none (.int (-1) tk) (by decide) ?_ (by rw [List.size_toArray]; omega)
    rw [slicePick_rev]
    refine ⟨.ref _, _, I4.laid (t' := s3.toks) (o := .lst xs.reverse) (fun b ob q => Heap.get?_push_of_some _ q) (Nat.le_refl _) ?_, rfl, q _ (I4.hok.fresh (Nat.le_refl _))⟩
    exact ⟨by rw [List.length_reverse]; exact hz, its.reverse, 0, r.reverse, Heap.get?_push_size _ rfl⟩
  show wpAny (model X.prog X.w) X.A (subscriptTail e (.Slice none none (some st) p2) (.ref a) (.ref s3.heap.objs.size)) (EP X pins σ Q) X.xe { s3 with heap := s3.heap.push { cls := .type "slice", data := .fields #[.none, .none, .int (-1) tk] } }
  exact tail_any (ops := [.ref a, .ref s3.heap.objs.size]) ht.isList.typeIs slot_list_getitem.lookup hg (by with_unfolding_all rfl)
end
section
variable {K : PySem.W.Frag} {S : List Addr} {H H' H0 : Hp} {E E' : Hp → V → Prop} {σ : St} {te ta tb ts : TE} {t tr : TA} {tl th : TO}
theorem alE_sliceL {n : Nat} [M : Mo E] (h : Al H0 S te σ (LTe S E n)) (hl : AlO H0 S tl σ) (hh : AlO H0 S th σ) : Al H0 S (tSl (rSlL K) te tl th) σ (LTe S E n) := fun H s f Q k => h H s f _ fun v H1 s1 d1 => hl H1 (s.trans s1) (f.same s1) _ fun lo H2 s2 => hh H2 ((s.trans s1).trans s2) ((f.same s1).same s2) _ fun hi H3 s3 => by
  have d3 : LTe S E n H3 v := Mo.mo s3 (Mo.mo s2 d1)
  obtain ⟨a, xs, rfl, ha, la, da⟩ := d3
  have f3 := ((f.same s1).same s2).same s3
  exact ⟨a, xs, rfl, SqL.of (Vw.sub _ _ ha), fun p hp => k _ _ (s1.trans (s2.trans (s3.trans (Same.new hp)))) ⟨p, _, rfl, Vw.at f3 hp, Nat.le_trans cutV_len la, fun y hy => M.mo (Same.new hp) (da y (cutV_mem hy))⟩⟩
theorem alE_revL {n : Nat} [M : Mo E] (h : Al H0 S te σ (LTe S E n)) (hs : Al H0 S ts σ fun _ v => v = .int (-1)) : Al H0 S (tRevL K te ts) σ (LTe S E n) := fun H s f Q k => h H s f _ fun v H1 s1 d1 => hs H1 (s.trans s1) (f.same s1) _ fun u H2 s2 e => by
  have d2 : LTe S E n H2 v := Mo.mo s2 d1
  obtain ⟨a, xs, rfl, ha, la, da⟩ := d2
  have f2 := (f.same s1).same s2
  exact ⟨e, a, xs, rfl, SqL.of (Vw.sub _ _ ha), fun p hp => k _ _ (s1.trans (s2.trans (Same.new hp))) ⟨p, _, rfl, Vw.at f2 hp, by rw [List.length_reverse]; exact la, fun y hy => M.mo (Same.new hp) (da y (List.mem_reverse.mp hy))⟩⟩
theorem alE_ixT {n c : Nat} {xs : List V} {a : Addr} [M : Mo E] (ha : Al H0 S ta σ fun H v => v = .ref a ∧ SqT K (Vw S H) a xs) (hc : c < xs.length) (hE : ∀ x ∈ xs, E H0 x) : Al H0 S (tOp (rIxT K) ta (tC (.int (c : Nat)))) σ E := fun H s f Q k => ha H s f _ fun v H1 s1 ⟨e, h⟩ =>
  ⟨a, xs, (c : Nat), xs[c], e, rfl, Vw.sub.seqT h, atI_nat (List.getElem?_eq_getElem hc), k _ H1 s1 (M.mo (s.trans s1) (hE _ (List.getElem_mem hc)))⟩
instance {a : Addr} {xs : List V} : Mo (fun H v => v = .ref a ∧ SqT K (Vw S H) a xs) := ⟨fun e h => ⟨h.1, (Vw.same e).seqT h.2⟩⟩
end
end L2
set_option Elab.async false
set_option linter.all false
set_option maxRecDepth 100000
namespace L2
open PySem PySem.Spec PyProof.Rows
structure Fn (K : PySem.W.Frag) (mg : Str → Option Value) (x : Str) (st : Stmt) (ps : List Str) (f : Addr) (fd : FuncData) : Prop where
  fn : Fun K x x st f fd
  mgx : mg x = some (.ref f)
  kp : PySem.W.keepIn K (.ref f) = true
  bd : Binds K fd ps []
theorem pe_fn {X : Cx} {x : Str} {st : Stmt} {ps : List Str} {f : Addr} {fd : FuncData} {k : Nat} {sp : Sp} {p pos : Pos} {e : Expr} {es : List Expr} {t : TA} (G : Fn X.K X.mg x st ps f fd) (ok : FnOk X.prog X.w X.K X.mg X.base CX0 k f fd ps sp) (hr : Room k X.A) (hg : Gl X x) (ha : PA X (e :: es) t)
    (hdb : (x == ("__debug__" : Str)) = false := by decide) (he : starEach (e :: es) X.env = (false, eval e X.env) :: starEach es X.env := by rfl) (hpl : (backTo pos (starEach es X.env)).any (·.1) = false := by rfl) :
    PE X (.Call (.Name x p) (e :: es) [] pos) (tCall sp [] E0 t) := pe_call ok hr hg G.mgx G.kp G.bd .nil pass0 ha hdb he hpl
structure Bl (mg : Str → Option Value) : Prop where
  isinstance : mg "isinstance" = none
  int : mg "int" = none
  bool : mg "bool" = none
  tuple : mg "tuple" = none
  list : mg "list" = none
  len : mg "len" = none
  all : mg "all" = none
  zip : mg "zip" = none
  range : mg "range" = none
  sorted : mg "sorted" = none
  set : mg "set" = none
  sum : mg "sum" = none
  repr : mg "repr" = none
  enumerate : mg "enumerate" = none
  min : mg "min" = none
  ve : mg "ValueError" = none
  hands : ∃ t, mg "MOST_HANDS" = some (.int 6 t)
  works : ∃ t, mg "MOST_WORKS" = some (.int 12 t)
theorem b_isi : bootBuiltins "isinstance" = some (.builtin "isinstance") := by decide +kernel
theorem b_int : bootBuiltins "int" = some (.type "int") := by decide +kernel
theorem b_bool : bootBuiltins "bool" = some (.type "bool") := by decide +kernel
theorem b_tuple : bootBuiltins "tuple" = some (.type "tuple") := by decide +kernel
theorem b_list : bootBuiltins "list" = some (.type "list") := by decide +kernel
theorem b_len : bootBuiltins "len" = some (.builtin "len") := by decide +kernel
theorem b_all : bootBuiltins "all" = some (.builtin "all") := by decide +kernel
theorem b_range : bootBuiltins "range" = some (.type "range") := by decide +kernel
theorem b_sorted : bootBuiltins "sorted" = some (.builtin "sorted") := by decide +kernel
theorem b_set : bootBuiltins "set" = some (.type "set") := by decide +kernel
theorem b_repr : bootBuiltins "repr" = some (.builtin "repr") := by decide +kernel
end L2

namespace Ab
open PySem L2
def top (i : Nat) : Stmt := PySem.Challenge.pw_ablehands_k07_ways_gone.main.body.getD i (.Pass ⟨0, 0, 0, 0⟩)
abbrev sWhole : Stmt := top 16
abbrev sHands : Stmt := top 17
abbrev sWorkP : Stmt := top 18
abbrev sBookP : Stmt := top 19
abbrev sDealP : Stmt := top 20
abbrev sNeedB : Stmt := top 21
abbrev sNeedD : Stmt := top 22
abbrev sCounted : Stmt := top 24
abbrev sLoads : Stmt := top 25
abbrev sStep : Stmt := top 27
abbrev sWay : Stmt := top 28
abbrev sNeedW : Stmt := top 29
abbrev sGone : Stmt := top 30
abbrev sBetters : Stmt := top 31
abbrev sStir : Stmt := top 33
abbrev sDigit : Stmt := top 34
abbrev sWork : Stmt := top 35
abbrev sBook : Stmt := top 36
abbrev sDeal : Stmt := top 37
abbrev sHeaps : Stmt := top 38
abbrev sSame : Stmt := top 39
abbrev sIsStep : Stmt := top 40
abbrev sIsWay : Stmt := top 41
abbrev sWalked : Stmt := top 42
abbrev sKinds : Stmt := top 43
abbrev sWord : Stmt := top 44
abbrev sAsked : Stmt := top 45
abbrev sRight : Stmt := top 46
abbrev sTwin : Stmt := top 47
abbrev sTwice : Stmt := top 48
abbrev sBent : Stmt := top 49
abbrev sLaw : Stmt := top 50
def isWhole : PyData → Bool
  | .int _ => true
  | _ => false
def areHands : PyData → Bool
  | .int i => decide (1 ≤ i) && decide (i ≤ 6)
  | _ => false
def risesP (hands : Int) : Int → List PyData → Bool
  | _, [] => true
  | last, .int i :: r => decide (last < i) && decide (i < hands) && risesP hands i r
  | _, _ :: _ => false
def isWork (hands : Int) : PyData → Bool
  | .tuple ds => !ds.isEmpty && risesP hands (-1) ds
  | _ => false
def bookOf : PyData → PyData → Bool
  | .int h, .tuple ws => decide (1 ≤ h) && decide (h ≤ 6) && decide (ws.length ≤ 12) && ws.all (isWork h)
  | _, _ => false
def isBook : PyData → Bool
  | .tuple [dh, dw] => bookOf dh dw
  | _ => false
section
variable {P : Program} {w : World} {K : PySem.W.Frag} {mg : Str → Option Value} {base : Heap}
def spWhole (K : PySem.W.Frag) : Sp := fun vs H Q _ => ∃ x d, vs = [x] ∧ Den K H d x ∧ Q (.bl (isWhole d)) H
theorem scWhole : FnScope ["thing"] ["thing"] (defScope sWhole) := ⟨rfl, rfl, rfl, by decide +kernel, rfl, by decide +kernel, by decide +kernel⟩
theorem ok_whole {f : Addr} {fd : FuncData} (G : Fn K mg "is_whole" sWhole ["thing"] f fd) (B : Bl mg) : FnOk P w K mg base CX0 1 f fd ["thing"] (spWhole K) := by
  refine G.fn.ok scWhole (fun vs H Q E h => ?_) (fun cdv A outer s H vs Q E hr h => ?_)
  · obtain ⟨x, d, rfl, _⟩ := h
    rfl
  · obtain ⟨x, d, rfl, hd, k⟩ := h
    refine ⟨_, pss_one (ps_ret (pe_and (pe_callB call_isi_int rfl B.isinstance b_isi (pa_cons (pv 0) (pa_cons (pe_bltn (v := .ty "int") rfl B.int b_int rfl) pa_nil)))
      (pe_one (pe_not (pe_callB call_isi_bool rfl B.isinstance b_isi (pa_cons (pv 0) (pa_cons (pe_bltn (v := .ty "bool") rfl B.bool b_bool rfl) pa_nil))))))), ?_⟩
    refine ⟨_, rfl, x, kdOf d, rfl, hd.kd, _, rfl, ?_⟩
    refine ite2 (fun c => ?_) (fun c => ?_)
    · refine ⟨_, rfl, x, kdOf d, rfl, hd.kd, _, rfl, ?_⟩
      have e : (!decide (kdOf d = Kd.bl)) = isWhole d := by
        cases d <;> first | rfl | (exfalso; simp [kdOf] at c)
      rw [e]
      exact k
    · have e : false = isWhole d := by
        cases d <;> first | rfl | (exfalso; simp [kdOf] at c)
      rw [e]
      exact k
def spHands (K : PySem.W.Frag) : Sp := fun vs H Q _ => ∃ x d, vs = [x] ∧ Den K H d x ∧ Q (.bl (areHands d)) H
theorem scHands : FnScope ["thing"] ["thing"] (defScope sHands) := ⟨rfl, rfl, rfl, by decide +kernel, rfl, by decide +kernel, by decide +kernel⟩
theorem ok_hands {f fW : Addr} {fd fdW : FuncData} (G : Fn K mg "are_hands" sHands ["thing"] f fd) (B : Bl mg) (W : Fn K mg "is_whole" sWhole ["thing"] fW fdW) : FnOk P w K mg base CX0 2 f fd ["thing"] (spHands K) := by
  have GW : FnOk P w K mg base CX0 1 fW fdW ["thing"] (spWhole K) := ok_whole W B
  obtain ⟨t6, h6⟩ := B.hands
  refine G.fn.ok scHands (fun vs H Q E h => ?_) (fun cdv A outer s H vs Q E hr h => ?_)
  · obtain ⟨x, d, rfl, _⟩ := h
    rfl
  · obtain ⟨x, d, rfl, hd, k⟩ := h
    refine ⟨_, pss_one (ps_ret (pe_and (pe_fn W GW hr rfl (pa_cons (pv 0) pa_nil))
      (pe_one (pe_chain op_le op_le pe_int (pv 0) (pe_glob (v := .int 6) rfl h6 ⟨t6, rfl⟩))))), ?_⟩
    refine ⟨_, rfl, x, d, rfl, hd, _, rfl, ?_⟩
    refine ite2 (fun c => ?_) (fun c => ?_)
    · obtain ⟨i, rfl⟩ : ∃ i, d = .int i := by cases d <;> first | exact ⟨_, rfl⟩ | (exfalso; simp [isWhole] at c)
      obtain rfl := den_int.mp hd
      refine ⟨_, rfl, _, _, rfl, rfl, _, rfl, ?_⟩
      refine ite2 (fun c1 => ?_) (fun c1 => ?_)
      · refine ⟨_, _, rfl, rfl, ?_⟩
        have e : decide (i ≤ 6) = areHands (.int i) := by
          show _ = (decide (1 ≤ i) && decide (i ≤ 6))
          rw [c1, Bool.true_and]
        show Q (.bl (decide (i ≤ 6))) H
        rw [e]; exact k
      · have e : false = areHands (.int i) := by
          show _ = (decide (1 ≤ i) && decide (i ≤ 6))
          have c2 : decide (1 ≤ i) = false := by simpa using c1
          rw [c2, Bool.false_and]
        rw [e]; exact k
    · have e : false = areHands d := by cases d <;> first | rfl | (exfalso; simp [isWhole] at c)
      rw [e]; exact k
theorem risesP_cons_int (h l i : Int) (r : List PyData) : risesP h l (.int i :: r) = (decide (l < i) && decide (i < h) && risesP h i r) := by rw [risesP]
theorem risesP_cons_no (h l : Int) (d : PyData) (r : List PyData) (n : isWhole d = false) : risesP h l (d :: r) = false := by
  cases d <;> first | rfl | (simp [isWhole] at n)
def spWorkP (K : PySem.W.Frag) : Sp := fun vs H Q _ => ∃ n x d, vs = [.int n, x] ∧ Den K H d x ∧ Q (.bl (isWork n d)) H
theorem scWorkP : FnScope ["hands", "thing", "last", "hand"] ["hands", "thing"] (defScope sWorkP) := ⟨rfl, rfl, rfl, by decide +kernel, rfl, by decide +kernel, by decide +kernel⟩
theorem ok_workP {f fW : Addr} {fd fdW : FuncData} (G : Fn K mg "is_work" sWorkP ["hands", "thing"] f fd) (B : Bl mg) (W : Fn K mg "is_whole" sWhole ["thing"] fW fdW) : FnOk P w K mg base CX0 2 f fd ["hands", "thing"] (spWorkP K) := by
  have GW : FnOk P w K mg base CX0 1 fW fdW ["thing"] (spWhole K) := ok_whole W B
  refine G.fn.ok scWorkP (fun vs H Q E h => ?_) (fun cdv A outer s H vs Q E hr h => ?_)
  · obtain ⟨n, x, d, rfl, _⟩ := h
    rfl
  · obtain ⟨n, x, d, rfl, hd, k⟩ := h
    refine ⟨_, pss_cons (ps_if (PW.pt (pw_or (pt_not (pt_val (pe_callB call_isi_tuple rfl B.isinstance b_isi (pa_cons (pv 1) (pa_cons (pe_bltn (v := .ty "tuple") rfl B.tuple b_tuple rfl) pa_nil)))))
        (pw_or1 (pt_cmpR op_eq (pe_callB call_len_seq rfl B.len b_len (pa_cons (pv 1) pa_nil)) pe_int (nomark _))))) (pss_one (ps_ret pe_bl)) pss_nil)
      (pss_cons (ps_set (i := 2) scWorkP.nd rfl (Or.inl rfl) (pe_un un_neg pe_int))
      (pss_cons (ps_for PassesOwn.never rfl (pi_tup (pv 1)) (pg_name (i := 3) scWorkP.nd rfl (Or.inl rfl))
        (pss_cons (ps_if (PW.pt (pw_or (pt_not (pt_val (pe_fn W GW hr rfl (pa_cons (pv 3) pa_nil)))) (pw_or (pt_cmpR op_le (pv 3) (pv 2) (nomark _)) (pw_or1 (pt_cmpR op_ge (pv 3) (pv 0) (nomark _)))))) (pss_one (ps_ret pe_bl)) pss_nil)
        (pss_one (ps_set (i := 2) scWorkP.nd rfl (Or.inl rfl) (pv 3)))))
      (pss_one (ps_ret pe_bl)))), ?_⟩
    refine ⟨_, rfl, x, kdOf d, rfl, hd.kd, _, rfl, ?_⟩
    refine ite2 (fun c => ?_) (fun c => ?_)
    · -- not a tuple
      refine iteT ?_
      have e : false = isWork n d := by
        cases d <;> first | rfl | (exfalso; simp [kdOf] at c)
      rw [e]; exact k
    · obtain ⟨ds, rfl⟩ : ∃ ds, d = .tuple ds := by cases d <;> first | exact ⟨_, rfl⟩ | (exfalso; simp [kdOf] at c)
      obtain ⟨a, xs, rfl, ha, hds⟩ := den_tuple.mp hd
      have hl := denAll_length hds
      refine ⟨_, rfl, a, xs, rfl, .inr ha, rfl, _, rfl, ?_⟩
      refine ite2 (fun c2 => ?_) (fun c2 => ?_)
      · have e : false = isWork n (.tuple ds) := by
          have e1 : ds = [] := by
            have : (xs.length : Int) = 0 := by simpa using c2
            exact List.length_eq_zero_iff.mp (by omega)
          rw [e1]; rfl
        rw [e]; exact k
      · have hne : ds ≠ [] := by
          intro z
          apply c2
          rw [z] at hl
          simp [hl]
        have e0 : isWork n (.tuple ds) = risesP n (-1) ds := by
          show (!ds.isEmpty && risesP n (-1) ds) = _
          cases ds with
          | nil => exact absurd rfl hne
          | cons _ _ => rfl
        rw [e0] at k
        refine ⟨_, rfl, ?_⟩
        refine ⟨_, rfl, a, rfl, ⟨xs, ha⟩, for_tup (K := K) (a := a) (xs := xs) (fun i σ H2 => ∃ (last : Int) (v : Option V), σ = [some (.int n), some (.ref a), some (.int last), v] ∧ H2 = H ∧ risesP n (-1) ds = risesP n last (ds.drop i))
          ⟨-1, none, rfl, rfl, rfl⟩ (fun i σ H2 _ ⟨_, _, _, e, _⟩ => by rw [e]; exact ha) ?_ ?_⟩
        · rintro i y σ H2 hi ⟨last, v, rfl, rfl, hr2⟩
          obtain ⟨dy, hdy, hden⟩ := denAll_at hds hi
          have hdrop : ds.drop i = dy :: ds.drop (i + 1) := by
            obtain ⟨hlt, e⟩ := List.getElem?_eq_some_iff.mp hdy
            rw [List.drop_eq_getElem_cons hlt, e]
          rw [hdrop] at hr2
          refine ⟨_, rfl, y, dy, rfl, hden, _, rfl, ?_⟩
          refine ite2 (fun c3 => ?_) (fun c3 => ?_)
          · refine iteT ?_
            have e : false = risesP n (-1) ds := by rw [hr2, risesP_cons_no]; simpa using c3
            rw [e]; exact k
          · obtain ⟨j, rfl⟩ : ∃ j, dy = .int j := by cases dy <;> first | exact ⟨_, rfl⟩ | (exfalso; simp [isWhole] at c3)
            obtain rfl := den_int.mp hden
            rw [risesP_cons_int] at hr2
            refine ⟨_, rfl, _, rfl, _, _, rfl, rfl, _, rfl, ?_⟩
            refine ite2 (fun c4 => ?_) (fun c4 => ?_)
            · refine iteT ?_
              have c4' : j ≤ last := of_decide_eq_true c4
              have e : false = risesP n (-1) ds := by rw [hr2, decide_eq_false (by omega : ¬ last < j)]; rfl
              rw [e]; exact k
            · have c4' : ¬ j ≤ last := fun z => c4 (decide_eq_true z)
              refine ⟨_, rfl, _, rfl, _, _, rfl, rfl, _, rfl, ?_⟩
              refine ite2 (fun c5 => ?_) (fun c5 => ?_)
              · have c5' : n ≤ j := of_decide_eq_true c5
                have e : false = risesP n (-1) ds := by rw [hr2, decide_eq_false (by omega : ¬ j < n), Bool.and_false]; rfl
                rw [e]; exact k
              · have c5' : ¬ n ≤ j := fun z => c5 (decide_eq_true z)
                refine ⟨_, rfl, j, some (.int j), rfl, rfl, ?_⟩
                rw [hr2, decide_eq_true (by omega : last < j), decide_eq_true (by omega : j < n)]
                rfl
        · rintro σ H2 ⟨last, v, rfl, rfl, hr2⟩
          have e : true = risesP n (-1) ds := by
            rw [hr2, hl, List.drop_length]
            rfl
          show Q (.bl true) _
          rw [e]; exact k
end
end Ab
set_option Elab.async false
set_option linter.all false
set_option maxRecDepth 100000
namespace Ab
open PySem L2
theorem tAll_go {σ : St} {H : Hp} {A B : Hp → Prop} (h : A H) : tAll σ H fun b H3 => if b = true then A H3 else B H3 := by
  show if true = true then A H else B H
  exact iteT h
theorem nameAll_go {i : Nat} {x : V} {σ : St} {H : Hp} {A B : St → Hp → Prop} (h : A (σ.set i (some x)) H) : gName i x σ H fun σ2 H2 => tAll σ2 H2 fun b H3 => if b = true then A σ2 H3 else B σ2 H3 := by
  show if true = true then A (σ.set i (some x)) H else B (σ.set i (some x)) H
  exact iteT h
section
variable {P : Program} {w : World} {K : PySem.W.Frag} {mg : Str → Option Value} {base : Heap}
def spBookP (K : PySem.W.Frag) : Sp := fun vs H Q _ => ∃ x d, vs = [x] ∧ Den K H d x ∧ ∀ H', Same H H' → Q (.bl (isBook d)) H'
theorem scBookP : FnScope ["thing", "hands", "works"] ["thing"] (defScope sBookP) := ⟨rfl, rfl, rfl, by decide +kernel, rfl, by decide +kernel, by decide +kernel⟩
theorem ok_bookP {f fW fH fK : Addr} {fd fdW fdH fdK : FuncData} (G : Fn K mg "is_book" sBookP ["thing"] f fd) (B : Bl mg) (W : Fn K mg "is_whole" sWhole ["thing"] fW fdW) (GH : Fn K mg "are_hands" sHands ["thing"] fH fdH) (GK : Fn K mg "is_work" sWorkP ["hands", "thing"] fK fdK) : FnOk P w K mg base CX0 3 f fd ["thing"] (spBookP K) := by
  have OH : FnOk P w K mg base CX0 2 fH fdH ["thing"] (spHands K) := ok_hands GH B W
  have OK : FnOk P w K mg base CX0 2 fK fdK ["hands", "thing"] (spWorkP K) := ok_workP GK B W
  obtain ⟨t12, h12⟩ := B.works
  refine G.fn.ok scBookP (fun vs H Q E h => ?_) (fun cdv A outer s H vs Q E hr h => ?_)
  · obtain ⟨x, d, rfl, _⟩ := h
    rfl
  · obtain ⟨x, d, rfl, hd, k⟩ := h
    refine ⟨_, pss_cons (ps_if (PW.pt (pw_or (pt_not (pt_val (pe_callB call_isi_tuple rfl B.isinstance b_isi (pa_cons (pv 0) (pa_cons (pe_bltn (v := .ty "tuple") rfl B.tuple b_tuple rfl) pa_nil)))))
        (pw_or1 (pt_cmpR op_ne (pe_callB call_len_seq rfl B.len b_len (pa_cons (pv 0) pa_nil)) pe_int (nomark _))))) (pss_one (ps_ret pe_bl)) pss_nil)
      (pss_cons (ps_asg (pv 0) (pg_tup rfl (pgs_cons (pg_name (i := 1) scBookP.nd rfl (Or.inr rfl)) (pgs_cons (pg_name (i := 2) scBookP.nd rfl (Or.inl rfl)) pgs_nil))))
      (pss_cons (ps_if (pt_not (pt_val (pe_fn GH OH hr rfl (pa_cons (pv 1) pa_nil)))) (pss_one (ps_ret pe_bl)) pss_nil)
      (pss_cons (ps_if (PW.pt (pw_or (pt_not (pt_val (pe_callB call_isi_tuple rfl B.isinstance b_isi (pa_cons (pv 2) (pa_cons (pe_bltn (v := .ty "tuple") rfl B.tuple b_tuple rfl) pa_nil)))))
        (pw_or1 (pt_cmpR op_gt (pe_callB call_len_seq rfl B.len b_len (pa_cons (pv 2) pa_nil)) (pe_glob (v := .int 12) rfl h12 ⟨t12, rfl⟩) (nomark _))))) (pss_one (ps_ret pe_bl)) pss_nil)
      (pss_one (ps_ret (pe_callB (call_all rfl) rfl B.all b_all (pa_cons
        (pe_comp (own := ["work"]) (fr := [1]) (frn := ["hands"]) (compOk_of (defScope sBookP) ["thing", "hands", "works"] rfl rfl (by decide +kernel)) rfl (pi_tup (pv 2))
          (fun _ _ _ _ => pg_name (i := 0) (show (["work", "hands"] : List Str).Nodup by decide +kernel) rfl (Or.inl rfl)) (fun _ _ _ _ => pf_nil) (fun _ _ _ _ => pe_fn GK OK hr rfl (pa_cons (pv 1) (pa_cons (pv 0) pa_nil)))) pa_nil))))))), ?_⟩
    refine ⟨_, rfl, x, kdOf d, rfl, hd.kd, _, rfl, ?_⟩
    refine ite2 (fun c => ?_) (fun c => ?_)
    · refine iteT ?_
      have e : false = isBook d := by
        cases d <;> first | rfl | (exfalso; simp [kdOf] at c)
      rw [e]; exact k H (Same.refl H)
    · obtain ⟨ds, rfl⟩ : ∃ ds, d = .tuple ds := by cases d <;> first | exact ⟨_, rfl⟩ | (exfalso; simp [kdOf] at c)
      obtain ⟨a, xs, rfl, ha, hds⟩ := den_tuple.mp hd
      have hl := denAll_length hds
      refine ⟨_, rfl, a, xs, rfl, .inr ha, rfl, _, rfl, ?_⟩
      refine ite2 (fun c2 => ?_) (fun c2 => ?_)
      · have e : false = isBook (.tuple ds) := by
          match ds, hl, c2 with
          | [], _, _ => rfl
          | [_], _, _ => rfl
          | [_, _], hl, c2 => exfalso; rw [hl] at c2; simp at c2
          | _ :: _ :: _ :: _, _, _ => rfl
        rw [e]; exact k H (Same.refl H)
      · obtain ⟨dh, dw, rfl⟩ : ∃ dh dw, ds = [dh, dw] := by
          match ds, hl, c2 with
          | [], hl, c2 => exfalso; rw [hl] at c2; simp at c2
          | [_], hl, c2 => exfalso; rw [hl] at c2; simp at c2
          | [p, q], _, _ => exact ⟨p, q, rfl⟩
          | p :: q :: r :: t, hl, c2 => exfalso; apply c2; rw [hl]; simp; omega
        obtain ⟨xh, r1, rfl, hh, h2⟩ := denAll_cons.mp hds
        obtain ⟨xw, r2, rfl, hw, h3⟩ := denAll_cons.mp h2
        obtain rfl := denAll_nil.mp h3
        -- hands, works = thing
        refine ⟨_, rfl, a, _, rfl, ha, rfl, _, _, rfl, _, _, rfl, rfl, ?_⟩
        -- are_hands(hands)
        refine ⟨_, rfl, xh, dh, rfl, hh, _, rfl, ?_⟩
        refine ite2 (fun c3 => ?_) (fun c3 => ?_)
        · have e : false = isBook (.tuple [dh, dw]) := by
            have c3' : areHands dh = false := by simpa using c3
            cases dh with
            | int n =>
              cases dw with
              | tuple ws =>
                have c4 : (decide (1 ≤ n) && decide (n ≤ 6)) = false := c3'
                show _ = (decide (1 ≤ n) && decide (n ≤ 6) && decide (ws.length ≤ 12) && ws.all (isWork n))
                rw [c4]; rfl
              | _ => rfl
            | _ => rfl
          rw [e]; exact k H (Same.refl H)
        · obtain ⟨n, rfl, hn⟩ : ∃ n, dh = .int n ∧ (decide (1 ≤ n) && decide (n ≤ 6)) = true := by
            cases dh <;> first | exact ⟨_, rfl, by simpa [areHands] using c3⟩ | (exfalso; simp [areHands] at c3)
          obtain rfl := den_int.mp hh
          refine ⟨_, rfl, xw, kdOf dw, rfl, hw.kd, _, rfl, ?_⟩
          refine ite2 (fun c5 => ?_) (fun c5 => ?_)
          · refine iteT ?_
            have e : false = isBook (.tuple [.int n, dw]) := by
              cases dw <;> first | rfl | (exfalso; simp [kdOf] at c5)
            rw [e]; exact k H (Same.refl H)
          · obtain ⟨ws, rfl⟩ : ∃ ws, dw = .tuple ws := by cases dw <;> first | exact ⟨_, rfl⟩ | (exfalso; simp [kdOf] at c5)
            obtain ⟨b, ys, rfl, hb, hws⟩ := den_tuple.mp hw
            have hlw := denAll_length hws
            have eB : isBook (.tuple [.int n, .tuple ws]) = (decide (ws.length ≤ 12) && ws.all (isWork n)) := by
              show (decide (1 ≤ n) && decide (n ≤ 6) && decide (ws.length ≤ 12) && ws.all (isWork n)) = _
              rw [hn, Bool.true_and]
            rw [eB] at k
            refine ⟨_, rfl, b, ys, rfl, .inr hb, _, _, rfl, rfl, _, rfl, ?_⟩
            refine ite2 (fun c6 => ?_) (fun c6 => ?_)
            · have c6' : (12 : Int) < ys.length := of_decide_eq_true c6
              have e : false = (decide (ws.length ≤ 12) && ws.all (isWork n)) := by rw [decide_eq_false (by omega : ¬ ws.length ≤ 12)]; rfl
              rw [e]; exact k H (Same.refl H)
            · have c6' : ¬ (12 : Int) < ys.length := fun z => c6 (decide_eq_true z)
              have e1 : decide (ws.length ≤ 12) = true := decide_eq_true (by omega)
              rw [e1, Bool.true_and] at k
              refine ⟨_, rfl, b, rfl, ⟨ys, hb⟩, comp_tup (K := K) (a := b) (xs := ys) (fun σ => ∃ v, σ = [v, some (.int n)]) (fun i zs H2 => H2 = H ∧ zs = ((ws.take i).map (isWork n)).map V.bl) ?_ ⟨none, rfl⟩ ⟨rfl, rfl⟩ ?_ ?_ ?_ ?_⟩
              · rw [sizeLine_eq]; omega
              · rintro i zs H2 ⟨_, rfl⟩
                rw [List.length_map, List.length_map, List.length_take]; omega
              · rintro i zs H2 ⟨rfl, _⟩
                exact hb
              · rintro i zs σ x H2 hx ⟨v, rfl⟩ ⟨rfl, rfl⟩ hz
                obtain ⟨dx, hdx, hden⟩ := denAll_at hws hx
                refine nameAll_go ?_
                refine ⟨_, rfl, _, rfl, n, x, dx, rfl, hden, hz, ⟨some x, rfl⟩, rfl, ?_⟩
                rw [List.take_succ, hdx]
                simp
              · rintro zs H2 ⟨rfl, rfl⟩ p hp
                refine ⟨p, _, rfl, SqL.of upd_same, ?_⟩
                have e2 : ((ws.take ys.length).map (isWork n)).all id = ws.all (isWork n) := by
                  rw [hlw, List.take_length, List.all_map]
                  rfl
                rw [e2]
                exact k _ (Same.new hp)
end
end Ab
set_option Elab.async false
set_option linter.all false
set_option maxRecDepth 100000
namespace Ab
open PySem L2
def workD (l : List Int) : PyData := .tuple (l.map .int)
def bookD (n : Int) (ws : List (List Int)) : PyData := .tuple [.int n, .tuple (ws.map workD)]
def dealD (hs : List Int) : PyData := .tuple (hs.map .int)
def handIn : PyData → List Int → Bool
  | .int i, l => l.any (· == i)
  | _, _ => false
def dealP (ws : List (List Int)) : PyData → Bool
  | .tuple hs => decide (hs.length = ws.length) && (hs.zip ws).all fun p => handIn p.1 p.2
  | _ => false
theorem flat_ints (l : List Int) : (l.map V.int).all flatV = true := by
  rw [List.all_map]
  exact List.all_eq_true.mpr fun _ _ => rfl
theorem in_ints (i : Int) (l : List Int) : inV (.int i) (l.map V.int) = l.any (· == i) := by
  unfold inV
  rw [List.any_map]
  rfl
theorem den_book {K : PySem.W.Frag} {H : Hp} {n : Int} {ws : List (List Int)} {x : V} (h : Den K H (bookD n ws) x) : ∃ a b ys, x = .ref a ∧ SqT K H a [.int n, .ref b] ∧ SqT K H b ys ∧ DenAll K H (ws.map workD) ys := by
  obtain ⟨a, xs, rfl, ha, hds⟩ := den_tuple.mp h
  obtain ⟨xh, r1, rfl, hh, h2⟩ := denAll_cons.mp hds
  obtain ⟨xw, r2, rfl, hw, h3⟩ := denAll_cons.mp h2
  obtain rfl := denAll_nil.mp h3
  obtain rfl := den_int.mp hh
  obtain ⟨b, ys, rfl, hb, hys⟩ := den_tuple.mp hw
  exact ⟨a, b, ys, rfl, ha, hb, hys⟩
theorem book_parts {n : Int} {ws : List (List Int)} (h : isBook (bookD n ws) = true) : 1 ≤ n ∧ n ≤ 6 ∧ ws.length ≤ 12 ∧ ∀ l ∈ ws, isWork n (workD l) = true := by
  have h' : (decide (1 ≤ n) && decide (n ≤ 6) && decide ((ws.map workD).length ≤ 12) && (ws.map workD).all (isWork n)) = true := h
  simp only [Bool.and_eq_true, decide_eq_true_eq, List.length_map, List.all_eq_true] at h'
  exact ⟨h'.1.1.1, h'.1.1.2, h'.1.2, fun l hl => h'.2 _ (List.mem_map.mpr ⟨l, hl, rfl⟩)⟩
theorem pg_tupK {X : Cx} {pos : Pos} {es : List Expr} {k : Nat} {t : TGs} {n : Nat} {K : PySem.W.Frag} (hK : X.K = K) (hc : X.calm = true) (h : PGs X es t)
    (hn : (assignEach es X.env).length = n := by rfl) (hst : (assignEach es X.env).findIdx? (·.1) = none := by rfl) : PG X (.Tuple es k pos) (gTup K n t) := by
  subst hK
  exact pg_tup hc h hn hst
section
variable {X : Cx} {K : PySem.W.Frag}
theorem op_in_seqK (hK : X.K = K) : OpR X (compareOp .In) (rIn K false) := by subst hK; exact op_in_seq
theorem ix_tupK (hK : X.K = K) : IxR X (rIxT K) := by subst hK; exact ix_tup
theorem call_len_seqK (hK : X.K = K) : CallR X (.builtin "len") (fun xs H Q => ∃ p ys, xs = [.ref p] ∧ (SqL K H p ys ∨ SqT K H p ys) ∧ Q (.int ys.length) H) := by subst hK; exact call_len_seq
theorem mt_countTK (hK : X.K = K) : MtR X "tuple.count" (fun x vs H Q => ∃ (a : Addr) (ns : List Int) (n : Int), x = .ref a ∧ vs = [.int n] ∧ SqT K H a (ns.map V.int) ∧ Q (.int (ns.count n : Nat)) H) := by subst hK; exact mt_countT
end
section
variable {P : Program} {w : World} {K : PySem.W.Frag} {mg : Str → Option Value} {base : Heap}
structure Pr (K : PySem.W.Frag) (mg : Str → Option Value) (fW fH fK fB fNB fD fND fL : Addr) (dW dH dK dB dNB dD dND dL : FuncData) : Prop where
  W : Fn K mg "is_whole" sWhole ["thing"] fW dW
  H : Fn K mg "are_hands" sHands ["thing"] fH dH
  Kw : Fn K mg "is_work" sWorkP ["hands", "thing"] fK dK
  B : Fn K mg "is_book" sBookP ["thing"] fB dB
  NB : Fn K mg "need_book" sNeedB ["book"] fNB dNB
  D : Fn K mg "is_deal" sDealP ["book", "thing"] fD dD
  ND : Fn K mg "need_deal" sNeedD ["book", "deal"] fND dND
  C : ∃ f d, Fn K mg "counted" sCounted ["hands", "deal"] f d
  L : Fn K mg "loads" sLoads ["book", "deal"] fL dL
variable {fW fH fK fB fNB fD fND fL : Addr} {dW dH dK dB dNB dD dND dL : FuncData}

def spNeedB (K : PySem.W.Frag) : Sp := fun vs H Q _ => ∃ x d, vs = [x] ∧ Den K H d x ∧ isBook d = true ∧ ∀ H', Same H H' → Q .non H'
theorem scNeedB : FnScope ["book"] ["book"] (defScope sNeedB) := ⟨rfl, rfl, rfl, by decide +kernel, rfl, by decide +kernel, by decide +kernel⟩
theorem ok_needB (B : Bl mg) (R : Pr K mg fW fH fK fB fNB fD fND fL dW dH dK dB dNB dD dND dL) : FnOk P w K mg base CX0 4 fNB dNB ["book"] (spNeedB K) := by
  have OB : FnOk P w K mg base CX0 3 fB dB ["thing"] (spBookP K) := ok_bookP R.B B R.W R.H R.Kw
  refine R.NB.fn.ok scNeedB (fun vs H Q E h => ?_) (fun cdv A outer s H vs Q E hr h => ?_)
  · obtain ⟨x, d, rfl, _⟩ := h
    rfl
  · obtain ⟨x, d, rfl, hd, hb, k⟩ := h
    refine ⟨_, pss_one (ps_if (pt_not (pt_val (pe_fn R.B OB hr rfl (pa_cons (pv 0) pa_nil)))) pss_never pss_nil), ?_⟩
    refine ⟨_, rfl, x, d, rfl, hd, fun H' hs => ⟨_, rfl, ?_⟩⟩
    rw [hb]
    refine iteF ?_
    exact k H' hs

def spDealP (K : PySem.W.Frag) : Sp := fun vs H Q _ => ∃ x y n ws d, vs = [x, y] ∧ Den K H (bookD n ws) x ∧ isBook (bookD n ws) = true ∧ Den K H d y ∧ ∀ H', Same H H' → Q (.bl (dealP ws d)) H'
theorem scDealP : FnScope ["book", "thing", "works"] ["book", "thing"] (defScope sDealP) := ⟨rfl, rfl, rfl, by decide +kernel, rfl, by decide +kernel, by decide +kernel⟩
theorem ok_dealP (B : Bl mg) (R : Pr K mg fW fH fK fB fNB fD fND fL dW dH dK dB dNB dD dND dL) : FnOk P w K mg base CX0 5 fD dD ["book", "thing"] (spDealP K) := by
  have ON : FnOk P w K mg base CX0 4 fNB dNB ["book"] (spNeedB K) := ok_needB B R
  have OW : FnOk P w K mg base CX0 1 fW dW ["thing"] (spWhole K) := ok_whole R.W B
  refine R.D.fn.ok scDealP (fun vs H Q E h => ?_) (fun cdv A outer s H vs Q E hr h => ?_)
  · obtain ⟨x, y, n, ws, d, rfl, _⟩ := h
    rfl
  · obtain ⟨x, y, n, ws, d, rfl, hx, hb, hd, k⟩ := h
    have hr1 : Room 1 _ := hr.mono (by decide)
    refine ⟨_, pss_cons (ps_expr (pe_fn R.NB ON hr rfl (pa_cons (pv 0) pa_nil)))
      (pss_cons (ps_set (i := 2) scDealP.nd rfl (Or.inl rfl) (pe_ix ix_tup (pv 0) pe_int (fun _ _ => rfl)))
      (pss_cons (ps_if (PW.pt (pw_or (pt_not (pt_val (pe_callB call_isi_tuple rfl B.isinstance b_isi (pa_cons (pv 1) (pa_cons (pe_bltn (v := .ty "tuple") rfl B.tuple b_tuple rfl) pa_nil)))))
        (pw_or1 (pt_cmpR op_ne (pe_callB call_len_seq rfl B.len b_len (pa_cons (pv 1) pa_nil)) (pe_callB call_len_seq rfl B.len b_len (pa_cons (pv 2) pa_nil)) (nomark _))))) (pss_one (ps_ret pe_bl)) pss_nil)
      (pss_one (ps_ret (pe_callB (call_all rfl) rfl B.all b_all (pa_cons
        (pe_comp (own := ["hand", "able"]) (fr := []) (frn := []) (compOk_of (defScope sDealP) ["book", "thing", "works"] rfl rfl (by decide +kernel)) rfl (pi_zip .t .t rfl B.zip (pa_cons (pv 1) (pa_cons (pv 2) pa_nil)))
          (fun _ _ _ _ => pg_tupK (K := K) (n := 2) rfl rfl (pgs_cons (pg_name (i := 0) (show (["hand", "able"] : List Str).Nodup by decide +kernel) rfl (Or.inl rfl)) (pgs_cons (pg_name (i := 1) (show (["hand", "able"] : List Str).Nodup by decide +kernel) rfl (Or.inl rfl)) pgs_nil)))
          (fun _ _ _ _ => pf_nil) (fun _ _ _ _ => pe_and (pe_fn R.W OW hr1 rfl (pa_cons (pv 0) pa_nil)) (pe_one (pe_cmpR (op_in_seqK (K := K) rfl) (pv 0) (pv 1) (by with_unfolding_all rfl))))) pa_nil)))))), ?_⟩
    refine ⟨_, rfl, x, bookD n ws, rfl, hx, hb, fun H1 s1 => ?_⟩
    have hx1 := s1.den _ _ hx
    have hd1 := s1.den _ _ hd
    obtain ⟨a, b, ys, rfl, ha, hb2, hys⟩ := den_book hx1
    have hlw := denAll_length hys
    rw [List.length_map] at hlw
    refine ⟨_, rfl, a, _, 1, .ref b, rfl, rfl, ha, rfl, ?_⟩
    refine ⟨_, rfl, y, kdOf d, rfl, hd1.kd, _, rfl, ?_⟩
    refine ite2 (fun c => ?_) (fun c => ?_)
    · refine iteT ?_
      have e : false = dealP ws d := by
        cases d <;> first | rfl | (exfalso; simp [kdOf] at c)
      rw [e]; exact k H1 s1
    · obtain ⟨hs, rfl⟩ : ∃ hs, d = .tuple hs := by cases d <;> first | exact ⟨_, rfl⟩ | (exfalso; simp [kdOf] at c)
      obtain ⟨a2, xs, rfl, ha2, hxs⟩ := den_tuple.mp hd1
      have hlx := denAll_length hxs
      refine ⟨_, rfl, a2, xs, rfl, .inr ha2, _, rfl, b, ys, rfl, .inr hb2, rfl, _, rfl, ?_⟩
      refine ite2 (fun c2 => ?_) (fun c2 => ?_)
      · have e : false = dealP ws (.tuple hs) := by
          show _ = (decide (hs.length = ws.length) && (hs.zip ws).all fun p => handIn p.1 p.2)
          rw [decide_eq_false]
          · rfl
          · intro z
            have : (V.int (xs.length : Int) = V.int (ys.length : Int)) := by rw [hlx, hlw, z]
            simp [this] at c2
        rw [e]; exact k H1 s1
      · have heq : xs.length = ys.length := by
          have : V.int (xs.length : Int) = V.int (ys.length : Int) := by simpa using c2
          injection this with this
          omega
        have e0 : dealP ws (.tuple hs) = (hs.zip ws).all fun p => handIn p.1 p.2 := by
          show (decide (hs.length = ws.length) && _) = _
          rw [decide_eq_true (by omega : hs.length = ws.length), Bool.true_and]
        rw [e0] at k
        obtain ⟨_, _, h12, _⟩ := book_parts hb
        refine ⟨_, rfl, _, rfl, a2, b, xs, ys, rfl, ha2, hb2, comp_zip (K := K) (k1 := .t) (k2 := .t) (a := a2) (b := b) (xs := xs) (ys := ys) (fun σ => ∃ u v, σ = [u, v]) (fun i zs H2 => Same H1 H2 ∧ zs = (((hs.zip ws).take i).map fun p => handIn p.1 p.2).map V.bl) ?_ heq ⟨none, none, rfl⟩ ⟨Same.refl H1, rfl⟩ ?_ ?_ ?_ ?_⟩
        · rw [sizeLine_eq]; omega
        · rintro i zs H2 ⟨_, rfl⟩
          rw [List.length_map, List.length_map, List.length_take]; omega
        · rintro i zs H2 ⟨s2, _⟩
          exact ⟨s2.seqT ha2, s2.seqT hb2⟩
        · rintro i zs σ u v p H2 hu hv ⟨u0, v0, rfl⟩ ⟨s2, rfl⟩ hp hz
          obtain ⟨du, hdu, denu⟩ := denAll_at hxs hu
          obtain ⟨dv, hdv, denv⟩ := denAll_at hys hv
          rw [List.getElem?_map] at hdv
          obtain ⟨l, hl, rfl⟩ : ∃ l, ws[i]? = some l ∧ workD l = dv := by
            cases q : ws[i]? with
            | none => rw [q] at hdv; cases hdv
            | some l => rw [q] at hdv; exact ⟨l, rfl, Option.some.inj hdv⟩
          have s3 : Same H1 (upd H2 p (.tup [u, v])) := s2.trans (Same.new hp)
          have hzip : (hs.zip ws)[i]? = some (du, l) := by rw [List.getElem?_zip_eq_some]; exact ⟨hdu, hl⟩
          have enext : (((hs.zip ws).take (i + 1)).map fun p => handIn p.1 p.2).map V.bl = (((hs.zip ws).take i).map fun p => handIn p.1 p.2).map V.bl ++ [V.bl (handIn du l)] := by
            rw [List.take_succ, hzip]; simp
          refine ⟨p, _, rfl, SqT.of upd_same, rfl, _, _, rfl, _, _, rfl, rfl, ?_⟩
          refine tAll_go ?_
          refine ⟨_, rfl, u, du, rfl, s3.den _ _ denu, _, rfl, ?_⟩
          refine ite2 (fun c3 => ?_) (fun c3 => ?_)
          · obtain ⟨j, rfl⟩ : ∃ j, du = .int j := by cases du <;> first | exact ⟨_, rfl⟩ | (exfalso; simp [isWhole] at c3)
            obtain rfl := den_int.mp denu
            obtain ⟨av, rfl, hav⟩ := den_tints.mp denv
            refine ⟨_, rfl, _, rfl, av, _, rfl, .inr (s3.seqT hav), rfl, flat_ints l, hz, ⟨_, _, rfl⟩, s3, ?_⟩
            rw [enext]
            show _ ++ [V.bl (inV (.int j) (l.map V.int))] = _
            rw [in_ints]
            rfl
          · have e : handIn du l = false := by cases du <;> first | rfl | (exfalso; simp [isWhole] at c3)
            refine ⟨hz, ⟨_, _, rfl⟩, s3, ?_⟩
            rw [enext, e]
        · rintro zs H2 ⟨s2, rfl⟩ p hp
          refine ⟨p, _, rfl, SqL.of upd_same, ?_⟩
          have e2 : (((hs.zip ws).take xs.length).map fun p => handIn p.1 p.2).all id = (hs.zip ws).all fun p => handIn p.1 p.2 := by
            rw [List.take_of_length_le (by rw [List.length_zip]; omega), List.all_map]
            rfl
          rw [e2]
          exact k _ (s1.trans (s2.trans (Same.new hp)))
end
end Ab
set_option Elab.async false
set_option linter.all false
set_option maxRecDepth 100000
namespace Ab
open PySem L2
def loadsL (n : Int) (hs : List Int) : List Int := (upto n.toNat).map fun h => ((hs.count h : Nat) : Int)
theorem upto_get {n i : Nat} (h : i < n) : (upto n)[i]? = some (i : Int) := by
  unfold upto
  rw [List.getElem?_map, List.getElem?_range h]
  rfl
theorem upto_length (n : Nat) : (upto n).length = n := by unfold upto; rw [List.length_map, List.length_range]
theorem pe_bmK {X : Cx} {K : PySem.W.Frag} {o e : Expr} {es : List Expr} {to : TE} {t : TA} {name : Str} {apos cpos : Pos} {T id : String} {r : V → List V → Hp → VK → Prop} (hK : X.K = K) (pa : PlainAttrs T) (slot : Slot T name id) (hty : typeOf (.builtin id) = pure (.type "method_descriptor")) (hm : MtR X id r) (ho : PE X o to) (ha : PA X (e :: es) t)
    (hbase : attributeBase o name X.env (eval o X.env) = eval o X.env := by rfl)
    (hfew : ((backTo cpos (starEach (e :: es) X.env)).all (fun x => !x.1) && (backToKw cpos (keywordEach [] X.env)).all (fun x => x.1.isSome)
      && decide ((e :: es).length + ([] : List Keyword).length + (if ([] : List Keyword).isEmpty then 0 else 1) < 30)) = true := by rfl)
    (hline : (apos.endLine == cpos.line) = true := by rfl) (hs : starEach (e :: es) X.env = (false, eval e X.env) :: starEach es X.env := by rfl) (hplain : (backTo cpos (starEach es X.env)).any (·.1) = false := by rfl) :
    PE X (.Call (.Attribute o name apos) (e :: es) [] cpos) (tBM K T r to t) := by
  subst hK
  exact pe_bm pa slot hty hm ho ha hbase hfew hline hs hplain
section
variable {P : Program} {w : World} {K : PySem.W.Frag} {mg : Str → Option Value} {base : Heap}
variable {fW fH fK fB fNB fD fND fL : Addr} {dW dH dK dB dNB dD dND dL : FuncData}
def Good (K : PySem.W.Frag) (H : Hp) (x y : V) (n : Int) (ws : List (List Int)) (hs : List Int) : Prop := Den K H (bookD n ws) x ∧ isBook (bookD n ws) = true ∧ Den K H (dealD hs) y ∧ dealP ws (dealD hs) = true
theorem Good.same {H H' : Hp} {x y : V} {n : Int} {ws : List (List Int)} {hs : List Int} (g : Good K H x y n ws hs) (e : Same H H') : Good K H' x y n ws hs := ⟨e.den _ _ g.1, g.2.1, e.den _ _ g.2.2.1, g.2.2.2⟩
theorem Good.len {H : Hp} {x y : V} {n : Int} {ws : List (List Int)} {hs : List Int} (g : Good K H x y n ws hs) : hs.length ≤ 12 ∧ 1 ≤ n ∧ n ≤ 6 := by
  obtain ⟨h1, h2, h3, _⟩ := book_parts g.2.1
  have h : (decide ((hs.map PyData.int).length = ws.length) && ((hs.map PyData.int).zip ws).all fun p => handIn p.1 p.2) = true := g.2.2.2
  simp only [Bool.and_eq_true, decide_eq_true_eq, List.length_map] at h
  omega

def spNeedD (K : PySem.W.Frag) : Sp := fun vs H Q _ => ∃ x y n ws hs, vs = [x, y] ∧ Good K H x y n ws hs ∧ ∀ H', Same H H' → Q .non H'
theorem scNeedD : FnScope ["book", "deal"] ["book", "deal"] (defScope sNeedD) := ⟨rfl, rfl, rfl, by decide +kernel, rfl, by decide +kernel, by decide +kernel⟩
theorem ok_needD (B : Bl mg) (R : Pr K mg fW fH fK fB fNB fD fND fL dW dH dK dB dNB dD dND dL) : FnOk P w K mg base CX0 6 fND dND ["book", "deal"] (spNeedD K) := by
  have OD : FnOk P w K mg base CX0 5 fD dD ["book", "thing"] (spDealP K) := ok_dealP B R
  refine R.ND.fn.ok scNeedD (fun vs H Q E h => ?_) (fun cdv A outer s H vs Q E hr h => ?_)
  · obtain ⟨x, y, n, ws, hs, rfl, _⟩ := h
    rfl
  · obtain ⟨x, y, n, ws, hs, rfl, ⟨g1, g2, g3, g4⟩, k⟩ := h
    refine ⟨_, pss_one (ps_if (pt_not (pt_val (pe_fn R.D OD hr rfl (pa_cons (pv 0) (pa_cons (pv 1) pa_nil))))) pss_never pss_nil), ?_⟩
    refine ⟨_, rfl, _, rfl, x, y, n, ws, dealD hs, rfl, g1, g2, g3, fun H' hs => ⟨_, rfl, ?_⟩⟩
    rw [g4]
    refine iteF ?_
    exact k H' hs

def spCounted (K : PySem.W.Frag) : Sp := fun vs H Q _ => ∃ (n : Int) (b : Addr) (hs : List Int), vs = [.int n, .ref b] ∧ SqT K H b (hs.map V.int) ∧ 0 ≤ n ∧ n ≤ 6 ∧ ∀ p H', Same H H' → H' p = some (.tup ((loadsL n hs).map V.int)) → Q (.ref p) H'
theorem scCounted : FnScope ["hands", "deal"] ["hands", "deal"] (defScope sCounted) := ⟨rfl, rfl, rfl, by decide +kernel, rfl, by decide +kernel, by decide +kernel⟩
theorem ok_counted {f : Addr} {fd : FuncData} (G : Fn K mg "counted" sCounted ["hands", "deal"] f fd) (B : Bl mg) : FnOk P w K mg base CX0 1 f fd ["hands", "deal"] (spCounted K) := by
  refine G.fn.ok scCounted (fun vs H Q E h => ?_) (fun cdv A outer s H vs Q E hr h => ?_)
  · obtain ⟨n, b, hs, rfl, _⟩ := h
    rfl
  · obtain ⟨n, c, hs, rfl, hc, hn1, hn6, k⟩ := h
    refine ⟨_, pss_one (ps_ret (pe_callTy call_tuple_of rfl B.tuple b_tuple (pa_cons
        (pe_comp (own := ["hand"]) (fr := [1]) (frn := ["deal"]) (compOk_of (defScope sCounted) ["hands", "deal"] rfl rfl (by decide +kernel)) rfl (pi_range1 rfl B.range (pa_cons (pv 0) pa_nil))
          (fun _ _ _ _ => pg_name (i := 0) (show (["hand", "deal"] : List Str).Nodup by decide +kernel) rfl (Or.inl rfl)) (fun _ _ _ _ => pf_nil)
          (fun _ _ _ _ => pe_bmK (K := K) rfl PySem.F.plainAttrs_tuple PySem.F.slot_tuple_count PySem.F.type_tuple_count (mt_countTK (K := K) rfl) (pv 1) (pa_cons (pv 0) pa_nil))) pa_nil))), ?_⟩
    refine ⟨_, rfl, n, rfl, by omega, by omega, comp_range (lo := 0) (n := n.toNat) (fun σ => ∃ v, σ = [v, some (.ref c)]) (fun i zs H2 => H2 = H ∧ zs = (((upto n.toNat).take i).map fun h => ((hs.count h : Nat) : Int)).map V.int) ?_ ⟨none, rfl⟩ ⟨rfl, rfl⟩ ?_ ?_ ?_⟩
    · rw [sizeLine_eq]; omega
    · rintro i zs H2 ⟨_, rfl⟩
      rw [List.length_map, List.length_map, List.length_take]; omega
    · rintro i zs σ H2 hi ⟨v, rfl⟩ ⟨rfl, rfl⟩ hz
      refine nameAll_go ?_
      refine ⟨_, rfl, .inr (.inl ⟨rfl, _, hc⟩), _, rfl, c, hs, _, rfl, rfl, hc, hz, ⟨_, rfl⟩, rfl, ?_⟩
      rw [List.take_succ, upto_get hi]
      simp
    · rintro zs H2 ⟨rfl, rfl⟩ p hp
      refine ⟨p, _, rfl, .inl ⟨SqL.of upd_same, fun l hl => ?_⟩⟩
      refine k l _ ((Same.new hp).trans (Same.new hl)) ?_
      rw [upd_same, List.take_of_length_le (by rw [upto_length]; exact Nat.le_refl _)]
      rfl

def spLoads (K : PySem.W.Frag) : Sp := fun vs H Q _ => ∃ x y n ws hs, vs = [x, y] ∧ Good K H x y n ws hs ∧ ∀ p H', Same H H' → H' p = some (.tup ((loadsL n hs).map V.int)) → Q (.ref p) H'
theorem scLoads : FnScope ["book", "deal"] ["book", "deal"] (defScope sLoads) := ⟨rfl, rfl, rfl, by decide +kernel, rfl, by decide +kernel, by decide +kernel⟩
theorem ok_loads (B : Bl mg) (R : Pr K mg fW fH fK fB fNB fD fND fL dW dH dK dB dNB dD dND dL) : FnOk P w K mg base CX0 7 fL dL ["book", "deal"] (spLoads K) := by
  have ON : FnOk P w K mg base CX0 6 fND dND ["book", "deal"] (spNeedD K) := ok_needD B R
  obtain ⟨fC, dC, GC⟩ := R.C
  have OC : FnOk P w K mg base CX0 1 fC dC ["hands", "deal"] (spCounted K) := ok_counted GC B
  refine R.L.fn.ok scLoads (fun vs H Q E h => ?_) (fun cdv A outer s H vs Q E hr h => ?_)
  · obtain ⟨x, y, n, ws, hs, rfl, _⟩ := h
    rfl
  · obtain ⟨x, y, n, ws, hs, rfl, g, k⟩ := h
    have r1 : Room 1 _ := hr.mono (by decide)
    refine ⟨_, pss_cons (ps_expr (pe_fn R.ND ON hr rfl (pa_cons (pv 0) (pa_cons (pv 1) pa_nil))))
      (pss_one (ps_ret (pe_fn GC OC r1 rfl (pa_cons (pe_ix ix_tup (pv 0) pe_int (fun _ _ => rfl)) (pa_cons (pv 1) pa_nil))))), ?_⟩
    refine ⟨_, rfl, _, rfl, x, y, n, ws, hs, rfl, g, fun H1 s1 => ?_⟩
    have g1 := g.same s1
    obtain ⟨hl, hn1, hn6⟩ := g.len
    obtain ⟨a, b, ys, rfl, ha, hb2, hys⟩ := den_book g1.1
    obtain ⟨c, rfl, hc⟩ := den_tints.mp g1.2.2.1
    refine ⟨_, rfl, a, _, 0, .int n, rfl, rfl, ha, rfl, _, rfl, n, c, hs, rfl, hc, by omega, hn6, fun p H2 s2 hp => ?_⟩
    exact k p H2 (s1.trans s2) hp

theorem loadsL_length (n : Int) (hs : List Int) : (loadsL n hs).length = n.toNat := by unfold loadsL; rw [List.length_map, upto_length]
end
end Ab
set_option Elab.async false
set_option linter.all false
set_option maxRecDepth 100000
namespace Ab
open PySem L2
def But (t : Addr) (H H' : Hp) : Prop := ∀ b o, b ≠ t → H b = some o → H' b = some o
theorem But.refl (t : Addr) (H : Hp) : But t H H := fun _ _ _ h => h
theorem But.trans {t : Addr} {H H1 H2 : Hp} (a : But t H H1) (b : But t H1 H2) : But t H H2 := fun c o n h => b c o n (a c o n h)
theorem But.of {t : Addr} {H H' : Hp} (a : Same H H') : But t H H' := fun c o _ h => a c o h
theorem But.at {t : Addr} {H : Hp} {u : HO} : But t H (upd H t u) := fun c o n h => by rw [upd_ne n]; exact h
theorem But.free {t : Addr} {H H' : Hp} (e : But t H H') {l : Addr} (h : H' l = none) (n : l ≠ t) : H l = none := by
  cases q : H l with
  | none => rfl
  | some o => rw [e l o n q] at h; cases h
theorem But.rdL {t a : Addr} {H H' : Hp} {xs : List V} (e : But t H H') (n : a ≠ t) (h : Rd H a (.lst xs)) : Rd H' a (.lst xs) := by
  rcases h with h | ⟨o, h⟩
  · exact .inl (e a _ n h)
  · exact .inr ⟨o, e a _ n h⟩
section
variable {K : PySem.W.Frag} {t : Addr} {H H' : Hp} {ys : List V}
theorem But.seqT {a : Addr} {xs : List V} (e : But t H H') (ht : H t = some (.lst ys)) (h : SqT K H a xs) : SqT K H' a xs := by
  rcases h with (h | ⟨o, h⟩) | h
  · exact .inl (.inl (e a _ (fun z => by rw [z, ht] at h; cases h) h))
  · exact .inl (.inr ⟨o, e a _ (fun z => by rw [z, ht] at h; cases h) h⟩)
  · exact .inr h
theorem But.seqL {a : Addr} {xs : List V} (e : But t H H') (n : a ≠ t) (h : SqL K H a xs) : SqL K H' a xs := by
  rcases h with h | h
  · exact .inl (e.rdL n h)
  · exact .inr h
mutual
def noList : PyData → Bool
  | .dict _ => false
  | .list _ => false
  | .tuple ds => noLists ds
  | _ => true
def noLists : List PyData → Bool
  | [] => true
  | d :: ds => noList d && noLists ds
end
mutual
theorem But.den (e : But t H H') (ht : H t = some (.lst ys)) : ∀ (d : PyData) (v : V), noList d = true → Den K H d v → Den K H' d v
  | .none, v, _, h => by unfold Den at h ⊢; exact h
  | .bool b, v, _, h => by unfold Den at h ⊢; exact h
  | .int i, v, _, h => by unfold Den at h ⊢; exact h
  | .str x, v, _, h => by unfold Den at h ⊢; exact h
  | .list ds, v, n, h => by unfold noList at n; cases n
  | .tuple ds, v, n, h => by unfold noList at n; unfold Den at h ⊢; obtain ⟨a, xs, h1, h2, h3⟩ := h; exact ⟨a, xs, h1, e.seqT ht h2, But.denAll e ht ds xs n h3⟩
  | .dict kvs, v, n, h => by unfold noList at n; cases n
theorem But.denAll (e : But t H H') (ht : H t = some (.lst ys)) : ∀ (ds : List PyData) (xs : List V), noLists ds = true → DenAll K H ds xs → DenAll K H' ds xs
  | [], xs, _, h => by unfold DenAll at h ⊢; exact h
  | d :: ds, xs, n, h => by
    unfold noLists at n; rw [Bool.and_eq_true] at n
    unfold DenAll at h ⊢; obtain ⟨x, r, h1, h2, h3⟩ := h; exact ⟨x, r, h1, But.den e ht d x n.1 h2, But.denAll e ht ds r n.2 h3⟩
end
end
theorem noLists_map {α : Type} (f : α → PyData) (h : ∀ x, noList (f x) = true) : ∀ l : List α, noLists (l.map f) = true
  | [] => by unfold List.map noLists; rfl
  | x :: r => by rw [List.map_cons]; unfold noLists; rw [h x, noLists_map f h r]; rfl
theorem noList_int (i : Int) : noList (.int i) = true := by unfold noList; rfl
theorem noList_work (l : List Int) : noList (workD l) = true := by unfold workD noList; exact noLists_map _ noList_int l
theorem noList_deal (l : List Int) : noList (dealD l) = true := noList_work l
theorem noList_book (n : Int) (ws : List (List Int)) : noList (bookD n ws) = true := by
  unfold bookD noList noLists
  rw [noList_int]
  unfold noLists noList
  rw [noLists_map _ noList_work ws]
  unfold noLists
  rfl

def Tape (K : PySem.W.Frag) (H : Hp) (t a : Addr) (ns : List Int) : Prop := (∃ p q : Int, 0 ≤ p ∧ H t = some (.lst [.ref a, .int p, .int q])) ∧ SqL K H a (ns.map V.int)
theorem Tape.same {K : PySem.W.Frag} {H H' : Hp} {t a : Addr} {ns : List Int} (h : Tape K H t a ns) (e : Same H H') : Tape K H' t a ns := by
  obtain ⟨⟨p, q, h1, h2⟩, h3⟩ := h
  exact ⟨⟨p, q, h1, e t _ h2⟩, e.seqL h3⟩
theorem Tape.den {K : PySem.W.Frag} {H H' : Hp} {t a : Addr} {ns : List Int} (h : Tape K H t a ns) (e : But t H H') {d : PyData} {v : V} (n : noList d = true) (hd : Den K H d v) : Den K H' d v := by
  obtain ⟨⟨p, q, h1, h2⟩, h3⟩ := h
  exact e.den h2 d v n hd
theorem Tape.seqT {K : PySem.W.Frag} {H H' : Hp} {t a : Addr} {ns : List Int} (h : Tape K H t a ns) (e : But t H H') {b : Addr} {xs : List V} (hd : SqT K H b xs) : SqT K H' b xs := by
  obtain ⟨⟨p, q, h1, h2⟩, h3⟩ := h
  exact e.seqT h2 hd
theorem Tape.ne {K : PySem.W.Frag} {H : Hp} {t a : Addr} {ns : List Int} (h : Tape K H t a ns) {b : Addr} (hb : H b = none) : b ≠ t := by
  obtain ⟨⟨p, q, h1, h2⟩, h3⟩ := h
  intro z
  rw [z, h2] at hb
  cases hb
theorem noref_ints {ns : List Int} {xs : List V} {a : Addr} {r : List V} (h : ns.map V.int = .ref a :: r) : False := by
  cases ns with
  | nil => cases h
  | cons _ _ => rw [List.map_cons] at h; cases h
theorem tape_upd {K : PySem.W.Frag} {H : Hp} {t a : Addr} {ns : List Int} {p q : Int} {u : HO} (h2 : H t = some (.lst [.ref a, .int p, .int q])) (h : SqL K H a (ns.map V.int)) : SqL K (upd H t u) a (ns.map V.int) := by
  rcases h with (h | ⟨o, h⟩) | h
  · have n : a ≠ t := fun z => by
      rw [z, h2] at h
      injection h with h
      injection h with h
      exact noref_ints (xs := []) h.symm
    exact .inl (.inl (by rw [upd_ne n]; exact h))
  · have n : a ≠ t := fun z => by
      rw [z, h2] at h
      cases h
    exact .inl (.inr ⟨o, by rw [upd_ne n]; exact h⟩)
  · exact .inr h
section
variable {P : Program} {w : World} {K : PySem.W.Frag} {mg : Str → Option Value} {base : Heap}
theorem noDict_ints (ns : List Int) : noDict (.list (ns.map .int)) = true := by
  unfold noDict
  induction ns with
  | nil => unfold List.map noDicts; rfl
  | cons n r ih => rw [List.map_cons]; unfold noDicts; rw [ih]; unfold noDict; rfl
theorem canLay_map {α : Type} (f : α → PyData) (h : ∀ x, (f x).canLay0 = true) : ∀ l : List α, PyData.canLayAll0 (l.map f) = true
  | [] => by unfold List.map PyData.canLayAll0; rfl
  | x :: r => by rw [List.map_cons]; unfold PyData.canLayAll0; rw [h x, canLay_map f h r]; rfl
theorem depth_map {α : Type} {k : Nat} (f : α → PyData) (h : ∀ x, (f x).depth ≤ k) : ∀ l : List α, PyData.depthAll (l.map f) ≤ k
  | [] => by unfold List.map PyData.depthAll; exact Nat.zero_le _
  | x :: r => by rw [List.map_cons]; unfold PyData.depthAll; exact Nat.max_le.mpr ⟨h x, depth_map f h r⟩
theorem canLay_int (i : Int) : (PyData.int i).canLay0 = true := by unfold PyData.canLay0; rfl
theorem depth_int (i : Int) : (PyData.int i).depth ≤ 0 := by unfold PyData.depth; exact Nat.le_refl _
theorem canLay_lints (ns : List Int) : (PyData.list (ns.map .int)).canLay0 = true := by unfold PyData.canLay0; exact canLay_map _ canLay_int ns
theorem canLay_tints (ns : List Int) : (PyData.tuple (ns.map .int)).canLay0 = true := by unfold PyData.canLay0; exact canLay_map _ canLay_int ns
theorem depth_lints (ns : List Int) : (PyData.list (ns.map .int)).depth ≤ 1 := by unfold PyData.depth; exact Nat.succ_le_succ (depth_map _ depth_int ns)
theorem depth_tints (ns : List Int) : (PyData.tuple (ns.map .int)).depth ≤ 1 := by unfold PyData.depth; exact Nat.succ_le_succ (depth_map _ depth_int ns)
theorem shaped_of {d : PyData} (h1 : d.canLay0 = true) (h2 : d.depth ≤ 64) : SeqAt.shaped d = true := by
  unfold SeqAt.shaped
  rw [h1, decide_eq_true h2]
  rfl
theorem shaped_ints (ns : List Int) : SeqAt.shaped (.list (ns.map .int)) = true := shaped_of (canLay_lints ns) (Nat.le_trans (depth_lints ns) (by decide))
theorem shaped_tints (ns : List Int) : SeqAt.shaped (.tuple (ns.map .int)) = true := shaped_of (canLay_tints ns) (Nat.le_trans (depth_tints ns) (by decide))
theorem noDict_tints (ns : List Int) : noDict (.tuple (ns.map .int)) = true := by
  have h := noDict_ints ns
  unfold noDict at h ⊢
  exact h
def spStir : Sp := fun vs H Q _ => ∃ c a : Int, vs = [.int c, .int a] ∧ ∀ r, Q (.int r) H
theorem scStir : FnScope ["cell", "at", "first", "second", "third"] ["cell", "at"] (defScope sStir) := ⟨rfl, rfl, rfl, by decide +kernel, rfl, by decide +kernel, by decide +kernel⟩
theorem ok_stir {f : Addr} {fd : FuncData} (G : Fn K mg "_law_b_stirred" sStir ["cell", "at"] f fd) : FnOk P w K mg base CX0 1 f fd ["cell", "at"] spStir := by
  refine G.fn.ok scStir (fun vs H Q E h => ?_) (fun cdv A outer s H vs Q E hr h => ?_)
  · obtain ⟨c, a, rfl, _⟩ := h
    rfl
  · obtain ⟨c, a, rfl, k⟩ := h
    refine ⟨_, pss_cons (ps_if (pt_cmpR op_ge (pv 0) (pe_op op_pow pe_int pe_int) (nomark _)) (pss_one (ps_ret (pv 0))) pss_nil)
      (pss_cons (ps_set (i := 2) scStir.nd rfl (Or.inl rfl) (pe_op op_mod (pe_op op_add (pe_op op_add (pe_op op_mul (pe_op op_mod (pv 0) pe_int) pe_int) (pe_op op_mul (pv 1) pe_int)) pe_int) pe_int))
      (pss_cons (ps_set (i := 3) scStir.nd rfl (Or.inl rfl) (pe_op op_mod (pe_op op_add (pe_op op_add (pe_op op_mul (pv 2) (pv 2)) (pe_op op_mul pe_int (pv 1))) pe_int) pe_int))
      (pss_cons (ps_set (i := 4) scStir.nd rfl (Or.inl rfl) (pe_op op_mod (pe_op op_add (pe_op op_add (pe_op op_mul (pv 3) (pv 3)) (pe_op op_mul pe_int (pv 2))) (pv 1)) pe_int))
      (pss_one (ps_ret (pe_op op_add (pe_op op_mul (pv 3) pe_int) (pv 4))))))), ?_⟩
    refine ⟨_, rfl, _, _, rfl, rfl, ⟨by decide, by decide, by decide⟩, _, _, rfl, rfl, _, rfl, ?_⟩
    refine ite2 (fun c1 => ?_) (fun c1 => ?_)
    · exact ⟨_, rfl, k _⟩
    · refine ⟨_, rfl, _, _, rfl, rfl, (show (0 : Int) < _ by decide), _, _, rfl, rfl, .inr ⟨by decide, by decide⟩, _, rfl, _, _, rfl, rfl, .inr ⟨by decide, by decide⟩, _, _, rfl, rfl, _, _, rfl, rfl, _, _, rfl, rfl, (show (0 : Int) < _ by decide), ?_⟩
      generalize hf : ((c % 2147483629 * 43591 + a * 6661 + 353) % 2147483587 : Int) = f1
      have b1 : 0 ≤ f1 ∧ f1 < 2147483587 := by rw [← hf]; exact ⟨Int.emod_nonneg _ (by decide), Int.emod_lt_of_pos _ (by decide)⟩
      refine ⟨_, rfl, _, rfl, _, _, rfl, rfl, .inl ⟨by omega, by omega⟩, _, rfl, _, _, rfl, rfl, .inl ⟨by decide, by decide⟩, _, _, rfl, rfl, _, _, rfl, rfl, _, _, rfl, rfl, (show (0 : Int) < _ by decide), ?_⟩
      generalize hg : ((f1 * f1 + 727 * a + 89) % 2147483579 : Int) = f2
      have b2 : 0 ≤ f2 ∧ f2 < 2147483579 := by rw [← hg]; exact ⟨Int.emod_nonneg _ (by decide), Int.emod_lt_of_pos _ (by decide)⟩
      refine ⟨_, rfl, _, rfl, _, _, rfl, rfl, .inl ⟨by omega, by omega⟩, _, rfl, _, _, rfl, rfl, .inl ⟨by decide, by decide⟩, _, _, rfl, rfl, _, rfl, _, _, rfl, rfl, _, _, rfl, rfl, (show (0 : Int) < _ by decide), ?_⟩
      exact ⟨_, rfl, _, _, rfl, rfl, .inr ⟨by decide, by decide⟩, _, rfl, _, _, rfl, rfl, k _⟩
def spDigit (K : PySem.W.Frag) : Sp := fun vs H Q _ => ∃ (t a : Addr) (ns : List Int) (m : Int), vs = [.ref t, .int m] ∧ Tape K H t a ns ∧ 0 < m ∧ m < 1267650600228229401496703205376 ∧ ∀ r H', 0 ≤ r → r < m → But t H H' → Tape K H' t a ns → Q (.int r) H'
theorem _root_.L2.Room.u64 {k : Nat} {A : Around} (r : Room k A) : A.units + 64 < cLine := by have := r.un; omega
theorem scDigit : FnScope ["tape", "many", "at", "cell", "found"] ["tape", "many"] (defScope sDigit) := ⟨rfl, rfl, rfl, by decide +kernel, rfl, by decide +kernel, by decide +kernel⟩
theorem ok_digit {f fS : Addr} {fd fdS : FuncData} (G : Fn K mg "_law_b_digit" sDigit ["tape", "many"] f fd) (B : Bl mg) (GS : Fn K mg "_law_b_stirred" sStir ["cell", "at"] fS fdS) : FnOk P w K mg base CX0 2 f fd ["tape", "many"] (spDigit K) := by
  have OS : FnOk P w K mg base CX0 1 fS fdS ["cell", "at"] spStir := ok_stir GS
  refine G.fn.ok scDigit (fun vs H Q E h => ?_) (fun cdv A outer s H vs Q E hr h => ?_)
  · obtain ⟨t, a, ns, m, rfl, _⟩ := h
    rfl
  · obtain ⟨t, a, ns, m, rfl, ⟨⟨p, q, hp, ht⟩, hns⟩, hm1, hm2, k⟩ := h
    refine ⟨_, pss_cons (ps_if (pt_cmpR op_lt (pe_ix ix_list (pv 0) pe_int (fun _ _ => rfl)) (pv 1) (nomark _))
        (pss_cons (ps_set (i := 2) scDigit.nd rfl (Or.inl rfl) (pe_ix ix_list (pv 0) pe_int (fun _ _ => rfl)))
        (pss_cons (ps_set (i := 3) scDigit.nd rfl (Or.inl rfl) (pe_op op_add (pe_op op_mul pe_int (pv 2)) pe_int))
        (pss_cons (ps_if (pt_cmpR op_lt (pv 2) (pe_callB call_len_seq rfl B.len b_len (pa_cons (pe_ix ix_list (pv 0) pe_int (fun _ _ => rfl)) pa_nil)) (nomark _))
            (pss_one (ps_set (i := 3) scDigit.nd rfl (Or.inl rfl) (pe_ix ix_list (pe_ix ix_list (pv 0) pe_int (fun _ _ => rfl)) (pv 2) (fun _ _ => rfl))))
            (pss_one (ps_if (pt_cmpR (op_neD hr.u64) (pe_ix ix_list (pv 0) pe_int (fun _ _ => rfl)) (pe_lst pa_nil) (nomark _))
              (pss_one (ps_set (i := 3) scDigit.nd rfl (Or.inl rfl) (pe_op op_add (pe_op op_mod (pe_ix ix_list (pe_ix ix_list (pv 0) pe_int (fun _ _ => rfl)) (pe_op op_mod (pe_op op_mul (pv 2) pe_int) (pe_callB call_len_seq rfl B.len b_len (pa_cons (pe_ix ix_list (pv 0) pe_int (fun _ _ => rfl)) pa_nil))) (fun _ _ => rfl)) pe_int) (pe_op op_mul (pv 2) pe_int))))
              pss_nil)))
        (pss_cons (ps_asg (pe_op op_add (pv 2) pe_int) (pg_sub (pv 0) pe_int set_list))
        (pss_one (ps_asg (pe_fn GS OS hr rfl (pa_cons (pv 3) (pa_cons (pv 2) pa_nil))) (pg_sub (pv 0) pe_int set_list)))))))
        pss_nil)
      (pss_cons (ps_set (i := 4) scDigit.nd rfl (Or.inl rfl) (pe_op op_mod (pe_ix ix_list (pv 0) pe_int (fun _ _ => rfl)) (pv 1)))
      (pss_cons (ps_asg (pe_op op_fdivB (pe_ix ix_list (pv 0) pe_int (fun _ _ => rfl)) (pv 1)) (pg_sub (pv 0) pe_int set_list))
      (pss_one (ps_ret (pv 4))))), ?_⟩
    refine ⟨_, rfl, t, _, 2, .int q, rfl, rfl, SqL.of ht, rfl, _, rfl, _, _, rfl, rfl, _, rfl, ?_⟩
    refine ite2 (fun c1 => ?_) (fun c1 => ?_)
    · refine ⟨_, rfl, t, _, 1, .int p, rfl, rfl, SqL.of ht, rfl, ?_⟩
      refine ⟨_, rfl, _, _, rfl, rfl, .inl ⟨by decide, by decide⟩, _, _, rfl, rfl, ?_⟩
      refine ⟨_, rfl, _, rfl, t, _, 0, .ref a, rfl, rfl, SqL.of ht, rfl, a, _, rfl, .inl hns, _, _, rfl, rfl, _, rfl, ?_⟩
      refine ite2 (fun c2 => ?_) (fun c2 => ?_)
      · have c2' : p < ((ns.map V.int).length : Int) := of_decide_eq_true c2
        rw [List.length_map] at c2'
        have hlt : p.toNat < ns.length := by omega
        have hat : atI (ns.map V.int) p = some (.int (ns[p.toNat])) := by
          have h1 : (ns.map V.int)[p.toNat]? = some (.int (ns[p.toNat])) := by rw [List.getElem?_map, List.getElem?_eq_getElem hlt]; rfl
          have h2 := atI_nat h1
          rwa [Int.toNat_of_nonneg hp] at h2
        refine ⟨_, rfl, t, _, 0, .ref a, rfl, rfl, SqL.of ht, rfl, _, rfl, a, _, _, _, rfl, rfl, hns, hat, ?_⟩
        refine ⟨_, rfl, _, _, rfl, rfl, _, rfl, t, _, _, 1, rfl, rfl, ht, rfl, ?_⟩
        refine ⟨_, rfl, _, rfl, _, _, rfl, fun r => ⟨_, rfl, t, _, _, 2, rfl, rfl, upd_same, rfl, ?_⟩⟩
        refine ⟨_, rfl, t, _, 2, .int r, rfl, rfl, SqL.of upd_same, rfl, _, rfl, _, _, rfl, rfl, hm1, ?_⟩
        refine ⟨_, rfl, t, _, 2, .int r, rfl, rfl, SqL.of upd_same, rfl, _, rfl, _, _, rfl, rfl, ⟨hm1, hm2⟩, _, rfl, t, _, _, 2, rfl, rfl, upd_same, rfl, ?_⟩
        exact ⟨_, rfl, k _ _ (Int.emod_nonneg _ (by omega)) (Int.emod_lt_of_pos _ hm1) ((But.refl t H).trans (But.at.trans (But.at.trans But.at))) ⟨⟨p + 1, r / m, by omega, upd_same⟩, tape_upd (p := p + 1) (q := r) upd_same (tape_upd (p := p + 1) (q := q) upd_same (tape_upd ht hns))⟩⟩
      · refine ⟨_, rfl, t, _, 0, .ref a, rfl, rfl, SqL.of ht, rfl, by decide, fun l hl => ?_⟩
        have ntl : t ≠ l := fun z => by rw [← z, ht] at hl; cases hl
        have ht' : upd H l (.lst []) t = some (.lst [.ref a, .int p, .int q]) := by rw [upd_ne ntl]; exact ht
        have hns' : SqL K (upd H l (.lst [])) a (ns.map V.int) := (Same.new hl).seqL hns
        have bl : But t H (upd H l (.lst [])) := But.of (Same.new hl)
        refine ⟨.list (ns.map .int), .list [], den_lints.mpr ⟨a, rfl, hns'⟩, den_list.mpr ⟨l, [], rfl, SqL.of upd_same, denAll_nil.mpr rfl⟩, noDict_ints ns, rfl, shaped_ints ns, rfl, _, rfl, ?_⟩
        refine ite2 (fun c3 => ?_) (fun c3 => ?_)
        · have hpos : 0 < ns.length := by
            cases ns with
            | nil => simp [PyData.eqv, PyData.eqvAll] at c3
            | cons _ _ => simp
          have hlt : (p * 3 % (ns.length : Int)).toNat < ns.length := by
            have := Int.emod_nonneg (p * 3) (show (ns.length : Int) ≠ 0 by omega)
            have := Int.emod_lt_of_pos (p * 3) (show (0 : Int) < ns.length by omega)
            omega
          have hat : atI (ns.map V.int) (p * 3 % ((ns.map V.int).length : Int)) = some (.int (ns[(p * 3 % (ns.length : Int)).toNat])) := by
            have h1 : (ns.map V.int)[(p * 3 % (ns.length : Int)).toNat]? = some (.int (ns[(p * 3 % (ns.length : Int)).toNat])) := by rw [List.getElem?_map, List.getElem?_eq_getElem hlt]; rfl
            have h2 := atI_nat h1
            rw [List.length_map]
            rwa [Int.toNat_of_nonneg (Int.emod_nonneg _ (by omega))] at h2
          refine ⟨_, rfl, t, _, 0, .ref a, rfl, rfl, SqL.of ht', rfl, _, rfl, _, _, rfl, rfl, .inr ⟨by decide, by decide⟩, _, rfl, t, _, 0, .ref a, rfl, rfl, SqL.of ht', rfl, a, _, rfl, .inl hns', _, _, rfl, rfl, (show (0 : Int) < ((ns.map V.int).length : Int) by rw [List.length_map]; omega), a, _, _, _, rfl, rfl, hns', hat, _, _, rfl, rfl, (show (0 : Int) < _ by decide), _, rfl, _, _, rfl, rfl, .inr ⟨by decide, by decide⟩, _, _, rfl, rfl, ?_⟩
          refine ⟨_, rfl, _, _, rfl, rfl, _, rfl, t, _, _, 1, rfl, rfl, ht', rfl, ?_⟩
          refine ⟨_, rfl, _, rfl, _, _, rfl, fun r => ⟨_, rfl, t, _, _, 2, rfl, rfl, upd_same, rfl, ?_⟩⟩
          refine ⟨_, rfl, t, _, 2, .int r, rfl, rfl, SqL.of upd_same, rfl, _, rfl, _, _, rfl, rfl, hm1, ?_⟩
          refine ⟨_, rfl, t, _, 2, .int r, rfl, rfl, SqL.of upd_same, rfl, _, rfl, _, _, rfl, rfl, ⟨hm1, hm2⟩, _, rfl, t, _, _, 2, rfl, rfl, upd_same, rfl, ?_⟩
          exact ⟨_, rfl, k _ _ (Int.emod_nonneg _ (by omega)) (Int.emod_lt_of_pos _ hm1) (bl.trans (But.at.trans (But.at.trans But.at))) ⟨⟨p + 1, r / m, by omega, upd_same⟩, tape_upd (p := p + 1) (q := r) upd_same (tape_upd (p := p + 1) (q := q) upd_same (tape_upd ht' hns'))⟩⟩
        · show _
          refine ⟨_, rfl, _, _, rfl, rfl, _, rfl, t, _, _, 1, rfl, rfl, ht', rfl, ?_⟩
          refine ⟨_, rfl, _, rfl, _, _, rfl, fun r => ⟨_, rfl, t, _, _, 2, rfl, rfl, upd_same, rfl, ?_⟩⟩
          refine ⟨_, rfl, t, _, 2, .int r, rfl, rfl, SqL.of upd_same, rfl, _, rfl, _, _, rfl, rfl, hm1, ?_⟩
          refine ⟨_, rfl, t, _, 2, .int r, rfl, rfl, SqL.of upd_same, rfl, _, rfl, _, _, rfl, rfl, ⟨hm1, hm2⟩, _, rfl, t, _, _, 2, rfl, rfl, upd_same, rfl, ?_⟩
          exact ⟨_, rfl, k _ _ (Int.emod_nonneg _ (by omega)) (Int.emod_lt_of_pos _ hm1) (bl.trans (But.at.trans (But.at.trans But.at))) ⟨⟨p + 1, r / m, by omega, upd_same⟩, tape_upd (p := p + 1) (q := r) upd_same (tape_upd (p := p + 1) (q := q) upd_same (tape_upd ht' hns'))⟩⟩
    · show _
      refine ⟨_, rfl, t, _, 2, .int q, rfl, rfl, SqL.of ht, rfl, _, rfl, _, _, rfl, rfl, hm1, ?_⟩
      refine ⟨_, rfl, t, _, 2, .int q, rfl, rfl, SqL.of ht, rfl, _, rfl, _, _, rfl, rfl, ⟨hm1, hm2⟩, _, rfl, t, _, _, 2, rfl, rfl, ht, rfl, ?_⟩
      exact ⟨_, rfl, k _ _ (Int.emod_nonneg _ (by omega)) (Int.emod_lt_of_pos _ hm1) (But.at) ⟨⟨p, q / m, by omega, upd_same⟩, tape_upd ht hns⟩⟩
end
end Ab
set_option Elab.async false
set_option linter.all false
set_option maxRecDepth 100000
namespace Ab
open PySem L2
theorem rises_of (n : Int) : ∀ (l : List Int) (last : Int), (∀ x ∈ l, last < x) → l.Pairwise (· < ·) → (∀ x ∈ l, x < n) → risesP n last (l.map .int) = true
  | [], _, _, _, _ => rfl
  | x :: r, last, h1, h2, h3 => by
    rw [List.map_cons, risesP_cons_int]
    have h2' := List.pairwise_cons.mp h2
    rw [decide_eq_true (h1 x (List.mem_cons_self ..)), decide_eq_true (h3 x (List.mem_cons_self ..)), rises_of n r x h2'.1 h2'.2 (fun y hy => h3 y (List.mem_cons_of_mem _ hy))]
    rfl
theorem work_of {n : Int} {l : List Int} (h0 : l ≠ []) (h1 : ∀ x ∈ l, 0 ≤ x ∧ x < n) (h2 : l.Pairwise (· < ·)) : isWork n (workD l) = true := by
  have e : isWork n (workD l) = (!(l.map PyData.int).isEmpty && risesP n (-1) (l.map .int)) := rfl
  rw [e, rises_of n l (-1) (fun x hx => by have := (h1 x hx).1; omega) h2 (fun x hx => (h1 x hx).2)]
  cases l with
  | nil => exact absurd rfl h0
  | cons _ _ => rfl
theorem rises_parts (n : Int) : ∀ (l : List Int) (last : Int), risesP n last (l.map .int) = true → l.Pairwise (· < ·) ∧ ∀ x ∈ l, last < x ∧ x < n
  | [], _, _ => ⟨.nil, fun _ h => by cases h⟩
  | x :: r, last, h => by
    rw [List.map_cons, risesP_cons_int, Bool.and_eq_true, Bool.and_eq_true] at h
    obtain ⟨⟨h1, h2⟩, h3⟩ := h
    have h1 := of_decide_eq_true h1
    have h2 := of_decide_eq_true h2
    obtain ⟨i1, i2⟩ := rises_parts n r x h3
    refine ⟨List.pairwise_cons.mpr ⟨fun y hy => (i2 y hy).1, i1⟩, fun y hy => ?_⟩
    rcases List.mem_cons.mp hy with rfl | hy
    · exact ⟨h1, h2⟩
    · exact ⟨by have := (i2 y hy).1; omega, (i2 y hy).2⟩
theorem work_parts {n : Int} {l : List Int} (h : isWork n (workD l) = true) : l ≠ [] ∧ (∀ x ∈ l, 0 ≤ x ∧ x < n) ∧ l.Pairwise (· < ·) := by
  have e : (!(l.map PyData.int).isEmpty && risesP n (-1) (l.map .int)) = true := h
  rw [Bool.and_eq_true] at e
  obtain ⟨h1, h2⟩ := rises_parts n l (-1) e.2
  refine ⟨fun z => by rw [z] at e; simp at e, fun x hx => ⟨by have := (h2 x hx).1; omega, (h2 x hx).2⟩, h1⟩
theorem short_from {n : Int} : ∀ (l : List Int) (lo : Int), lo ≤ n → (∀ x ∈ l, lo ≤ x ∧ x < n) → l.Pairwise (· < ·) → (l.length : Int) ≤ n - lo
  | [], lo, h, _, _ => by simp; omega
  | x :: r, lo, h, h1, h2 => by
    have h2' := List.pairwise_cons.mp h2
    have hx := h1 x (List.mem_cons_self ..)
    have := short_from r (x + 1) (by omega) (fun y hy => ⟨by have := h2'.1 y hy; omega, (h1 y (List.mem_cons_of_mem _ hy)).2⟩) h2'.2
    rw [List.length_cons]
    omega
theorem work_short {n : Int} {l : List Int} (hn : 0 ≤ n) (h1 : ∀ x ∈ l, 0 ≤ x ∧ x < n) (h2 : l.Pairwise (· < ·)) : (l.length : Int) ≤ n := by
  have := short_from l 0 hn h1 h2
  omega
theorem upto_mem {n : Nat} {x : Int} : x ∈ upto n ↔ 0 ≤ x ∧ x < n := by
  unfold upto
  rw [List.mem_map]
  constructor
  · rintro ⟨i, hi, rfl⟩
    have := List.mem_range.mp hi
    show 0 ≤ (i : Int) ∧ (i : Int) < n
    omega
  · rintro ⟨h1, h2⟩
    exact ⟨x.toNat, List.mem_range.mpr (by omega), by show ((x.toNat : Nat) : Int) = x; omega⟩
theorem upto_rises (n : Nat) : (upto n).Pairwise (· < ·) := by
  unfold upto
  rw [List.pairwise_map]
  refine List.pairwise_lt_range.imp fun h => ?_
  show ((_ : Nat) : Int) < ((_ : Nat) : Int)
  omega
theorem twoS_good {a b : Nat} : (twoS a b).Pairwise (· < ·) ∧ twoS a b ≠ [] ∧ ∀ x ∈ twoS a b, x = (a : Int) ∨ x = (b : Int) := by
  unfold twoS
  split
  · exact ⟨by simp, by simp, fun x hx => by simp at hx; exact .inl hx⟩
  · split
    · refine ⟨?_, by simp, fun x hx => by simpa using hx⟩
      rw [List.pairwise_cons]
      exact ⟨fun y hy => by simp at hy; omega, by simp⟩
    · refine ⟨?_, by simp, fun x hx => by simp at hx; exact hx.symm⟩
      rw [List.pairwise_cons]
      exact ⟨fun y hy => by simp at hy; omega, by simp⟩
end Ab
set_option Elab.async false
set_option linter.all false
set_option maxRecDepth 100000
namespace Ab
open PySem L2
section
variable {P : Program} {w : World} {K : PySem.W.Frag} {mg : Str → Option Value} {base : Heap}
theorem op_eqDK {X : Cx} (hK : X.K = K) (hu : X.A.units + 64 < cLine) : OpR X (compareOp .Eq) (fun x y H Q => ∃ d e, Den K H d x ∧ Den K H e y ∧ noDict d = true ∧ noDict e = true ∧ SeqAt.shaped d = true ∧ SeqAt.shaped e = true ∧ Q (.bl (PyData.eqv d e)) H) := by subst hK; exact op_eqD hu
theorem eqvAll_ints : ∀ (a b : List Int), PyData.eqvAll (a.map .int) (b.map .int) = decide (a = b)
  | [], [] => by simp [PyData.eqvAll]
  | [], _ :: _ => by simp [PyData.eqvAll]
  | _ :: _, [] => by simp [PyData.eqvAll]
  | x :: r, y :: s => by
    rw [List.map_cons, List.map_cons, PyData.eqvAll, eqvAll_ints r s, PyData.eqv]
    by_cases h : x = y
    · by_cases h2 : r = s
      · simp [h, h2]
      · simp [h, h2]
    · simp [h]
theorem eqv_lints (a b : List Int) : PyData.eqv (.list (a.map .int)) (.list (b.map .int)) = decide (a = b) := by rw [PyData.eqv, eqvAll_ints]
theorem eqv_tints (a b : List Int) : PyData.eqv (.tuple (a.map .int)) (.tuple (b.map .int)) = decide (a = b) := by rw [PyData.eqv, eqvAll_ints]
theorem sz1 (x : V) : [x].length ≤ sizeLine := by rw [sizeLine_eq]; simp
theorem sz2 (x y : V) : [x, y].length ≤ sizeLine := by rw [sizeLine_eq]; simp
theorem size1 {n : Nat} (h : n ≤ 1000) : n ≤ sizeLine := by rw [sizeLine_eq]; omega
def spWork (K : PySem.W.Frag) : Sp := fun vs H Q _ => ∃ (t a : Addr) (ns : List Int) (n kd : Int), vs = [.ref t, .int n, .int kd] ∧ Tape K H t a ns ∧ 1 ≤ n ∧ n ≤ 6 ∧ ∀ l p H', isWork n (workD l) = true → But t H H' → Tape K H' t a ns → SqT K H' p (l.map V.int) → Q (.ref p) H'
theorem scWork : FnScope ["tape", "hands", "kind", "first", "often", "some"] ["tape", "hands", "kind"] (defScope sWork) := ⟨rfl, rfl, rfl, by decide +kernel, rfl, by decide +kernel, by decide +kernel⟩
theorem ok_work {f fD : Addr} {fd fdD : FuncData} (G : Fn K mg "_law_b_work" sWork ["tape", "hands", "kind"] f fd) (B : Bl mg) (GD : Fn K mg "_law_b_digit" sDigit ["tape", "many"] fD fdD) (OD : FnOk P w K mg base CX0 2 fD fdD ["tape", "many"] (spDigit K)) : FnOk P w K mg base CX0 3 f fd ["tape", "hands", "kind"] (spWork K) := by
  refine G.fn.ok scWork (fun vs H Q E h => ?_) (fun cdv A outer s H vs Q E hr h => ?_)
  · obtain ⟨t, a, ns, n, kd, rfl, _⟩ := h
    rfl
  · obtain ⟨t, a, ns, n, kd, rfl, hT, hn1, hn6, k⟩ := h
    refine ⟨_, pss_cons (ps_set (i := 3) scWork.nd rfl (Or.inr rfl) (pe_fn GD OD hr rfl (pa_cons (pv 0) (pa_cons (pv 1) pa_nil))))
      (pss_cons (ps_if (pt_cmpR op_eq (pv 2) pe_int (nomark _)) (pss_one (ps_ret (pe_tup (pa_cons (pv 3) pa_nil)))) pss_nil)
      (pss_cons (ps_if (pt_cmpR op_eq (pv 2) pe_int (nomark _)) (pss_one (ps_ret (pe_callTy call_tuple_of rfl B.tuple b_tuple (pa_cons (pe_callB (call_sorted_set rfl) rfl B.sorted b_sorted (pa_cons (pe_callTy (call_set2 rfl) rfl B.set b_set (pa_cons (pe_lst (pa_cons (pv 3) (pa_cons (pe_op op_mod (pe_op op_add (pv 3) pe_int) (pv 1)) pa_nil))) pa_nil)) pa_nil)) pa_nil)))) pss_nil)
      (pss_cons (ps_if (pt_cmpR op_eq (pv 2) pe_int (nomark _)) (pss_one (ps_ret (pe_callTy (call_tuple_rng rfl) rfl B.tuple b_tuple (pa_cons (pe_callTy call_range1 rfl B.range b_range (pa_cons (pv 1) pa_nil)) pa_nil)))) pss_nil)
      (pss_cons (ps_set (i := 4) scWork.nd rfl (Or.inr rfl) (pe_op op_add pe_int (pe_fn GD OD hr rfl (pa_cons (pv 0) (pa_cons pe_int pa_nil)))))
      (pss_cons (ps_set (i := 5) scWork.nd rfl (Or.inr rfl)
        (pe_comp (own := ["hand"]) (fr := [3, 4, 0]) (frn := ["first", "often", "tape"]) (compOk_of (defScope sWork) ["tape", "hands", "kind", "first", "often", "some"] rfl rfl (by decide +kernel)) rfl (pi_range1 rfl B.range (pa_cons (pv 1) pa_nil))
          (fun _ _ _ _ => pg_name (i := 0) (show (["hand", "first", "often", "tape"] : List Str).Nodup by decide +kernel) rfl (Or.inl rfl))
          (fun _ _ _ _ => pf_one (PW.pt (pw_or (pt_cmpR op_eq (pv 0) (pv 1) (nomark _)) (pw_or1 (pt_cmpR op_eq (pe_fn GD OD hr rfl (pa_cons (pv 3) (pa_cons (pv 2) pa_nil))) pe_int (nomark _))))))
          (fun _ _ _ _ => pv 0)))
      (pss_cons (ps_if (PW.pt (pw_and (pt_cmpR op_eq (pv 2) pe_int (nomark _)) (pw_and1 (pt_cmpR op_lt (pe_callB call_len_seq rfl B.len b_len (pa_cons (pv 5) pa_nil)) (pv 1) (nomark _)))))
        (pss_one (ps_set (i := 5) scWork.nd rfl (Or.inr rfl)
          (pe_comp (own := ["hand"]) (fr := [5]) (frn := ["some"]) (compOk_of (defScope sWork) ["tape", "hands", "kind", "first", "often", "some"] rfl rfl (by decide +kernel)) rfl (pi_list (pv 5))
            (fun _ _ _ _ => pg_name (i := 0) (show (["hand", "some"] : List Str).Nodup by decide +kernel) rfl (Or.inl rfl))
            (fun _ _ _ _ => pf_one (PW.pt (pw_or (pt_cmpR op_gt (pv 0) pe_int (nomark _)) (pw_or1 (pt_cmpR (op_eqDK (K := K) rfl hr.u64) (pv 1) (pe_lst (pa_cons pe_int pa_nil)) (nomark _))))))
            (fun _ _ _ _ => pv 0)))) pss_nil)
      (pss_one (ps_ret (pe_callTy call_tuple_of rfl B.tuple b_tuple (pa_cons (pv 5) pa_nil)))))))))), ?_⟩
    refine ⟨_, rfl, _, rfl, t, a, ns, n, rfl, hT, by omega, by omega, fun first H1 hf0 hf1 b1 T1 => ?_⟩
    obtain ⟨fn, rfl⟩ : ∃ fn : Nat, first = fn := ⟨first.toNat, by omega⟩
    obtain ⟨m, rfl⟩ : ∃ m : Nat, n = m := ⟨n.toNat, by omega⟩
    refine ⟨_, rfl, rfl, _, rfl, ?_⟩
    refine ite2 (fun c1 => ?_) (fun c1 => ?_)
    · refine ⟨_, rfl, sz1 _, fun p hp => ?_⟩
      refine k [(fn : Int)] p _ (work_of (by simp) (fun x hx => ?_) (by simp)) (b1.trans (But.of (Same.new hp))) (T1.same (Same.new hp)) (SqT.of upd_same)
      rw [List.mem_singleton] at hx
      omega
    refine ⟨_, rfl, rfl, _, rfl, ?_⟩
    refine ite2 (fun c2 => ?_) (fun c2 => ?_)
    · have hmod0 : 0 ≤ ((fn : Int) + 1) % (m : Int) := Int.emod_nonneg _ (by omega)
      have hmod1 : ((fn : Int) + 1) % (m : Int) < m := Int.emod_lt_of_pos _ (by omega)
      have hg : ∃ g : Nat, ((fn : Int) + 1) % (m : Int) = g := ⟨(((fn : Int) + 1) % (m : Int)).toNat, by omega⟩
      obtain ⟨g, hg⟩ := hg
      refine ⟨_, rfl, _, rfl, _, _, rfl, rfl, _, rfl, _, _, rfl, rfl, (show (0 : Int) < (m : Int) by omega), sz2 _ _, fun l hl => ?_⟩
      rw [hg] at hmod0 hmod1
      refine ⟨l, fn, g, rfl, SqL.of (by rw [upd_same]; show some (HO.lst [V.int (fn : Int), V.int (((fn : Int) + 1) % (m : Int))]) = _; rw [hg]), by omega, by omega, fun p hp => ⟨p, fn, g, rfl, upd_same, by omega, by omega, fun q hq => ⟨q, _, rfl, .inl ⟨SqL.of upd_same, fun r hr2 => ?_⟩⟩⟩⟩
      have sm := ((Same.new (o := .lst [.int (fn : Int), .int (((fn : Int) + 1) % (m : Int))]) hl).trans ((Same.new hp).trans ((Same.new hq).trans (Same.new (o := .tup ((twoS fn g).map V.int)) hr2))))
      obtain ⟨w1, w2, w3⟩ := twoS_good (a := fn) (b := g)
      refine k (twoS fn g) r _ (work_of w2 (fun x hx => ?_) w1) (b1.trans (But.of sm)) (T1.same sm) (SqT.of upd_same)
      rcases w3 x hx with e | e <;> omega
    refine ⟨_, rfl, rfl, _, rfl, ?_⟩
    refine ite2 (fun c3 => ?_) (fun c3 => ?_)
    · refine ⟨_, rfl, (m : Int), rfl, fun p hp => ⟨p, m, rfl, upd_same, by omega, fun q H' s' hq => ?_⟩⟩
      have sm := (Same.new hp).trans s'
      refine k (upto m) q H' (work_of (fun z => ?_) (fun x hx => upto_mem.mp hx) (upto_rises m)) (b1.trans (But.of sm)) (T1.same sm) hq
      have := upto_length m
      rw [z] at this
      simp at this
      omega
    refine ⟨_, rfl, t, a, ns, 3, rfl, T1, by decide, by decide, fun r H2 hr0 hr1 b2 T2 => ⟨_, _, rfl, rfl, ?_⟩⟩
    have b02 := b1.trans b2
    refine ⟨_, rfl, (m : Int), rfl, by omega, by omega, comp_range (lo := 0) (n := ((m : Int)).toNat) (fun σ => ∃ v, σ = [v, some (.int (fn : Int)), some (.int (2 + r)), some (.ref t)])
      (fun i ys H3 => ∃ l : List Int, ys = l.map V.int ∧ l.Pairwise (· < ·) ∧ (∀ x ∈ l, 0 ≤ x ∧ x < i) ∧ (fn < i → l ≠ []) ∧ But t H H3 ∧ Tape K H3 t a ns) (size1 (by omega)) ⟨none, rfl⟩
      ⟨[], rfl, .nil, fun _ h => (List.not_mem_nil h).elim, fun h => (Nat.not_lt_zero _ h).elim, b02, T2⟩ ?_ ?_ ?_⟩
    · rintro i ys H3 ⟨l, rfl, h1, h2, _⟩
      rw [List.length_map]
      have := work_short (n := (i : Int)) (by omega) h2 h1
      omega
    · rintro i ys σ H3 hi ⟨v, rfl⟩ ⟨l, rfl, h1, h2, h3, b3, T3⟩ hz
      have hnext : (l ++ [(i : Int)]).Pairwise (· < ·) ∧ ∀ x ∈ l ++ [(i : Int)], 0 ≤ x ∧ x < ((i + 1 : Nat) : Int) := by
        refine ⟨List.pairwise_append.mpr ⟨h1, by simp, fun x hx y hy => ?_⟩, fun x hx => ?_⟩
        · rw [List.mem_singleton] at hy
          have := (h2 x hx).2
          omega
        · rcases List.mem_append.mp hx with hx | hx
          · have := h2 x hx
            omega
          · rw [List.mem_singleton] at hx
            omega
      refine ⟨_, rfl, _, rfl, rfl, _, rfl, ?_⟩
      refine ite2 (fun c4 => ?_) (fun c4 => ?_)
      · refine iteT ?_
        refine ⟨_, rfl, hz, ⟨_, rfl⟩, l ++ [(i : Int)], by simp, hnext.1, hnext.2, fun _ => by simp, b3, T3⟩
      · have c4' : ¬ (fn : Int) = i := fun z => c4 (by simp [z])
        refine ⟨_, rfl, _, rfl, t, a, ns, 2 + r, rfl, T3, by omega, by omega, fun r4 H4 hr40 hr41 b4 T4 => ⟨rfl, _, rfl, ?_⟩⟩
        refine ite2 (fun c5 => ?_) (fun c5 => ?_)
        · refine ⟨_, rfl, hz, ⟨_, rfl⟩, l ++ [(i : Int)], by simp, hnext.1, hnext.2, fun _ => by simp, b3.trans b4, T4⟩
        · refine ⟨⟨_, rfl⟩, l, rfl, h1, fun x hx => ?_, fun h => h3 (by omega), b3.trans b4, T4⟩
          have := h2 x hx
          omega
    · rintro ys H3 ⟨l, rfl, h1, h2, h3, b3, T3⟩ p hp
      have hl0 : l ≠ [] := h3 (by omega)
      have h2' : ∀ x ∈ l, 0 ≤ x ∧ x < (m : Int) := fun x hx => by have := h2 x hx; omega
      have hshort := work_short (by omega) h2' h1
      have sp := Same.new (o := .lst (l.map V.int)) hp
      have T3' := T3.same sp
      have b3' := b3.trans (But.of sp)
      have ntp : p ≠ t := T3.ne hp
      have hpl : upd H3 p (.lst (l.map V.int)) p = some (.lst (l.map V.int)) := upd_same
      generalize hH5 : upd H3 p (.lst (l.map V.int)) = H5 at T3' b3' hpl ⊢
      refine ⟨_, rfl, rfl, _, rfl, ?_⟩
      refine ite2 (fun c4 => ?_) (fun c4 => ?_)
      · refine ⟨_, rfl, p, _, rfl, .inl (SqL.of hpl), _, rfl, _, _, rfl, rfl, _, rfl, ?_⟩
        refine ite2 (fun c5 => ?_) (fun c5 => ?_)
        · refine ⟨_, rfl, p, rfl, ⟨_, SqL.of hpl⟩, comp_list (K := K) (a := p) (xs := l.map V.int) (fun σ => ∃ v, σ = [v, some (.ref p)]) (fun i ys H6 => Same H5 H6 ∧ ys = ((l.take i).filter fun h => decide (0 < h) || decide (l = [0])).map V.int) (size1 (by rw [List.length_map]; omega)) ⟨none, rfl⟩ ⟨Same.refl _, rfl⟩ ?_ ?_ ?_ ?_⟩
          · rintro i ys H6 ⟨_, rfl⟩
            rw [List.length_map]
            exact Nat.le_trans (List.length_filter_le _ _) (by rw [List.length_take]; omega)
          · rintro i ys H6 ⟨s6, _⟩
            exact s6.seqL (SqL.of hpl)
          · rintro i ys σ x H6 hx ⟨v, rfl⟩ ⟨s6, rfl⟩ hz
            rw [List.getElem?_map] at hx
            obtain ⟨h, hh, rfl⟩ : ∃ h, l[i]? = some h ∧ V.int h = x := by
              cases q : l[i]? with
              | none => rw [q] at hx; cases hx
              | some h => rw [q] at hx; exact ⟨h, rfl, Option.some.inj hx⟩
            have etake : l.take (i + 1) = l.take i ++ [h] := by rw [List.take_succ, hh]; rfl
            refine ⟨_, rfl, _, _, rfl, rfl, _, rfl, ?_⟩
            refine ite2 (fun c6 => ?_) (fun c6 => ?_)
            · refine iteT ?_
              refine ⟨_, rfl, hz, ⟨_, rfl⟩, s6, ?_⟩
              rw [etake, List.filter_append, List.map_append]
              simp [of_decide_eq_true c6]
            · refine ⟨_, rfl, sz1 _, fun q hq => ?_⟩
              have s7 := s6.trans (Same.new (o := .lst [V.int 0]) hq)
              refine ⟨.list (l.map .int), .list ([0].map .int), den_lints.mpr ⟨p, rfl, s7.seqL (SqL.of hpl)⟩, den_lints.mpr ⟨q, rfl, SqL.of upd_same⟩, noDict_ints _, noDict_ints _, shaped_ints _, shaped_ints _, _, rfl, ?_⟩
              rw [eqv_lints]
              refine ite2 (fun c7 => ?_) (fun c7 => ?_)
              · refine ⟨_, rfl, hz, ⟨_, rfl⟩, s7, ?_⟩
                rw [etake, List.filter_append, List.map_append]
                simp [of_decide_eq_true c7]
              · refine ⟨⟨_, rfl⟩, s7, ?_⟩
                rw [etake, List.filter_append, List.map_append]
                have c6' : ¬ 0 < h := fun z => c6 (decide_eq_true z)
                have c7' : ¬ l = [0] := fun z => c7 (decide_eq_true z)
                simp [c6', c7']
          · rintro ys H6 ⟨s6, rfl⟩ q hq
            rw [List.length_map, List.take_length]
            have hsub : (l.filter fun h => decide (0 < h) || decide (l = [0])).Sublist l := List.filter_sublist
            refine ⟨_, rfl, q, _, rfl, .inl ⟨SqL.of upd_same, fun r5 hr5 => ?_⟩⟩
            have sm := s6.trans ((Same.new (o := .lst ((l.filter fun h => decide (0 < h) || decide (l = [0])).map V.int)) hq).trans (Same.new (o := .tup ((l.filter fun h => decide (0 < h) || decide (l = [0])).map V.int)) hr5))
            refine k (l.filter fun h => decide (0 < h) || decide (l = [0])) r5 _ (work_of ?_ (fun x hx => h2' x (hsub.mem hx)) (h1.sublist hsub)) (b3'.trans (But.of sm)) (T3'.same sm) (SqT.of upd_same)
            intro z
            rw [List.filter_eq_nil_iff] at z
            by_cases hl : l = [0]
            · have := z 0 (by rw [hl]; simp)
              simp [hl] at this
            · apply hl
              have hall : ∀ x ∈ l, x = 0 := fun x hx => by
                have hz := z x hx
                have := (h2' x hx).1
                simp [hl] at hz
                omega
              match l, hl0, h1, hall with
              | [x], _, _, ha => rw [ha x (List.mem_singleton.mpr rfl)]
              | x :: y :: r, _, hp, ha =>
                exfalso
                have h3 := (List.pairwise_cons.mp hp).1 y (List.mem_cons_self ..)
                rw [ha x (List.mem_cons_self ..), ha y (List.mem_cons_of_mem _ (List.mem_cons_self ..))] at h3
                omega
        · refine ⟨_, rfl, p, _, rfl, .inl ⟨SqL.of hpl, fun q hq => ?_⟩⟩
          exact k l q _ (work_of hl0 h2' h1) (b3'.trans (But.of (Same.new hq))) (T3'.same (Same.new hq)) (SqT.of upd_same)
      · refine iteF ?_
        refine ⟨_, rfl, p, _, rfl, .inl ⟨SqL.of hpl, fun q hq => ?_⟩⟩
        exact k l q _ (work_of hl0 h2' h1) (b3'.trans (But.of (Same.new hq))) (T3'.same (Same.new hq)) (SqT.of upd_same)
end
end Ab
set_option Elab.async false
set_option linter.all false
set_option maxRecDepth 100000
namespace Ab
open PySem L2
def Far (K : PySem.W.Frag) (a f : Addr) (ns : List Int) : Prop := a ≠ f ∨ ∀ H, SqL K H a (ns.map V.int)
theorem far_of {K : PySem.W.Frag} {H : Hp} {a f : Addr} {ns : List Int} (h : SqL K H a (ns.map V.int)) (hf : H f = none) : Far K a f ns := by
  rcases h with (h | ⟨o, h⟩) | h
  · exact .inl fun z => by rw [z, hf] at h; cases h
  · exact .inl fun z => by rw [z, hf] at h; cases h
  · exact .inr fun _ => .inr h
theorem Tape.wr {K : PySem.W.Frag} {H H' : Hp} {t a f : Addr} {ns : List Int} (T : Tape K H t a ns) (b : But f H H') (n : t ≠ f) (F : Far K a f ns) : Tape K H' t a ns := by
  obtain ⟨⟨p, q, h1, h2⟩, h3⟩ := T
  refine ⟨⟨p, q, h1, b t _ n h2⟩, ?_⟩
  rcases F with F | F
  · exact b.seqL F h3
  · exact F H'
theorem handIn_int {h : Int} {l : List Int} : handIn (.int h) l = true ↔ h ∈ l := by
  show (l.any (· == h)) = true ↔ _
  rw [List.any_eq_true]
  constructor
  · rintro ⟨x, hx, e⟩
    have : x = h := by simpa using e
    exact this ▸ hx
  · exact fun hx => ⟨h, hx, by simp⟩
theorem deal_of {ws : List (List Int)} {hs : List Int} (h1 : hs.length = ws.length) (h2 : ∀ (j : Nat) (h : Int) (l : List Int), hs[j]? = some h → ws[j]? = some l → h ∈ l) : dealP ws (dealD hs) = true := by
  show (decide ((hs.map PyData.int).length = ws.length) && ((hs.map PyData.int).zip ws).all fun p => handIn p.1 p.2) = true
  rw [List.length_map, decide_eq_true h1, Bool.true_and, List.all_eq_true]
  rintro ⟨d, l⟩ hm
  obtain ⟨j, hj⟩ := List.mem_iff_getElem?.mp hm
  rw [List.getElem?_zip_eq_some] at hj
  obtain ⟨hj1, hj2⟩ := hj
  have hj1 : (hs.map PyData.int)[j]? = some d := hj1
  have hj2 : ws[j]? = some l := hj2
  rw [List.getElem?_map] at hj1
  cases q : hs[j]? with
  | none => rw [q] at hj1; cases hj1
  | some h =>
    rw [q] at hj1
    obtain rfl : PyData.int h = d := Option.some.inj hj1
    exact handIn_int.mpr (h2 j h l q hj2)
theorem deal_parts {ws : List (List Int)} {hs : List Int} (h : dealP ws (dealD hs) = true) : hs.length = ws.length ∧ ∀ (j : Nat) (h : Int) (l : List Int), hs[j]? = some h → ws[j]? = some l → h ∈ l := by
  have h' : (decide ((hs.map PyData.int).length = ws.length) && ((hs.map PyData.int).zip ws).all fun p => handIn p.1 p.2) = true := h
  rw [List.length_map, Bool.and_eq_true, List.all_eq_true] at h'
  refine ⟨of_decide_eq_true h'.1, fun j h l hj hl => ?_⟩
  refine handIn_int.mp (h'.2 (.int h, l) (List.mem_of_getElem? (i := j) ?_))
  rw [List.getElem?_zip_eq_some]
  exact ⟨by rw [List.getElem?_map, hj]; rfl, hl⟩
theorem book_of {n : Int} {ws : List (List Int)} (h1 : 1 ≤ n) (h2 : n ≤ 6) (h3 : ws.length ≤ 12) (h4 : ∀ l ∈ ws, isWork n (workD l) = true) : isBook (bookD n ws) = true := by
  show (decide (1 ≤ n) && decide (n ≤ 6) && decide ((ws.map workD).length ≤ 12) && (ws.map workD).all (isWork n)) = true
  rw [decide_eq_true h1, decide_eq_true h2, List.length_map, decide_eq_true h3, Bool.true_and, Bool.true_and, Bool.true_and, List.all_eq_true]
  intro d hd
  obtain ⟨l, hl, rfl⟩ := List.mem_map.mp hd
  exact h4 l hl
section
variable {P : Program} {w : World} {K : PySem.W.Frag} {mg : Str → Option Value} {base : Heap}
theorem den_bookI {H : Hp} {n : Int} {ws : List (List Int)} {a b : Addr} {ys : List V} (h1 : SqT K H a [.int n, .ref b]) (h2 : SqT K H b ys) (h3 : DenAll K H (ws.map workD) ys) : Den K H (bookD n ws) (.ref a) :=
  den_tuple.mpr ⟨a, _, rfl, h1, denAll_cons.mpr ⟨_, _, rfl, den_int.mpr rfl, denAll_cons.mpr ⟨_, _, rfl, den_tuple.mpr ⟨b, ys, rfl, h2, h3⟩, denAll_nil.mpr rfl⟩⟩⟩
def spBook (K : PySem.W.Frag) : Sp := fun vs H Q _ => ∃ (t a : Addr) (ns : List Int), vs = [.ref t, .int 6, .int 12] ∧ Tape K H t a ns ∧ ∀ n ws p H', isBook (bookD n ws) = true → But t H H' → Tape K H' t a ns → Den K H' (bookD n ws) (.ref p) → Q (.ref p) H'
theorem scBook : FnScope ["tape", "hands", "works", "many", "kind", "found", "k", "sort"] ["tape", "hands", "works"] (defScope sBook) := ⟨rfl, rfl, rfl, by decide +kernel, rfl, by decide +kernel, by decide +kernel⟩
theorem ok_book {f fD fK : Addr} {fd fdD fdK : FuncData} (G : Fn K mg "_law_b_book" sBook ["tape", "hands", "works"] f fd) (B : Bl mg) (GD : Fn K mg "_law_b_digit" sDigit ["tape", "many"] fD fdD) (OD : FnOk P w K mg base CX0 2 fD fdD ["tape", "many"] (spDigit K))
    (GK : Fn K mg "_law_b_work" sWork ["tape", "hands", "kind"] fK fdK) (OK : FnOk P w K mg base CX0 3 fK fdK ["tape", "hands", "kind"] (spWork K)) : FnOk P w K mg base CX0 4 f fd ["tape", "hands", "works"] (spBook K) := by
  refine G.fn.ok scBook (fun vs H Q E h => ?_) (fun cdv A outer s H vs Q E hr h => ?_)
  · obtain ⟨t, a, ns, rfl, _⟩ := h
    rfl
  · obtain ⟨t, a, ns, rfl, hT, k⟩ := h
    have hr2 : Room 2 _ := hr.mono (by decide)
    refine ⟨_, pss_cons (ps_set (i := 3) scBook.nd rfl (Or.inl rfl) (pe_op op_add pe_int (pe_fn GD OD hr2 rfl (pa_cons (pv 0) (pa_cons (pv 1) pa_nil)))))
      (pss_cons (ps_set (i := 4) scBook.nd rfl (Or.inl rfl) (pe_fn GD OD hr2 rfl (pa_cons (pv 0) (pa_cons pe_int pa_nil))))
      (pss_cons (ps_set (i := 5) scBook.nd rfl (Or.inl rfl) (pe_lst pa_nil))
      (pss_cons (ps_for PassesOwn.never rfl (pi_range1 rfl B.range (pa_cons (pe_fn GD OD hr2 rfl (pa_cons (pv 0) (pa_cons (pe_op op_add (pv 2) pe_int) pa_nil))) pa_nil)) (pg_name (i := 6) scBook.nd rfl (Or.inl rfl))
        (pss_cons (ps_set (i := 7) scBook.nd rfl (Or.inl rfl) (pv 4))
        (pss_cons (ps_if (pt_cmpR op_gt (pv 4) pe_int (nomark _)) (pss_one (ps_set (i := 7) scBook.nd rfl (Or.inl rfl) (pe_fn GD OD hr2 rfl (pa_cons (pv 0) (pa_cons pe_int pa_nil))))) pss_nil)
        (pss_one (ps_expr (pe_bm PySem.F.plainAttrs_list PySem.F.slot_list_append PySem.F.type_list_append mt_append (pv 5) (pa_cons (pe_fn GK OK hr rfl (pa_cons (pv 0) (pa_cons (pv 3) (pa_cons (pv 7) pa_nil)))) pa_nil)))))))
      (pss_one (ps_ret (pe_tup (pa_cons (pv 3) (pa_cons (pe_callTy call_tuple_of rfl B.tuple b_tuple (pa_cons (pv 5) pa_nil)) pa_nil)))))))), ?_⟩
    refine ⟨_, rfl, _, rfl, t, a, ns, 6, rfl, hT, by decide, by decide, fun r H1 hr0 hr1 b1 T1 => ⟨_, _, rfl, rfl, ?_⟩⟩
    refine ⟨_, rfl, t, a, ns, 8, rfl, T1, by decide, by decide, fun kd H2 hk0 hk1 b2 T2 => ?_⟩
    refine ⟨size1 (Nat.zero_le _), fun fl hfl => ?_⟩
    have ntf : t ≠ fl := fun z => T2.ne hfl z.symm
    have F : Far K a fl ns := far_of T2.2 hfl
    have s3 := Same.new (o := .lst []) hfl
    have hfl0 : H fl = none := (b1.trans b2).free hfl (Ne.symm ntf)
    have T3 := T2.same s3
    have b03 := b1.trans (b2.trans (But.of s3))
    have hfl3 : upd H2 fl (.lst []) fl = some (.lst []) := upd_same
    generalize hH3 : upd H2 fl (.lst []) = H3 at T3 b03 hfl3 ⊢
    refine ⟨_, rfl, _, rfl, _, _, rfl, rfl, t, a, ns, 13, rfl, T3, by decide, by decide, fun m H4 hm0 hm1 b4 T4 => ?_⟩
    refine ⟨m, rfl, by omega, by omega, for_range (lo := 0) (n := m.toNat) (fun i σ H5 => ∃ (ws : List (List Int)) (xs : List V) (v v2 : Option V), σ = [some (.ref t), some (.int 6), some (.int 12), some (.int (1 + r)), some (.int kd), some (.ref fl), v, v2] ∧ ws.length = i ∧
      (∀ l ∈ ws, isWork (1 + r) (workD l) = true) ∧ H5 fl = some (.lst xs) ∧ DenAll K H5 (ws.map workD) xs ∧ But t H H5 ∧ Tape K H5 t a ns)
      ⟨[], [], none, none, rfl, rfl, fun _ h => (List.not_mem_nil h).elim, b4 fl _ (Ne.symm ntf) hfl3, denAll_nil.mpr rfl, b03.trans b4, T4⟩ ?_ ?_⟩
    · rintro i σ H5 hi ⟨ws, xs, v, v2, rfl, hl, hw, hx, hd, b5, T5⟩
      have hxl : xs.length = i := by rw [denAll_length hd, List.length_map, hl]
      refine ⟨_, rfl, ?_⟩
      refine ⟨_, rfl, _, _, rfl, rfl, _, rfl, ?_⟩
      refine ite2 (fun c1 => ?_) (fun c1 => ?_)
      · refine ⟨_, rfl, t, a, ns, 5, rfl, T5, by decide, by decide, fun r2 H6 hr20 hr21 b6 T6 => ?_⟩
        obtain ⟨⟨p5, q5, h5, ht5⟩, hs5⟩ := id T5
        have hx6 : H6 fl = some (.lst xs) := b6 fl _ (Ne.symm ntf) hx
        have hd6 := b6.denAll ht5 _ _ (noLists_map _ noList_work ws) hd
        refine ⟨_, rfl, .inl ⟨rfl, _, SqL.of hx6⟩, _, rfl, _, rfl, _, rfl, t, a, ns, 1 + r, r2, rfl, T6, by omega, by omega, fun l p H7 hwk b7 T7 hp7 => ?_⟩
        obtain ⟨⟨p6, q6, h6, ht6⟩, hs6⟩ := id T6
        have hx7 : H7 fl = some (.lst xs) := b7 fl _ (Ne.symm ntf) hx6
        have hd7 := b7.denAll ht6 _ _ (noLists_map _ noList_work ws) hd6
        refine ⟨fl, xs, .ref p, rfl, rfl, hx7, by rw [sizeLine_eq]; omega, ?_⟩
        have b8 : But fl H7 (upd H7 fl (.lst (xs ++ [.ref p]))) := But.at
        refine ⟨ws ++ [l], xs ++ [.ref p], _, _, rfl, by rw [List.length_append, hl]; rfl, fun l2 hl2 => ?_, upd_same, ?_, (fun b o nb hb => by rw [upd_ne (fun z => by rw [z, hfl0] at hb; cases hb)]; exact ((b5.trans b6).trans b7) b o nb hb), T7.wr b8 ntf F⟩
        · rcases List.mem_append.mp hl2 with h | h
          · exact hw l2 h
          · rw [List.mem_singleton.mp h]; exact hwk
        · rw [List.map_append]
          refine denAll_append (b8.denAll hx7 _ _ (noLists_map _ noList_work ws) hd7) (denAll_cons.mpr ⟨_, _, rfl, ?_, denAll_nil.mpr rfl⟩)
          exact den_tints.mpr ⟨p, rfl, b8.seqT hx7 hp7⟩
      · show _
        obtain ⟨⟨p5, q5, h5, ht5⟩, hs5⟩ := id T5
        have hx6 : H5 fl = some (.lst xs) := (But.refl t H5) fl _ (Ne.symm ntf) hx
        have hd6 := (But.refl t H5).denAll ht5 _ _ (noLists_map _ noList_work ws) hd
        refine ⟨_, rfl, .inl ⟨rfl, _, SqL.of hx6⟩, _, rfl, _, rfl, _, rfl, t, a, ns, 1 + r, kd, rfl, T5, by omega, by omega, fun l p H7 hwk b7 T7 hp7 => ?_⟩
        obtain ⟨⟨p6, q6, h6, ht6⟩, hs6⟩ := id T5
        have hx7 : H7 fl = some (.lst xs) := b7 fl _ (Ne.symm ntf) hx6
        have hd7 := b7.denAll ht6 _ _ (noLists_map _ noList_work ws) hd6
        refine ⟨fl, xs, .ref p, rfl, rfl, hx7, by rw [sizeLine_eq]; omega, ?_⟩
        have b8 : But fl H7 (upd H7 fl (.lst (xs ++ [.ref p]))) := But.at
        refine ⟨ws ++ [l], xs ++ [.ref p], _, _, rfl, by rw [List.length_append, hl]; rfl, fun l2 hl2 => ?_, upd_same, ?_, (fun b o nb hb => by rw [upd_ne (fun z => by rw [z, hfl0] at hb; cases hb)]; exact ((b5.trans (But.refl t H5)).trans b7) b o nb hb), T7.wr b8 ntf F⟩
        · rcases List.mem_append.mp hl2 with h | h
          · exact hw l2 h
          · rw [List.mem_singleton.mp h]; exact hwk
        · rw [List.map_append]
          refine denAll_append (b8.denAll hx7 _ _ (noLists_map _ noList_work ws) hd7) (denAll_cons.mpr ⟨_, _, rfl, ?_, denAll_nil.mpr rfl⟩)
          exact den_tints.mpr ⟨p, rfl, b8.seqT hx7 hp7⟩
    · rintro σ H5 ⟨ws, xs, v, v2, rfl, hl, hw, hx, hd, b5, T5⟩
      refine ⟨_, rfl, _, rfl, fl, _, rfl, .inl ⟨SqL.of hx, fun q hq => ⟨sz2 _ _, fun p hp => ?_⟩⟩⟩
      have sm := (Same.new (o := .tup xs) hq).trans (Same.new (o := .tup [.int (1 + r), .ref q]) hp)
      refine k (1 + r) ws p _ (book_of (by omega) (by omega) (by omega) hw) (b5.trans (But.of sm)) (T5.same sm) ?_
      refine den_bookI (SqT.of upd_same) ((Same.new hp).seqT (SqT.of upd_same)) (sm.denAll _ _ hd)

def spDeal (K : PySem.W.Frag) : Sp := fun vs H Q _ => ∃ (t a : Addr) (ns : List Int) (x : V) (n : Int) (ws : List (List Int)), vs = [.ref t, x] ∧ Tape K H t a ns ∧ Den K H (bookD n ws) x ∧ isBook (bookD n ws) = true ∧ ∀ hs p H', dealP ws (dealD hs) = true → But t H H' → Tape K H' t a ns → Den K H' (dealD hs) (.ref p) → Q (.ref p) H'
theorem scDeal : FnScope ["tape", "book"] ["tape", "book"] (defScope sDeal) := ⟨rfl, rfl, rfl, by decide +kernel, rfl, by decide +kernel, by decide +kernel⟩
theorem ok_deal {f fD : Addr} {fd fdD : FuncData} (G : Fn K mg "_law_b_deal" sDeal ["tape", "book"] f fd) (B : Bl mg) (GD : Fn K mg "_law_b_digit" sDigit ["tape", "many"] fD fdD) (OD : FnOk P w K mg base CX0 2 fD fdD ["tape", "many"] (spDigit K)) : FnOk P w K mg base CX0 3 f fd ["tape", "book"] (spDeal K) := by
  refine G.fn.ok scDeal (fun vs H Q E h => ?_) (fun cdv A outer s H vs Q E hr h => ?_)
  · obtain ⟨t, a, ns, x, n, ws, rfl, _⟩ := h
    rfl
  · obtain ⟨t, a, ns, x, n, ws, rfl, hT, hx, hb, k⟩ := h
    refine ⟨_, pss_one (ps_ret (pe_callTy call_tuple_of rfl B.tuple b_tuple (pa_cons
      (pe_comp (own := ["able"]) (fr := [0]) (frn := ["tape"]) (compOk_of (defScope sDeal) ["tape", "book"] rfl rfl (by decide +kernel)) rfl (pi_tup (pe_ix ix_tup (pv 1) pe_int (fun _ _ => rfl)))
        (fun _ _ _ _ => pg_name (i := 0) (show (["able", "tape"] : List Str).Nodup by decide +kernel) rfl (Or.inl rfl)) (fun _ _ _ _ => pf_nil)
        (fun _ _ _ _ => pe_ix (ix_tupK (K := K) rfl) (pv 0) (pe_fn GD OD hr rfl (pa_cons (pv 1) (pa_cons (pe_callB (call_len_seqK (K := K) rfl) rfl B.len b_len (pa_cons (pv 0) pa_nil)) pa_nil))) (fun _ _ => rfl))) pa_nil))), ?_⟩
    obtain ⟨hn1, hn6, h12, hws⟩ := book_parts hb
    obtain ⟨ba, bb, ys, rfl, ha, hb2, hys⟩ := den_book hx
    have hlw := denAll_length hys
    rw [List.length_map] at hlw
    refine ⟨_, rfl, ba, _, 1, .ref bb, rfl, rfl, ha, rfl, bb, rfl, ⟨_, hb2⟩, comp_tup (K := K) (a := bb) (xs := ys) (fun σ => ∃ v, σ = [v, some (.ref t)]) (fun i zs H3 => ∃ hs : List Int, zs = hs.map V.int ∧ hs.length = i ∧ (∀ (j : Nat) (h : Int) (l : List Int), hs[j]? = some h → ws[j]? = some l → h ∈ l) ∧ But t H H3 ∧ Tape K H3 t a ns)
      (size1 (by omega)) ⟨none, rfl⟩ ⟨[], rfl, rfl, fun j h l e => by simp at e, But.refl t H, hT⟩ ?_ ?_ ?_ ?_⟩
    · rintro i zs H3 ⟨hs, rfl, rfl, _⟩
      rw [List.length_map]
      exact Nat.le_refl _
    · rintro i zs H3 ⟨hs, rfl, rfl, _, b3, _⟩
      exact hT.seqT b3 hb2
    · rintro i zs σ x H3 hxi ⟨v, rfl⟩ ⟨hs, rfl, hl, hg, b3, T3⟩ hz
      obtain ⟨dx, hdx, hden⟩ := denAll_at hys hxi
      rw [List.getElem?_map] at hdx
      obtain ⟨l, hli, rfl⟩ : ∃ l, ws[i]? = some l ∧ workD l = dx := by
        cases q : ws[i]? with
        | none => rw [q] at hdx; cases hdx
        | some l => rw [q] at hdx; exact ⟨l, rfl, Option.some.inj hdx⟩
      obtain ⟨w1, w2, w3⟩ := work_parts (hws l (List.mem_of_getElem? hli))
      have hsh := work_short (by omega) w2 w3
      have hl1 : 0 < l.length := List.length_pos_iff.mpr w1
      obtain ⟨av, rfl, hav⟩ := den_tints.mp hden
      refine nameAll_go ?_
      refine ⟨_, rfl, _, rfl, _, rfl, av, _, rfl, .inr (hT.seqT b3 hav), t, a, ns, _, rfl, T3, ?_, ?_, fun r H4 hr0 hr1 b4 T4 => ?_⟩
      · rw [List.length_map]; omega
      · rw [List.length_map]; omega
      · rw [List.length_map] at hr1
        have hlt : r.toNat < l.length := by omega
        have hat : atI (l.map V.int) r = some (.int l[r.toNat]) := by
          have h1 : (l.map V.int)[r.toNat]? = some (.int (l[r.toNat])) := by rw [List.getElem?_map, List.getElem?_eq_getElem hlt]; rfl
          have h2 := atI_nat h1
          rwa [Int.toNat_of_nonneg hr0] at h2
        refine ⟨av, _, _, _, rfl, rfl, hT.seqT (b3.trans b4) hav, hat, hz, ⟨_, rfl⟩, hs ++ [l[r.toNat]], by simp, by rw [List.length_append, hl]; rfl, fun j h l2 e1 e2 => ?_, b3.trans b4, T4⟩
        by_cases hj : j < hs.length
        · rw [List.getElem?_append_left hj] at e1
          exact hg j h l2 e1 e2
        · rw [List.getElem?_append_right (by omega)] at e1
          have e3 : j - hs.length = 0 := by
            have := (List.getElem?_eq_some_iff.mp e1).1
            simp at this
            omega
          rw [e3] at e1
          have e4 : j = i := by omega
          rw [e4, hli] at e2
          obtain rfl := Option.some.inj e2
          have e5 : l[r.toNat] = h := by simpa using e1
          rw [← e5]
          exact List.getElem_mem hlt
    · rintro zs H3 ⟨hs, rfl, hl, hg, b3, T3⟩ p hp
      refine ⟨p, _, rfl, .inl ⟨SqL.of upd_same, fun q hq => ?_⟩⟩
      have sm := (Same.new (o := .lst (hs.map V.int)) hp).trans (Same.new (o := .tup (hs.map V.int)) hq)
      exact k hs q _ (deal_of (by omega) hg) (b3.trans (But.of sm)) (T3.same sm) (den_tints.mpr ⟨q, rfl, SqT.of upd_same⟩)
end
end Ab
set_option Elab.async false
set_option linter.all false
set_option maxRecDepth 100000
namespace Ab
open PySem L2
section
variable {P : Program} {w : World} {K : PySem.W.Frag} {mg : Str → Option Value} {base : Heap}
theorem Good.hand {H : Hp} {x y : V} {n : Int} {ws : List (List Int)} {hs : List Int} (g : Good K H x y n ws hs) {i : Nat} {h : Int} (e : hs[i]? = some h) : 0 ≤ h ∧ h < n := by
  obtain ⟨_, _, _, hw⟩ := book_parts g.2.1
  obtain ⟨hl, hd⟩ := deal_parts g.2.2.2
  have hi : i < ws.length := by rw [← hl]; exact (List.getElem?_eq_some_iff.mp e).1
  have hm := hd i h ws[i] e (List.getElem?_eq_getElem hi)
  exact (work_parts (hw _ (List.getElem_mem hi))).2.1 h hm
def spTwin (K : PySem.W.Frag) : Sp := fun vs H Q _ => ∃ (t a : Addr) (ns : List Int) (x y : V) (n : Int) (ws : List (List Int)) (hs : List Int), vs = [.ref t, x, y] ∧ Tape K H t a ns ∧ Good K H x y n ws hs ∧ ∀ p n' ws' H', But t H H' → Tape K H' t a ns → Good K H' (.ref p) y n' ws' hs → Q (.ref p) H'
theorem scTwin : FnScope ["tape", "book", "deal", "at", "able"] ["tape", "book", "deal"] (defScope sTwin) := ⟨rfl, rfl, rfl, by decide +kernel, rfl, by decide +kernel, by decide +kernel⟩
theorem ok_twin {f fD : Addr} {fd fdD : FuncData} (G : Fn K mg "_law_b_twin" sTwin ["tape", "book", "deal"] f fd) (B : Bl mg) (GD : Fn K mg "_law_b_digit" sDigit ["tape", "many"] fD fdD) (OD : FnOk P w K mg base CX0 2 fD fdD ["tape", "many"] (spDigit K)) : FnOk P w K mg base CX0 3 f fd ["tape", "book", "deal"] (spTwin K) := by
  refine G.fn.ok scTwin (fun vs H Q E h => ?_) (fun cdv A outer s H vs Q E hr h => ?_)
  · obtain ⟨t, a, ns, x, y, n, ws, hs, rfl, _⟩ := h
    rfl
  · obtain ⟨t, a, ns, x, y, n, ws, hs, rfl, hT, g, k⟩ := h
    refine ⟨_, pss_cons (ps_if (PW.pt (pw_or (pt_cmpR (op_eqD hr.u64) (pv 2) (pe_tup pa_nil) (nomark _)) (pw_or1 (PW.pt (pw_and (pt_cmpR op_lt (pe_ix ix_tup (pv 1) pe_int (fun _ _ => rfl)) pe_int (nomark _)) (pw_and1 (pt_cmpR op_eq (pe_fn GD OD hr rfl (pa_cons (pv 0) (pa_cons pe_int pa_nil))) pe_int (nomark _))))))))
        (pss_one (ps_ret (pe_tup (pa_cons (pe_op op_add pe_int (pe_op op_mod (pe_ix ix_tup (pv 1) pe_int (fun _ _ => rfl)) pe_int)) (pa_cons (pe_ix ix_tup (pv 1) pe_int (fun _ _ => rfl)) pa_nil))))) pss_nil)
      (pss_cons (ps_set (i := 3) scTwin.nd rfl (Or.inr rfl) (pe_fn GD OD hr rfl (pa_cons (pv 0) (pa_cons (pe_callB call_len_seq rfl B.len b_len (pa_cons (pv 2) pa_nil)) pa_nil))))
      (pss_cons (ps_set (i := 4) scTwin.nd rfl (Or.inl rfl) (pe_callTy call_tuple_of rfl B.tuple b_tuple (pa_cons
        (pe_comp (own := ["hand"]) (fr := [3, 2, 0]) (frn := ["at", "deal", "tape"]) (compOk_of (defScope sTwin) ["tape", "book", "deal", "at", "able"] rfl rfl (by decide +kernel)) rfl (pi_range1 rfl B.range (pa_cons (pe_ix ix_tup (pv 1) pe_int (fun _ _ => rfl)) pa_nil))
          (fun _ _ _ _ => pg_name (i := 0) (show (["hand", "at", "deal", "tape"] : List Str).Nodup by decide +kernel) rfl (Or.inl rfl))
          (fun _ _ _ _ => pf_one (PW.pt (pw_or (pt_cmpR op_eq (pv 0) (pe_ix (ix_tupK (K := K) rfl) (pv 2) (pv 1) (fun _ _ => rfl)) (nomark _)) (pw_or1 (pt_cmpR op_eq (pe_fn GD OD hr rfl (pa_cons (pv 3) (pa_cons pe_int pa_nil))) pe_int (nomark _))))))
          (fun _ _ _ _ => pv 0)) pa_nil)))
      (pss_one (ps_ret (pe_tup (pa_cons (pe_ix ix_tup (pv 1) pe_int (fun _ _ => rfl)) (pa_cons (pe_op op_cat2 (pe_op op_cat2 (pe_slice sl_tup2 (pe_ix ix_tup (pv 1) pe_int (fun _ _ => rfl)) po_none (po_some (pv 3))) (pe_tup (pa_cons (pv 4) pa_nil)))
        (pe_slice sl_tup2 (pe_ix ix_tup (pv 1) pe_int (fun _ _ => rfl)) (po_some (pe_op op_add (pv 3) pe_int)) po_none)) pa_nil))))))), ?_⟩
    obtain ⟨hl12, hn1, hn6⟩ := g.len
    obtain ⟨_, _, hw12, hws⟩ := book_parts g.2.1
    obtain ⟨hdl, hdg⟩ := deal_parts g.2.2.2
    obtain ⟨ba, bb, ys, rfl, ha, hb2, hys⟩ := den_book g.1
    obtain ⟨c, rfl, hc⟩ := den_tints.mp g.2.2.1
    have hlw := denAll_length hys
    rw [List.length_map] at hlw
    have grow : (hs = [] ∨ n < 6) → isBook (bookD (1 + n % 6) ws) = true := fun h => by
      rcases h with h | h
      · have e : ws = [] := by rw [h] at hdl; exact List.length_eq_zero_iff.mp hdl.symm
        rw [e]
        exact book_of (by omega) (by omega) (by simp) (fun l hl => (List.not_mem_nil hl).elim)
      · rw [show 1 + n % 6 = n + 1 by omega]
        refine book_of (by omega) (by omega) hw12 fun l hl => ?_
        obtain ⟨w1, w2, w3⟩ := work_parts (hws l hl)
        exact work_of w1 (fun x hx => by have := w2 x hx; omega) w3
    have facts : ∀ H2, But t H H2 → SqT K H2 ba [.int n, .ref bb] ∧ SqT K H2 bb ys ∧ DenAll K H2 (ws.map workD) ys ∧ SqT K H2 c (hs.map V.int) := fun H2 b => by
      refine ⟨hT.seqT b ha, hT.seqT b hb2, ?_, hT.seqT b hc⟩
      obtain ⟨⟨p, q, _, ht⟩, _⟩ := hT
      exact b.denAll ht _ _ (noLists_map _ noList_work ws) hys
    refine ⟨_, rfl, size1 (Nat.zero_le _), fun z hz => ?_⟩
    have s1 := Same.new (o := .tup []) hz
    have b1 : But t H (upd H z (.tup [])) := But.of s1
    have T1 := hT.same s1
    refine ⟨.tuple (hs.map .int), .tuple (([] : List Int).map .int), den_tints.mpr ⟨c, rfl, s1.seqT hc⟩, den_tints.mpr ⟨z, rfl, SqT.of upd_same⟩, noDict_tints _, noDict_tints _, shaped_tints _, shaped_tints _, _, rfl, ?_⟩
    rw [eqv_tints]
    generalize upd H z (.tup []) = H1 at b1 T1 ⊢
    have S1 := facts H1 b1
    refine ite2 (fun c1 => ?_) (fun c1 => ?_)
    · have hc1 : hs = [] ∨ n < 6 := .inl (of_decide_eq_true c1)
      refine iteT ?_
      refine ⟨_, rfl, ba, _, 0, .int n, rfl, rfl, S1.1, rfl, _, _, rfl, rfl, (show (0 : Int) < 6 by decide), _, _, rfl, rfl, _, rfl, ba, _, 1, .ref bb, rfl, rfl, S1.1, rfl, sz2 _ _, fun p hp => ?_⟩
      have sp := Same.new (o := .tup [V.int (1 + n % 6), .ref bb]) hp
      refine k p (1 + n % 6) ws _ (b1.trans (But.of sp)) (T1.same sp) ⟨den_bookI (SqT.of upd_same) (sp.seqT S1.2.1) (sp.denAll _ _ S1.2.2.1), grow hc1, sp.den _ _ (den_tints.mpr ⟨c, rfl, S1.2.2.2⟩), g.2.2.2⟩
    · have hne : hs ≠ [] := fun z => c1 (decide_eq_true z)
      have hpos : 0 < hs.length := List.length_pos_iff.mpr hne
      refine ⟨_, rfl, ba, _, 0, .int n, rfl, rfl, S1.1, rfl, _, _, rfl, rfl, _, rfl, ?_⟩
      refine ite2 (fun c2 => ?_) (fun c2 => ?_)
      · refine ⟨_, rfl, t, a, ns, 3, rfl, T1, by decide, by decide, fun r H2 hr0 hr1 b2' T2 => ⟨rfl, _, rfl, ?_⟩⟩
        have b2 := b1.trans b2'
        have S2 := facts H2 b2
        refine ite2 (fun c3 => ?_) (fun c3 => ?_)
        · have hc1 : hs = [] ∨ n < 6 := .inr (of_decide_eq_true c2)
          refine ⟨_, rfl, ba, _, 0, .int n, rfl, rfl, S2.1, rfl, _, _, rfl, rfl, (show (0 : Int) < 6 by decide), _, _, rfl, rfl, _, rfl, ba, _, 1, .ref bb, rfl, rfl, S2.1, rfl, sz2 _ _, fun p hp => ?_⟩
          have sp := Same.new (o := .tup [V.int (1 + n % 6), .ref bb]) hp
          refine k p (1 + n % 6) ws _ (b2.trans (But.of sp)) (T2.same sp) ⟨den_bookI (SqT.of upd_same) (sp.seqT S2.2.1) (sp.denAll _ _ S2.2.2.1), grow hc1, sp.den _ _ (den_tints.mpr ⟨c, rfl, S2.2.2.2⟩), g.2.2.2⟩
        · show _
          refine ⟨_, rfl, _, rfl, c, _, rfl, .inr S2.2.2.2, t, a, ns, _, rfl, T2, by rw [List.length_map]; omega, by rw [List.length_map]; omega, fun r3 H3 h30 h31 b3' T3 => ?_⟩
          rw [List.length_map] at h31
          have b3 := b2.trans b3'
          have S3 := facts H3 b3
          obtain ⟨m, rfl⟩ : ∃ m : Nat, r3 = m := ⟨r3.toNat, by omega⟩
          have hm : m < hs.length := by omega
          have hmw : m < ws.length := by omega
          have hh := List.getElem?_eq_getElem hm
          generalize hs[m] = h at hh
          have hhb := g.hand hh
          have hat : atI (hs.map V.int) (m : Int) = some (.int h) := atI_nat (by rw [List.getElem?_map, hh]; rfl)
          refine ⟨_, rfl, ba, _, 0, .int n, rfl, rfl, S3.1, rfl, n, rfl, by omega, by omega, comp_range (lo := 0) (n := n.toNat) (fun σ => ∃ v, σ = [v, some (.int (m : Int)), some (.ref c), some (.ref t)])
            (fun i ys H4 => ∃ l : List Int, ys = l.map V.int ∧ l.Pairwise (· < ·) ∧ (∀ x ∈ l, 0 ≤ x ∧ x < i) ∧ (h < i → h ∈ l) ∧ But t H H4 ∧ Tape K H4 t a ns) (size1 (by omega)) ⟨none, rfl⟩
            ⟨[], rfl, .nil, fun _ h => (List.not_mem_nil h).elim, fun z => by omega, b3, T3⟩ ?_ ?_ ?_⟩
          · rintro i ys H4 ⟨l, rfl, h1, h2, _⟩
            rw [List.length_map]
            have := work_short (n := (i : Int)) (by omega) h2 h1
            omega
          · rintro i ys σ H4 hi ⟨v, rfl⟩ ⟨l, rfl, h1, h2, h3, b4, T4⟩ hz
            have S4 := facts H4 b4
            have hnext : (l ++ [(i : Int)]).Pairwise (· < ·) ∧ ∀ x ∈ l ++ [(i : Int)], 0 ≤ x ∧ x < ((i + 1 : Nat) : Int) := by
              refine ⟨List.pairwise_append.mpr ⟨h1, by simp, fun x hx y hy => ?_⟩, fun x hx => ?_⟩
              · rw [List.mem_singleton] at hy
                have := (h2 x hx).2
                omega
              · rcases List.mem_append.mp hx with hx | hx
                · have := h2 x hx
                  omega
                · rw [List.mem_singleton] at hx
                  omega
            refine ⟨_, rfl, _, rfl, _, rfl, c, _, _, _, rfl, rfl, S4.2.2.2, hat, rfl, _, rfl, ?_⟩
            have hin : h < ((i + 1 : Nat) : Int) → h ∈ l ++ [(i : Int)] := fun z => by
              by_cases e : h < i
              · exact List.mem_append_left _ (h3 e)
              · exact List.mem_append_right _ (by rw [List.mem_singleton]; omega)
            refine ite2 (fun c4 => ?_) (fun c4 => ?_)
            · refine iteT ?_
              exact ⟨_, rfl, hz, ⟨_, rfl⟩, l ++ [(i : Int)], by simp, hnext.1, hnext.2, hin, b4, T4⟩
            · have c4' : ¬ (i : Int) = h := fun z => c4 (by simp [z])
              refine ⟨_, rfl, t, a, ns, 2, rfl, T4, by decide, by decide, fun r5 H5 hr50 hr51 b5 T5 => ⟨rfl, _, rfl, ?_⟩⟩
              refine ite2 (fun c5 => ?_) (fun c5 => ?_)
              · exact ⟨_, rfl, hz, ⟨_, rfl⟩, l ++ [(i : Int)], by simp, hnext.1, hnext.2, hin, b4.trans b5, T5⟩
              · refine ⟨⟨_, rfl⟩, l, rfl, h1, fun x hx => ?_, fun z => h3 (by omega), b4.trans b5, T5⟩
                have := h2 x hx
                omega
          · rintro zs H4 ⟨l, rfl, h1, h2, h3, b4, T4⟩ p hp
            have hin : h ∈ l := h3 (by omega)
            have hgood : isWork n (workD l) = true := work_of (fun z => by rw [z] at hin; cases hin) (fun x hx => by have := h2 x hx; omega) h1
            refine ⟨p, _, rfl, .inl ⟨SqL.of upd_same, fun q hq => ?_⟩⟩
            have s5 := (Same.new (o := .lst (l.map V.int)) hp).trans (Same.new (o := .tup (l.map V.int)) hq)
            have b5 := b4.trans (But.of s5)
            have T5 := T4.same s5
            have hql : SqT K (upd (upd H4 p (.lst (l.map V.int))) q (.tup (l.map V.int))) q (l.map V.int) := SqT.of upd_same
            generalize upd (upd H4 p (.lst (l.map V.int))) q (.tup (l.map V.int)) = H5 at s5 b5 T5 hql ⊢
            have S5 := facts H5 b5
            refine ⟨_, rfl, ba, _, 0, .int n, rfl, rfl, S5.1, rfl, _, rfl, ba, _, 1, .ref bb, rfl, rfl, S5.1, rfl, _, rfl, _, rfl, bb, ys, rfl, S5.2.1, fun p1 H6 s6 hp1 => ?_⟩
            rw [cutV_to] at hp1
            refine ⟨_, rfl, sz1 _, fun p2 hp2 => ⟨p1, p2, _, _, rfl, rfl, (Same.new hp2).seqT hp1, SqT.of upd_same, ?_, fun p3 H8 s8 hp3 => ?_⟩⟩
            · rw [List.length_take, sizeLine_eq]; simp; omega
            have s68 := s6.trans ((Same.new (o := .tup [V.ref q]) hp2).trans s8)
            refine ⟨_, rfl, ba, _, 1, .ref bb, rfl, rfl, s68.seqT S5.1, rfl, _, rfl, _, _, rfl, rfl, _, rfl, bb, ys, rfl, s68.seqT S5.2.1, fun p4 H9 s9 hp4 => ?_⟩
            have hp4' : SqT K H9 p4 (ys.drop (m + 1)) := by
              have e := cutV_from ys (m + 1)
              rw [← e]
              exact hp4
            refine ⟨p3, p4, _, _, rfl, rfl, s9.seqT hp3, hp4', ?_, fun p5 H10 s10 hp5 => ⟨sz2 _ _, fun p6 hp6 => ?_⟩⟩
            · rw [List.length_append, List.length_take, List.length_drop, sizeLine_eq]; simp; omega
            have s6f := s68.trans (s9.trans (s10.trans (Same.new (o := .tup [V.int n, .ref p5]) hp6)))
            have bf := b5.trans (But.of s6f)
            have Sf := facts _ bf
            have ews : ws.take m ++ [l] ++ ws.drop (m + 1) = ws.set m l := by
              rw [List.set_eq_take_append_cons_drop, if_pos hmw]; simp
            refine k p6 n (ws.set m l) _ bf (T5.same s6f) ⟨den_bookI (SqT.of upd_same) ((Same.new hp6).seqT hp5) ?_, book_of hn1 hn6 (by rw [List.length_set]; exact hw12) (fun l2 hl2 => ?_), den_tints.mpr ⟨c, rfl, Sf.2.2.2⟩, deal_of (by rw [List.length_set]; exact hdl) (fun j h2 l2 e1 e2 => ?_)⟩
            · rw [← ews, List.map_append, List.map_append, List.map_take, List.map_drop]
              exact denAll_append (denAll_append (denAll_take m Sf.2.2.1) (denAll_cons.mpr ⟨_, _, rfl, den_tints.mpr ⟨q, rfl, s6f.seqT hql⟩, denAll_nil.mpr rfl⟩)) (denAll_drop (m + 1) Sf.2.2.1)
            · rcases List.mem_or_eq_of_mem_set hl2 with h | h
              · exact hws l2 h
              · rw [h]; exact hgood
            · rw [List.getElem?_set] at e2
              by_cases hj : m = j
              · rw [if_pos hj, if_pos (by omega)] at e2
                obtain rfl := Option.some.inj e2
                rw [← hj, hh] at e1
                obtain rfl := Option.some.inj e1
                exact hin
              · rw [if_neg hj] at e2
                exact hdg j h2 l2 e1 e2
      · refine iteF ?_
        have S2 := S1
        have b2 := b1
        have T2 := T1
        refine ⟨_, rfl, _, rfl, c, _, rfl, .inr S2.2.2.2, t, a, ns, _, rfl, T2, by rw [List.length_map]; omega, by rw [List.length_map]; omega, fun r3 H3 h30 h31 b3' T3 => ?_⟩
        rw [List.length_map] at h31
        have b3 := b2.trans b3'
        have S3 := facts H3 b3
        obtain ⟨m, rfl⟩ : ∃ m : Nat, r3 = m := ⟨r3.toNat, by omega⟩
        have hm : m < hs.length := by omega
        have hmw : m < ws.length := by omega
        have hh := List.getElem?_eq_getElem hm
        generalize hs[m] = h at hh
        have hhb := g.hand hh
        have hat : atI (hs.map V.int) (m : Int) = some (.int h) := atI_nat (by rw [List.getElem?_map, hh]; rfl)
        refine ⟨_, rfl, ba, _, 0, .int n, rfl, rfl, S3.1, rfl, n, rfl, by omega, by omega, comp_range (lo := 0) (n := n.toNat) (fun σ => ∃ v, σ = [v, some (.int (m : Int)), some (.ref c), some (.ref t)])
          (fun i ys H4 => ∃ l : List Int, ys = l.map V.int ∧ l.Pairwise (· < ·) ∧ (∀ x ∈ l, 0 ≤ x ∧ x < i) ∧ (h < i → h ∈ l) ∧ But t H H4 ∧ Tape K H4 t a ns) (size1 (by omega)) ⟨none, rfl⟩
          ⟨[], rfl, .nil, fun _ h => (List.not_mem_nil h).elim, fun z => by omega, b3, T3⟩ ?_ ?_ ?_⟩
        · rintro i ys H4 ⟨l, rfl, h1, h2, _⟩
          rw [List.length_map]
          have := work_short (n := (i : Int)) (by omega) h2 h1
          omega
        · rintro i ys σ H4 hi ⟨v, rfl⟩ ⟨l, rfl, h1, h2, h3, b4, T4⟩ hz
          have S4 := facts H4 b4
          have hnext : (l ++ [(i : Int)]).Pairwise (· < ·) ∧ ∀ x ∈ l ++ [(i : Int)], 0 ≤ x ∧ x < ((i + 1 : Nat) : Int) := by
            refine ⟨List.pairwise_append.mpr ⟨h1, by simp, fun x hx y hy => ?_⟩, fun x hx => ?_⟩
            · rw [List.mem_singleton] at hy
              have := (h2 x hx).2
              omega
            · rcases List.mem_append.mp hx with hx | hx
              · have := h2 x hx
                omega
              · rw [List.mem_singleton] at hx
                omega
          refine ⟨_, rfl, _, rfl, _, rfl, c, _, _, _, rfl, rfl, S4.2.2.2, hat, rfl, _, rfl, ?_⟩
          have hin : h < ((i + 1 : Nat) : Int) → h ∈ l ++ [(i : Int)] := fun z => by
            by_cases e : h < i
            · exact List.mem_append_left _ (h3 e)
            · exact List.mem_append_right _ (by rw [List.mem_singleton]; omega)
          refine ite2 (fun c4 => ?_) (fun c4 => ?_)
          · refine iteT ?_
            exact ⟨_, rfl, hz, ⟨_, rfl⟩, l ++ [(i : Int)], by simp, hnext.1, hnext.2, hin, b4, T4⟩
          · have c4' : ¬ (i : Int) = h := fun z => c4 (by simp [z])
            refine ⟨_, rfl, t, a, ns, 2, rfl, T4, by decide, by decide, fun r5 H5 hr50 hr51 b5 T5 => ⟨rfl, _, rfl, ?_⟩⟩
            refine ite2 (fun c5 => ?_) (fun c5 => ?_)
            · exact ⟨_, rfl, hz, ⟨_, rfl⟩, l ++ [(i : Int)], by simp, hnext.1, hnext.2, hin, b4.trans b5, T5⟩
            · refine ⟨⟨_, rfl⟩, l, rfl, h1, fun x hx => ?_, fun z => h3 (by omega), b4.trans b5, T5⟩
              have := h2 x hx
              omega
        · rintro zs H4 ⟨l, rfl, h1, h2, h3, b4, T4⟩ p hp
          have hin : h ∈ l := h3 (by omega)
          have hgood : isWork n (workD l) = true := work_of (fun z => by rw [z] at hin; cases hin) (fun x hx => by have := h2 x hx; omega) h1
          refine ⟨p, _, rfl, .inl ⟨SqL.of upd_same, fun q hq => ?_⟩⟩
          have s5 := (Same.new (o := .lst (l.map V.int)) hp).trans (Same.new (o := .tup (l.map V.int)) hq)
          have b5 := b4.trans (But.of s5)
          have T5 := T4.same s5
          have hql : SqT K (upd (upd H4 p (.lst (l.map V.int))) q (.tup (l.map V.int))) q (l.map V.int) := SqT.of upd_same
          generalize upd (upd H4 p (.lst (l.map V.int))) q (.tup (l.map V.int)) = H5 at s5 b5 T5 hql ⊢
          have S5 := facts H5 b5
          refine ⟨_, rfl, ba, _, 0, .int n, rfl, rfl, S5.1, rfl, _, rfl, ba, _, 1, .ref bb, rfl, rfl, S5.1, rfl, _, rfl, _, rfl, bb, ys, rfl, S5.2.1, fun p1 H6 s6 hp1 => ?_⟩
          rw [cutV_to] at hp1
          refine ⟨_, rfl, sz1 _, fun p2 hp2 => ⟨p1, p2, _, _, rfl, rfl, (Same.new hp2).seqT hp1, SqT.of upd_same, ?_, fun p3 H8 s8 hp3 => ?_⟩⟩
          · rw [List.length_take, sizeLine_eq]; simp; omega
          have s68 := s6.trans ((Same.new (o := .tup [V.ref q]) hp2).trans s8)
          refine ⟨_, rfl, ba, _, 1, .ref bb, rfl, rfl, s68.seqT S5.1, rfl, _, rfl, _, _, rfl, rfl, _, rfl, bb, ys, rfl, s68.seqT S5.2.1, fun p4 H9 s9 hp4 => ?_⟩
          have hp4' : SqT K H9 p4 (ys.drop (m + 1)) := by
            have e := cutV_from ys (m + 1)
            rw [← e]
            exact hp4
          refine ⟨p3, p4, _, _, rfl, rfl, s9.seqT hp3, hp4', ?_, fun p5 H10 s10 hp5 => ⟨sz2 _ _, fun p6 hp6 => ?_⟩⟩
          · rw [List.length_append, List.length_take, List.length_drop, sizeLine_eq]; simp; omega
          have s6f := s68.trans (s9.trans (s10.trans (Same.new (o := .tup [V.int n, .ref p5]) hp6)))
          have bf := b5.trans (But.of s6f)
          have Sf := facts _ bf
          have ews : ws.take m ++ [l] ++ ws.drop (m + 1) = ws.set m l := by
            rw [List.set_eq_take_append_cons_drop, if_pos hmw]; simp
          refine k p6 n (ws.set m l) _ bf (T5.same s6f) ⟨den_bookI (SqT.of upd_same) ((Same.new hp6).seqT hp5) ?_, book_of hn1 hn6 (by rw [List.length_set]; exact hw12) (fun l2 hl2 => ?_), den_tints.mpr ⟨c, rfl, Sf.2.2.2⟩, deal_of (by rw [List.length_set]; exact hdl) (fun j h2 l2 e1 e2 => ?_)⟩
          · rw [← ews, List.map_append, List.map_append, List.map_take, List.map_drop]
            exact denAll_append (denAll_append (denAll_take m Sf.2.2.1) (denAll_cons.mpr ⟨_, _, rfl, den_tints.mpr ⟨q, rfl, s6f.seqT hql⟩, denAll_nil.mpr rfl⟩)) (denAll_drop (m + 1) Sf.2.2.1)
          · rcases List.mem_or_eq_of_mem_set hl2 with h | h
            · exact hws l2 h
            · rw [h]; exact hgood
          · rw [List.getElem?_set] at e2
            by_cases hj : m = j
            · rw [if_pos hj, if_pos (by omega)] at e2
              obtain rfl := Option.some.inj e2
              rw [← hj, hh] at e1
              obtain rfl := Option.some.inj e1
              exact hin
            · rw [if_neg hj] at e2
              exact hdg j h2 l2 e1 e2
end
end Ab
set_option Elab.async false
set_option linter.all false
set_option maxRecDepth 100000
namespace Ab
open PySem L2
def stepB (ws : List (List Int)) (hs : List Int) : List Int → Bool
  | [k, g, t] => decide (0 ≤ k) && (decide (k < hs.length) && (hs[k.toNat]? == some g && (!decide (t = g) && decide (t ∈ ws.getD k.toNat []))))
  | _ => false
def fromOf (st : List Int) : Int := st.getD 1 0
def toOf (st : List Int) : Int := st.getD 2 0
def passedL : List (List Int) → List Int
  | [] => []
  | s :: r => fromOf s :: (s :: r).map toOf
def followB (L : List (List Int)) : Bool := (L.zip (passedL L)).all fun p => fromOf p.1 == p.2
def wayB (ws : List (List Int)) (hs : List Int) (L : List (List Int)) : Bool := !L.isEmpty && (L.all (stepB ws hs) && (followB L && decide ((passedL L).Nodup)))
theorem stepB_len {ws : List (List Int)} {hs : List Int} {st : List Int} (h : stepB ws hs st = true) : ∃ k g t, st = [k, g, t] := by
  match st, h with
  | [k, g, t], _ => exact ⟨k, g, t, rfl⟩
theorem stepB_not {ws : List (List Int)} {hs : List Int} {st : List Int} (h : st.length ≠ 3) : stepB ws hs st = false := by
  match st, h with
  | [], _ => rfl
  | [_], _ => rfl
  | [_, _], _ => rfl
  | [_, _, _], h => exact absurd rfl h
  | _ :: _ :: _ :: _ :: _, _ => rfl
theorem len3 {st : List Int} (h : st.length = 3) : ∃ k g t, st = [k, g, t] := by
  match st, h with
  | [k, g, t], _ => exact ⟨k, g, t, rfl⟩
section
variable {P : Program} {w : World} {K : PySem.W.Frag} {mg : Str → Option Value} {base : Heap}
theorem denAll_nth {H : Hp} {ws : List (List Int)} {ys : List V} (h : DenAll K H (ws.map workD) ys) {i : Nat} {l : List Int} (e : ws[i]? = some l) : ∃ c, ys[i]? = some (.ref c) ∧ SqT K H c (l.map V.int) := by
  have hl := denAll_length h
  rw [List.length_map] at hl
  have hi : i < ys.length := by rw [hl]; exact (List.getElem?_eq_some_iff.mp e).1
  obtain ⟨d, e1, e2⟩ := denAll_at h (List.getElem?_eq_getElem hi)
  rw [List.getElem?_map, e] at e1
  obtain rfl := (Option.some.inj e1).symm
  obtain ⟨c, e3, e4⟩ := den_tints.mp e2
  exact ⟨c, by rw [List.getElem?_eq_getElem hi, e3], e4⟩
theorem atI_ints {l : List Int} {k : Int} {x : Int} (h0 : 0 ≤ k) (h : l[k.toNat]? = some x) : atI (l.map V.int) k = some (.int x) := by
  have h1 : (l.map V.int)[k.toNat]? = some (.int x) := by rw [List.getElem?_map, h]; rfl
  have h2 := atI_nat h1
  rwa [Int.toNat_of_nonneg h0] at h2
theorem atI_vs {l : List V} {k : Int} {x : V} (h0 : 0 ≤ k) (h : l[k.toNat]? = some x) : atI l k = some x := by
  have h2 := atI_nat h
  rwa [Int.toNat_of_nonneg h0] at h2
variable {fW fH fK fB fNB fD fND fL : Addr} {dW dH dK dB dNB dD dND dL : FuncData}
def spStep (K : PySem.W.Frag) : Sp := fun vs H Q _ => ∃ x y b n ws hs l, vs = [x, y, .ref b] ∧ Good K H x y n ws hs ∧ SqT K H b (l.map V.int) ∧ l.length ≤ 1000 ∧ ∀ H', Same H H' → Q (.bl (stepB ws hs l)) H'
theorem scStep : FnScope ["book", "deal", "step", "work", "giver", "taker"] ["book", "deal", "step"] (defScope sStep) := ⟨rfl, rfl, rfl, by decide +kernel, rfl, by decide +kernel, by decide +kernel⟩
theorem step_val {ws : List (List Int)} {hs : List Int} {k g t : Int} {h : Int} {l : List Int} (k0 : 0 ≤ k) (k1 : k < hs.length) (eh : hs[k.toNat]? = some h) (el : ws[k.toNat]? = some l) : stepB ws hs [k, g, t] = (decide (V.int h = V.int g) && (!decide (V.int t = V.int g) && l.any (· == t))) := by
  show (decide (0 ≤ k) && (decide (k < hs.length) && (hs[k.toNat]? == some g && (!decide (t = g) && decide (t ∈ ws.getD k.toNat []))))) = _
  rw [decide_eq_true k0, decide_eq_true k1, eh]
  have e1 : ws.getD k.toNat [] = l := by rw [List.getD_eq_getElem?_getD, el]; rfl
  rw [e1]
  have e2 : (some h == some g) = decide (V.int h = V.int g) := by
    by_cases z : h = g
    · subst z; simp
    · rw [decide_eq_false (fun q => z (V.int.inj q))]; simpa using z
  have e3 : decide (t = g) = decide (V.int t = V.int g) := by
    by_cases z : t = g
    · subst z; simp
    · rw [decide_eq_false z, decide_eq_false (fun q => z (V.int.inj q))]
  have e4 : decide (t ∈ l) = l.any (· == t) := by
    rw [Bool.eq_iff_iff, decide_eq_true_iff, List.any_eq_true]
    constructor
    · intro h; exact ⟨t, h, by simp⟩
    · rintro ⟨y, hy, e⟩; have : y = t := by simpa using e
      rw [← this]; exact hy
  rw [e2, e3, e4]
  rfl
theorem ok_step {f : Addr} {fd : FuncData} (G : Fn K mg "is_step" sStep ["book", "deal", "step"] f fd) (B : Bl mg) (R : Pr K mg fW fH fK fB fNB fD fND fL dW dH dK dB dNB dD dND dL) : FnOk P w K mg base CX0 2 f fd ["book", "deal", "step"] (spStep K) := by
  have OW : FnOk P w K mg base CX0 1 fW dW ["thing"] (spWhole K) := ok_whole R.W B
  refine G.fn.ok scStep (fun vs H Q E h => ?_) (fun cdv A outer s H vs Q E hr h => ?_)
  · obtain ⟨x, y, b, n, ws, hs, l, rfl, _⟩ := h
    rfl
  · obtain ⟨x, y, b, n, ws, hs, l, rfl, g, hb, hl, k⟩ := h
    have r1 : Room 1 _ := hr
    refine ⟨_, (pss_cons (ps_if (PW.pt (pw_or (pt_not (pt_val (pe_callB call_isi_tuple rfl B.isinstance b_isi (pa_cons (pv 2) (pa_cons (pe_bltn (v := .ty "tuple") rfl B.tuple b_tuple rfl) pa_nil))))) (pw_or1 (pt_cmpR op_ne (pe_callB call_len_seq rfl B.len b_len (pa_cons (pv 2) pa_nil)) pe_int (nomark _)))))
      (pss_one (ps_ret pe_bl))
      pss_nil)
    (pss_cons (ps_if (pt_not (pt_val (pe_callB (call_all rfl) rfl B.all b_all (pa_cons (pe_comp (own := ["part"]) (fr := []) (frn := []) (compOk_of (defScope sStep) ["book", "deal", "step", "work", "giver", "taker"] rfl rfl (by decide +kernel)) rfl (pi_tup (pv 2))
        (fun _ _ _ _ => (pg_name (i := 0) (show (["part"] : List Str).Nodup by decide +kernel) rfl (Or.inl rfl))) (fun _ _ _ _ => pf_nil)
        (fun _ _ _ _ => (pe_fn R.W OW r1 rfl (pa_cons (pv 0) pa_nil)))) pa_nil))))
      (pss_one (ps_ret pe_bl))
      pss_nil)
    (pss_cons (ps_asg (pv 2) (pg_tup rfl (pgs_cons (pg_name (i := 3) scStep.nd rfl (Or.inl rfl)) (pgs_cons (pg_name (i := 4) scStep.nd rfl (Or.inl rfl)) (pgs_cons (pg_name (i := 5) scStep.nd rfl (Or.inl rfl)) pgs_nil)))))
    (pss_cons (ps_if (pt_not (pt_chain op_le op_lt pe_int (pv 3) (pe_callB call_len_seq rfl B.len b_len (pa_cons (pv 1) pa_nil))))
      (pss_one (ps_ret pe_bl))
      pss_nil)
    (pss_one (ps_ret (pe_and (pe_cmpR op_eq (pe_ix ix_tup (pv 1) (pv 3) (fun _ _ => rfl)) (pv 4) (nomark _)) (pe_and (pe_cmpR op_ne (pv 5) (pv 4) (nomark _)) (pe_one (pe_cmpR op_in_seq (pv 5) (pe_ix ix_tup (pe_ix ix_tup (pv 0) pe_int (fun _ _ => rfl)) (pv 3) (fun _ _ => rfl)) (by with_unfolding_all rfl))))))))))), ?_⟩
    refine ⟨_, rfl, .ref b, .tup, rfl, .inr (.inl ⟨rfl, _, hb⟩), true, rfl, ?_⟩
    refine iteF ?_
    refine ⟨_, rfl, b, _, rfl, .inr hb, rfl, _, rfl, ?_⟩
    refine ite2 (fun c => ?_) (fun c => ?_)
    · have hne : l.length ≠ 3 := fun z => by rw [List.length_map, z] at c; simp at c
      rw [stepB_not hne] at k
      exact k H (Same.refl H)
    have h3 : l.length = 3 := by
      have : V.int ((l.map V.int).length : Nat) = V.int 3 := by simpa using c
      have := V.int.inj this
      rw [List.length_map] at this
      omega
    obtain ⟨wk, gv, tk, rfl⟩ := len3 h3
    refine ⟨_, rfl, b, rfl, ⟨_, hb⟩, comp_tup (K := K) (a := b) (xs := [V.int wk, V.int gv, V.int tk]) (fun σ => σ.length = 1) (fun i ys H' => ys = (List.replicate i true).map V.bl ∧ Same H H') (size1 (show 3 ≤ 1000 by decide)) rfl ⟨rfl, Same.refl H⟩ (fun i ys H' p => by rw [p.1]; simp) (fun i ys H' p => p.2.seqT hb) (fun i ys σ x H' hx hσ p hz => ?_) (fun ys H' p => ?_)⟩
    · obtain ⟨v, rfl⟩ : ∃ v, σ = [v] := by match σ, hσ with | [v], _ => exact ⟨v, rfl⟩
      obtain ⟨q1, q2⟩ := p
      obtain ⟨m, rfl⟩ : ∃ m, x = .int m := by
        have hm := List.mem_of_getElem? hx
        simp only [List.mem_cons, List.not_mem_nil, or_false] at hm
        rcases hm with rfl | rfl | rfl
        · exact ⟨_, rfl⟩
        · exact ⟨_, rfl⟩
        · exact ⟨_, rfl⟩
      refine nameAll_go ?_
      refine ⟨_, rfl, .int m, .int m, rfl, den_int.mpr rfl, hz, rfl, ?_, q2⟩
      rw [q1, List.replicate_succ', List.map_append]
      rfl
    · obtain ⟨rfl, s1⟩ := p
      intro p hp
      have s2 := Same.new (o := .lst ((List.replicate [V.int wk, V.int gv, V.int tk].length true).map V.bl)) hp
      refine ⟨p, List.replicate 3 true, rfl, SqL.of upd_same, _, rfl, ?_⟩
      refine iteF ?_
      have s3 := s1.trans s2
      generalize upd H' p (.lst ((List.replicate [V.int wk, V.int gv, V.int tk].length true).map V.bl)) = H2 at s2 s3 ⊢
      refine ⟨_, rfl, b, _, rfl, s3.seqT hb, rfl, _, _, rfl, _, _, rfl, _, _, rfl, rfl, ?_⟩
      have g3 := g.same s3
      obtain ⟨hdl, hdg⟩ := deal_parts g.2.2.2
      obtain ⟨ba, bb, ys2, rfl, ha, hb2, hys⟩ := den_book g3.1
      obtain ⟨c, rfl, hc⟩ := den_tints.mp g3.2.2.1
      refine ⟨_, rfl, _, _, rfl, rfl, _, rfl, ?_⟩
      by_cases k0 : 0 ≤ wk
      · rw [decide_eq_true k0]
        refine iteT ?_
        refine ⟨_, rfl, c, _, rfl, .inr hc, _, _, rfl, rfl, _, rfl, ?_⟩
        rw [List.length_map]
        by_cases k1 : wk < hs.length
        · rw [decide_eq_true k1]
          refine iteF ?_
          have hlt : wk.toNat < hs.length := by omega
          have eh := List.getElem?_eq_getElem hlt
          have el := List.getElem?_eq_getElem (l := ws) (i := wk.toNat) (by omega)
          obtain ⟨cw, e1, e2⟩ := denAll_nth hys el
          have sv := step_val (g := gv) (t := tk) k0 k1 eh el
          have kk := k H2 s3
          rw [sv] at kk
          refine ⟨_, rfl, _, rfl, c, _, _, _, rfl, rfl, hc, atI_ints k0 eh, _, rfl, rfl, _, rfl, ?_⟩
          refine ite2 (fun c1 => ?_) (fun c1 => ?_)
          · rw [c1] at kk
            refine ⟨_, rfl, _, rfl, rfl, _, rfl, ?_⟩
            refine ite2 (fun c2 => ?_) (fun c2 => ?_)
            · rw [c2] at kk
              refine ⟨_, rfl, _, rfl, ba, _, 1, .ref bb, rfl, rfl, ha, rfl, _, rfl, bb, _, _, _, rfl, rfl, hb2, atI_vs k0 e1, cw, _, rfl, .inr e2, rfl, flat_ints _, ?_⟩
              rw [show inV (V.int tk) (ws[wk.toNat].map V.int) = _ from in_ints tk _]
              exact kk
            · rw [Bool.not_eq_true] at c2
              rw [c2] at kk
              exact kk
          · rw [Bool.not_eq_true] at c1
            rw [c1] at kk
            exact kk
        · rw [decide_eq_false k1]
          refine iteT ?_
          have e : stepB ws hs [wk, gv, tk] = false := by
            show (decide (0 ≤ wk) && (decide (wk < hs.length) && _)) = false
            rw [decide_eq_false k1]; simp
          rw [e] at k
          exact k H2 s3
      · rw [decide_eq_false k0]
        refine iteF ?_
        refine ⟨_, rfl, ?_⟩
        refine iteT ?_
        have e : stepB ws hs [wk, gv, tk] = false := by
          show (decide (0 ≤ wk) && _) = false
          rw [decide_eq_false k0]; rfl
        rw [e] at k
        exact k H2 s3
end
end Ab
set_option Elab.async false
set_option linter.all false
set_option maxRecDepth 100000
namespace Ab
open PySem L2
theorem passed_len {L : List (List Int)} (h : L ≠ []) : (passedL L).length = L.length + 1 := by
  cases L with
  | nil => exact absurd rfl h
  | cons s r => simp [passedL]
section
variable {P : Program} {w : World} {K : PySem.W.Frag} {mg : Str → Option Value} {base : Heap}
variable {fW fH fK fB fNB fD fND fL : Addr} {dW dH dK dB dNB dD dND dL : FuncData}
def spWay (K : PySem.W.Frag) : Sp := fun vs H Q _ => ∃ x y p xs n ws hs L, vs = [x, y, .ref p] ∧ Good K H x y n ws hs ∧ SqL K H p xs ∧ DenAll K H (L.map workD) xs ∧ L.length ≤ 30 ∧ (∀ l ∈ L, l.length ≤ 1000) ∧ ∀ H', Same H H' → Q (.bl (wayB ws hs L)) H'
theorem scWay : FnScope ["book", "deal", "some", "passed", "follow"] ["book", "deal", "some"] (defScope sWay) := ⟨rfl, rfl, rfl, by decide +kernel, rfl, by decide +kernel, by decide +kernel⟩
theorem ok_way {f fS : Addr} {fd dS : FuncData} (G : Fn K mg "is_way" sWay ["book", "deal", "some"] f fd) (B : Bl mg) (R : Pr K mg fW fH fK fB fNB fD fND fL dW dH dK dB dNB dD dND dL) (GS : Fn K mg "is_step" sStep ["book", "deal", "step"] fS dS) : FnOk P w K mg base CX0 7 f fd ["book", "deal", "some"] (spWay K) := by
  have OS : FnOk P w K mg base CX0 2 fS dS ["book", "deal", "step"] (spStep K) := ok_step GS B R
  have OND : FnOk P w K mg base CX0 6 fND dND ["book", "deal"] (spNeedD K) := ok_needD B R
  refine G.fn.ok scWay (fun vs H Q E h => ?_) (fun cdv A outer s H vs Q E hr h => ?_)
  · obtain ⟨x, y, p, xs, n, ws, hs, L, rfl, _⟩ := h
    rfl
  · obtain ⟨x, y, p, xs, n, ws, hs, L, rfl, g, hp, hd, hL, hl1000, k⟩ := h
    have r2 : Room 2 _ := hr.mono (by decide)
    have r6 : Room 6 _ := hr
    refine ⟨_, (pss_cons (ps_expr (pe_fn R.ND OND r6 rfl (pa_cons (pv 0) (pa_cons (pv 1) pa_nil))))
    (pss_cons (ps_if (PW.pt (pw_or (pt_not (pt_val (pe_callB call_isi_list rfl B.isinstance b_isi (pa_cons (pv 2) (pa_cons (pe_bltn (v := .ty "list") rfl B.list b_list rfl) pa_nil))))) (pw_or1 (pt_cmpR op_eq (pe_callB call_len_seq rfl B.len b_len (pa_cons (pv 2) pa_nil)) pe_int (nomark _)))))
      (pss_one (ps_ret pe_bl))
      pss_nil)
    (pss_cons (ps_if (pt_not (pt_val (pe_callB (call_all rfl) rfl B.all b_all (pa_cons (pe_comp (own := ["step"]) (fr := [0, 1]) (frn := ["book", "deal"]) (compOk_of (defScope sWay) ["book", "deal", "some", "passed", "follow"] rfl rfl (by decide +kernel)) rfl (pi_list (pv 2))
        (fun _ _ _ _ => (pg_name (i := 0) (show (["step", "book", "deal"] : List Str).Nodup by decide +kernel) rfl (Or.inl rfl))) (fun _ _ _ _ => pf_nil)
        (fun _ _ _ _ => (pe_fn GS OS r2 rfl (pa_cons (pv 1) (pa_cons (pv 2) (pa_cons (pv 0) pa_nil)))))) pa_nil))))
      (pss_one (ps_ret pe_bl))
      pss_nil)
    (pss_cons (ps_set (i := 3) scWay.nd rfl (Or.inl rfl) (pe_op op_cat (pe_lst (pa_cons (pe_ix ix_tup (pe_ix ix_list (pv 2) pe_int (fun _ _ => rfl)) pe_int (fun _ _ => rfl)) pa_nil)) (pe_comp (own := ["step"]) (fr := []) (frn := []) (compOk_of (defScope sWay) ["book", "deal", "some", "passed", "follow"] rfl rfl (by decide +kernel)) rfl (pi_list (pv 2))
        (fun _ _ _ _ => (pg_name (i := 0) (show (["step"] : List Str).Nodup by decide +kernel) rfl (Or.inl rfl))) (fun _ _ _ _ => pf_nil)
        (fun _ _ _ _ => (pe_ix (ix_tupK (K := K) rfl) (pv 0) pe_int (fun _ _ => rfl))))))
    (pss_cons (ps_set (i := 4) scWay.nd rfl (Or.inl rfl) (pe_callB (call_all rfl) rfl B.all b_all (pa_cons (pe_comp (own := ["step", "hand"]) (fr := []) (frn := []) (compOk_of (defScope sWay) ["book", "deal", "some", "passed", "follow"] rfl rfl (by decide +kernel)) rfl (pi_zip .l .l rfl B.zip (pa_cons (pv 2) (pa_cons (pv 3) pa_nil)))
        (fun _ _ _ _ => (pg_tupK (K := K) (n := 2) rfl rfl (pgs_cons (pg_name (i := 0) (show (["step", "hand"] : List Str).Nodup by decide +kernel) rfl (Or.inl rfl)) (pgs_cons (pg_name (i := 1) (show (["step", "hand"] : List Str).Nodup by decide +kernel) rfl (Or.inl rfl)) pgs_nil)))) (fun _ _ _ _ => pf_nil)
        (fun _ _ _ _ => (pe_cmpR op_eq (pe_ix (ix_tupK (K := K) rfl) (pv 0) pe_int (fun _ _ => rfl)) (pv 1) (nomark _)))) pa_nil)))
    (pss_one (ps_ret (pe_and (pv 4) (pe_one (pe_cmpR op_eq (pe_callB call_len_setI rfl B.len b_len (pa_cons (pe_callTy (call_setI (K := K) rfl rfl) rfl B.set b_set (pa_cons (pv 3) pa_nil)) pa_nil)) (pe_callB call_len_seq rfl B.len b_len (pa_cons (pv 3) pa_nil)) (nomark _))))))))))), ?_⟩
    refine ⟨_, rfl, _, rfl, x, y, n, ws, hs, rfl, g, fun H1 s1 => ?_⟩
    have hxl := denAll_length hd
    rw [List.length_map] at hxl
    have hp1 := s1.seqL hp
    have hd1 := s1.denAll _ _ hd
    refine ⟨_, rfl, .ref p, .lst, rfl, .inl ⟨rfl, _, hp1⟩, true, rfl, ?_⟩
    refine iteF ?_
    refine ⟨_, rfl, p, _, rfl, .inl hp1, rfl, _, rfl, ?_⟩
    refine ite2 (fun c => ?_) (fun c => ?_)
    · have e0 : L = [] := by
        have : V.int (xs.length : Nat) = V.int 0 := by simpa using c
        have := V.int.inj this
        exact List.length_eq_zero_iff.mp (by omega)
      subst e0
      exact k H1 s1
    have hne : L ≠ [] := fun z => by
      subst z
      have : xs.length = 0 := by simpa using hxl
      rw [this] at c
      simp at c
    have g1 := g.same s1
    refine ⟨_, rfl, p, rfl, ⟨_, hp1⟩, comp_fnL (K := K) (a := p) (xs := xs) (vs := (L.map (stepB ws hs)).map V.bl) (fun σ => ∃ v, σ = [v, some x, some y]) (by omega) (by simp [hxl]) hp1 ⟨none, rfl⟩ ?_ ?_⟩
    · rintro i u v σ H2 hu hv ⟨v0, rfl⟩ s2 Q' k'
      have hlt : i < L.length := by have := (List.getElem?_eq_some_iff.mp hu).1; omega
      have el : L[i]? = some L[i] := List.getElem?_eq_getElem hlt
      obtain ⟨c1, e1, e2⟩ := denAll_nth (s2.denAll _ _ hd1) el
      rw [hu] at e1
      obtain rfl := Option.some.inj e1
      have ev : v = .bl (stepB ws hs L[i]) := by
        rw [List.getElem?_map, List.getElem?_map, el] at hv
        exact (Option.some.inj hv).symm
      subst ev
      refine ⟨_, rfl, _, rfl, _, rfl, x, y, c1, n, ws, hs, L[i], rfl, g1.same s2, e2, hl1000 _ (List.getElem_mem hlt), fun H3 s3 => ?_⟩
      exact k' _ H3 ⟨_, rfl⟩ s3
    · intro H2 s2 q hq
      refine ⟨q, L.map (stepB ws hs), rfl, SqL.of upd_same, _, rfl, ?_⟩
      have s3 := s2.trans (Same.new (o := .lst ((L.map (stepB ws hs)).map V.bl)) hq)
      generalize upd H2 q (.lst ((L.map (stepB ws hs)).map V.bl)) = H3 at s3 ⊢
      have eall : (L.map (stepB ws hs)).all id = L.all (stepB ws hs) := by rw [List.all_map]; rfl
      rw [eall]
      by_cases ha : L.all (stepB ws hs) = true
      · rw [ha]
        refine iteF ?_
        have hok : ∀ st ∈ L, stepB ws hs st = true := fun st h => List.all_eq_true.mp ha st h
        have hp3 : ∀ {H' : Hp}, Same H3 H' → SqL K H' p xs := fun z => z.seqL (s3.seqL hp1)
        have nth : ∀ {H' : Hp} {i : Nat} {u : V}, Same H3 H' → xs[i]? = some u → ∃ (c : Addr) (st : List Int) (kk gg tt : Int), u = .ref c ∧ L[i]? = some st ∧ st = [kk, gg, tt] ∧ SqT K H' c [.int kk, .int gg, .int tt] := fun {H' i u} z hu => by
          have hlt : i < L.length := by have := (List.getElem?_eq_some_iff.mp hu).1; omega
          have el : L[i]? = some L[i] := List.getElem?_eq_getElem hlt
          obtain ⟨c1, e1, e2⟩ := denAll_nth (z.denAll _ _ (s3.denAll _ _ hd1)) el
          rw [hu] at e1
          obtain ⟨kk, gg, tt, e3⟩ := stepB_len (hok _ (List.getElem_mem hlt))
          rw [e3] at e2
          exact ⟨c1, L[i], kk, gg, tt, Option.some.inj e1, el, e3, e2⟩
        have h0 : 0 < xs.length := by
          have := List.length_pos_iff.mpr hne
          omega
        obtain ⟨c0, st0, k0, g0, t0, e0, el0, es0, q0⟩ := nth (Same.refl H3) (List.getElem?_eq_getElem h0)
        refine ⟨_, rfl, p, _, 0, .ref c0, rfl, rfl, hp3 (Same.refl H3), atI_nat (by rw [List.getElem?_eq_getElem h0, e0]), c0, _, 1, .int g0, rfl, rfl, q0, rfl, sz1 _, fun l1 hl1 => ?_⟩
        have s4 := Same.new (o := .lst [.int g0]) hl1
        have a4 : upd H3 l1 (.lst [.int g0]) l1 = some (.lst [.int g0]) := upd_same
        generalize upd H3 l1 (.lst [.int g0]) = H4 at s4 a4 ⊢
        refine ⟨_, rfl, p, rfl, ⟨_, hp3 s4⟩, comp_fnL (K := K) (a := p) (xs := xs) (vs := (L.map toOf).map V.int) (fun σ => ∃ v, σ = [v]) (by omega) (by simp [hxl]) (hp3 s4) ⟨none, rfl⟩ ?_ ?_⟩
        · rintro i u v σ H5 hu hv ⟨v0, rfl⟩ s5 Q' k'
          obtain ⟨c1, st, kk, gg, tt, rfl, el, rfl, q1⟩ := nth (s4.trans s5) hu
          have ev : v = .int tt := by
            rw [List.getElem?_map, List.getElem?_map, el] at hv
            exact (Option.some.inj hv).symm
          subst ev
          exact ⟨_, rfl, c1, _, 2, .int tt, rfl, rfl, q1, rfl, k' _ H5 ⟨_, rfl⟩ (Same.refl H5)⟩
        · intro H5 s5 l2 hl2
          have s6 := Same.new (o := .lst ((L.map toOf).map V.int)) hl2
          have a6 := s6 _ _ (s5 _ _ a4)
          have b6 : upd H5 l2 (.lst ((L.map toOf).map V.int)) l2 = some (.lst ((L.map toOf).map V.int)) := upd_same
          generalize upd H5 l2 (.lst ((L.map toOf).map V.int)) = H6 at s6 a6 b6 ⊢
          refine ⟨l1, l2, _, _, rfl, rfl, a6, b6, le1000 (by simp; omega), fun l3 hl3 => ?_⟩
          have epass : [V.int g0] ++ (L.map toOf).map V.int = (passedL L).map V.int := by
            cases L with
            | nil => exact absurd rfl hne
            | cons s r =>
              have : s = st0 := Option.some.inj el0
              subst this
              rw [es0]
              rfl
          rw [epass]
          have s7 := Same.new (o := .lst ((passedL L).map V.int)) hl3
          have b7 : upd H6 l3 (.lst ((passedL L).map V.int)) l3 = some (.lst ((passedL L).map V.int)) := upd_same
          generalize upd H6 l3 (.lst ((passedL L).map V.int)) = H7 at s7 b7 ⊢
          have s37 := ((s4.trans s5).trans s6).trans s7
          have pl := passed_len hne
          refine ⟨_, rfl, _, rfl, p, l3, xs, _, rfl, hp3 s37, SqL.of b7, comp_fnZ (K := K) (k1 := .l) (k2 := .l) (a := p) (b := l3) (xs := xs) (zs := (passedL L).map V.int) (vs := ((L.zip (passedL L)).map fun q => fromOf q.1 == q.2).map V.bl) (fun σ => ∃ u v, σ = [u, v]) (by omega) (by simp; omega) (by simp [pl]; omega)
            (fun H' z => ⟨hp3 (s37.trans z), SqL.of (z _ _ b7)⟩) ⟨none, none, rfl⟩ ?_ ?_⟩
          · rintro i u z v q σ H8 hu hz hv hq ⟨u0, v0, rfl⟩ s8 Q' k'
            have s9 := Same.new (o := .tup [u, z]) hq
            obtain ⟨c1, st, kk, gg, tt, rfl, el, rfl, q1⟩ := nth ((s37.trans s8).trans s9) hu
            obtain ⟨zz, hzz, rfl⟩ : ∃ zz, (passedL L)[i]? = some zz ∧ V.int zz = z := by
              rw [List.getElem?_map] at hz
              cases e : (passedL L)[i]? with
              | none => rw [e] at hz; cases hz
              | some zz => rw [e] at hz; exact ⟨zz, rfl, Option.some.inj hz⟩
            have ev : v = .bl (gg == zz) := by
              have e1 : (L.zip (passedL L))[i]? = some ([kk, gg, tt], zz) := by rw [List.getElem?_zip_eq_some]; exact ⟨el, hzz⟩
              rw [List.getElem?_map, List.getElem?_map, e1] at hv
              exact (Option.some.inj hv).symm
            subst ev
            refine ⟨q, _, rfl, SqT.of upd_same, rfl, _, _, rfl, _, _, rfl, rfl, ?_⟩
            refine ⟨_, rfl, c1, _, 1, .int gg, rfl, rfl, q1, rfl, _, rfl, rfl, ?_⟩
            have eb : decide (V.int gg = V.int zz) = (gg == zz) := by
              by_cases e : gg = zz
              · subst e; simp
              · rw [decide_eq_false (fun q => e (V.int.inj q))]; exact (beq_eq_false_iff_ne.mpr e).symm
            rw [eb]
            exact k' _ _ ⟨_, _, rfl⟩ s9
          · intro H8 s8 l4 hl4
            refine ⟨l4, (L.zip (passedL L)).map (fun q => fromOf q.1 == q.2), rfl, SqL.of upd_same, ?_⟩
            have s9 := s8.trans (Same.new (o := .lst (((L.zip (passedL L)).map fun q => fromOf q.1 == q.2).map V.bl)) hl4)
            generalize upd H8 l4 (.lst (((L.zip (passedL L)).map fun q => fromOf q.1 == q.2).map V.bl)) = H9 at s9 ⊢
            have ef : ((L.zip (passedL L)).map fun q => fromOf q.1 == q.2).all id = followB L := by rw [List.all_map]; rfl
            rw [ef]
            have kk := fun H' (z : Same H9 H') => k H' ((s1.trans (s3.trans s37)).trans (s9.trans z))
            have ew : wayB ws hs L = (followB L && decide ((passedL L).Nodup)) := by
              unfold wayB
              rw [ha]
              cases L with
              | nil => exact absurd rfl hne
              | cons _ _ => rfl
            rw [ew] at kk
            refine ⟨_, rfl, _, rfl, ?_⟩
            refine ite2 (fun c1 => ?_) (fun c1 => ?_)
            · rw [c1] at kk
              refine ⟨_, rfl, l3, passedL L, rfl, SqL.of (s9 _ _ b7), by omega, fun l5 hl5 => ?_⟩
              have s10 := Same.new (o := .set (fun k => decide (k ∈ passedL L)) (dist (passedL L))) hl5
              refine ⟨l5, _, _, rfl, upd_same, _, rfl, l3, _, rfl, .inl (SqL.of (s10 _ _ (s9 _ _ b7))), rfl, ?_⟩
              have e2 : decide (V.int (dist (passedL L) : Nat) = V.int ((passedL L).map V.int).length) = decide ((passedL L).Nodup) := by
                rw [Bool.eq_iff_iff, decide_eq_true_iff, decide_eq_true_iff, ← dist_nodup, List.length_map]
                constructor
                · intro z; have := V.int.inj z; omega
                · intro z; rw [z]
              rw [e2]
              exact kk _ s10
            · rw [Bool.not_eq_true] at c1
              rw [c1] at kk
              exact kk H9 (Same.refl _)
      · rw [Bool.not_eq_true] at ha
        rw [ha]
        refine iteT ?_
        have e : wayB ws hs L = false := by unfold wayB; rw [ha]; simp
        rw [e] at k
        exact k H3 (s1.trans s3)
end
end Ab
set_option Elab.async false
set_option linter.all false
set_option maxRecDepth 100000
namespace Ab
open PySem L2
section
variable {P : Program} {w : World} {K : PySem.W.Frag} {mg : Str → Option Value} {base : Heap}
def spIsStep (K : PySem.W.Frag) : Sp := fun vs H Q _ => ∃ x y b n ws hs l, vs = [x, y, .ref b] ∧ Good K H x y n ws hs ∧ SqT K H b (l.map V.int) ∧ Q (.bl (stepB ws hs l)) H
theorem scIsStep : FnScope ["book", "deal", "step", "work", "giver", "taker"] ["book", "deal", "step"] (defScope sIsStep) := ⟨rfl, rfl, rfl, by decide +kernel, rfl, by decide +kernel, by decide +kernel⟩
theorem ok_isstep {f : Addr} {fd : FuncData} (G : Fn K mg "_law_b_is_step" sIsStep ["book", "deal", "step"] f fd) (B : Bl mg) : FnOk P w K mg base CX0 1 f fd ["book", "deal", "step"] (spIsStep K) := by
  refine G.fn.ok scIsStep (fun vs H Q E h => ?_) (fun cdv A outer s H vs Q E hr h => ?_)
  · obtain ⟨x, y, b, n, ws, hs, l, rfl, _⟩ := h
    rfl
  · obtain ⟨x, y, b, n, ws, hs, l, rfl, g, hb, k⟩ := h
    refine ⟨_, (pss_cons (ps_if (PW.pt (pw_or (pt_not (pt_val (pe_callB call_isi_tuple rfl B.isinstance b_isi (pa_cons (pv 2) (pa_cons (pe_bltn (v := .ty "tuple") rfl B.tuple b_tuple rfl) pa_nil))))) (pw_or1 (pt_cmpR op_ne (pe_callB call_len_seq rfl B.len b_len (pa_cons (pv 2) pa_nil)) pe_int (nomark _)))))
      (pss_one (ps_ret pe_bl))
      pss_nil)
    (pss_cons (ps_asg (pv 2) (pg_tup rfl (pgs_cons (pg_name (i := 3) scIsStep.nd rfl (Or.inl rfl)) (pgs_cons (pg_name (i := 4) scIsStep.nd rfl (Or.inl rfl)) (pgs_cons (pg_name (i := 5) scIsStep.nd rfl (Or.inl rfl)) pgs_nil)))))
    (pss_cons (ps_if (PW.pt (pw_or (pt_cmpR op_lt (pv 3) pe_int (nomark _)) (pw_or (pt_cmpR op_ge (pv 3) (pe_callB call_len_seq rfl B.len b_len (pa_cons (pv 1) pa_nil)) (nomark _)) (pw_or (pt_cmpR op_ne (pe_ix ix_tup (pv 1) (pv 3) (fun _ _ => rfl)) (pv 4) (nomark _)) (pw_or1 (pt_cmpR op_eq (pv 5) (pv 4) (nomark _)))))))
      (pss_one (ps_ret pe_bl))
      pss_nil)
    (pss_one (ps_ret (pe_cmpR op_in_seq (pv 5) (pe_ix ix_tup (pe_ix ix_tup (pv 0) pe_int (fun _ _ => rfl)) (pv 3) (fun _ _ => rfl)) (by with_unfolding_all rfl))))))), ?_⟩
    refine ⟨_, rfl, .ref b, .tup, rfl, .inr (.inl ⟨rfl, _, hb⟩), true, rfl, ?_⟩
    refine iteF ?_
    refine ⟨_, rfl, b, _, rfl, .inr hb, rfl, _, rfl, ?_⟩
    refine ite2 (fun c => ?_) (fun c => ?_)
    · have hne : l.length ≠ 3 := fun z => by rw [List.length_map, z] at c; simp at c
      rw [stepB_not hne] at k
      exact k
    have h3 : l.length = 3 := by
      have : V.int ((l.map V.int).length : Nat) = V.int 3 := by simpa using c
      have := V.int.inj this
      rw [List.length_map] at this
      omega
    obtain ⟨wk, gv, tk, rfl⟩ := len3 h3
    refine ⟨_, rfl, b, _, rfl, hb, rfl, _, _, rfl, _, _, rfl, _, _, rfl, rfl, ?_⟩
    obtain ⟨hdl, hdg⟩ := deal_parts g.2.2.2
    obtain ⟨ba, bb, ys2, rfl, ha, hb2, hys⟩ := den_book g.1
    obtain ⟨c, rfl, hc⟩ := den_tints.mp g.2.2.1
    refine ⟨_, rfl, _, _, rfl, rfl, _, rfl, ?_⟩
    by_cases k0 : 0 ≤ wk
    · rw [decide_eq_false (show ¬ wk < 0 by omega)]
      refine iteF ?_
      refine ⟨_, rfl, _, rfl, c, _, rfl, .inr hc, _, _, rfl, rfl, _, rfl, ?_⟩
      rw [List.length_map]
      by_cases k1 : wk < hs.length
      · rw [decide_eq_false (show ¬ (hs.length : Int) ≤ wk by omega)]
        refine iteF ?_
        have hlt : wk.toNat < hs.length := by omega
        have eh := List.getElem?_eq_getElem hlt
        have el := List.getElem?_eq_getElem (l := ws) (i := wk.toNat) (by omega)
        obtain ⟨cw, e1, e2⟩ := denAll_nth hys el
        rw [step_val (g := gv) (t := tk) k0 k1 eh el] at k
        refine ⟨_, rfl, _, rfl, c, _, _, _, rfl, rfl, hc, atI_ints k0 eh, _, rfl, rfl, _, rfl, ?_⟩
        cases c1 : decide (V.int hs[wk.toNat] = V.int gv) with
        | false =>
          rw [c1] at k
          refine iteT ?_
          exact k
        | true =>
          rw [c1] at k
          refine iteF ?_
          refine ⟨_, rfl, _, rfl, rfl, _, rfl, ?_⟩
          cases c2 : decide (V.int tk = V.int gv) with
          | true =>
            rw [c2] at k
            refine iteT ?_
            exact k
          | false =>
            rw [c2] at k
            refine iteF ?_
            refine ⟨_, rfl, _, rfl, ba, _, 1, .ref bb, rfl, rfl, ha, rfl, _, rfl, bb, _, _, _, rfl, rfl, hb2, atI_vs k0 e1, cw, _, rfl, .inr e2, rfl, flat_ints _, ?_⟩
            rw [show inV (V.int tk) (ws[wk.toNat].map V.int) = _ from in_ints tk _]
            exact k
      · rw [decide_eq_true (show (hs.length : Int) ≤ wk by omega)]
        refine iteT ?_
        have e : stepB ws hs [wk, gv, tk] = false := by
          show (decide (0 ≤ wk) && (decide (wk < hs.length) && _)) = false
          rw [decide_eq_false k1]; simp
        rw [e] at k
        exact k
    · rw [decide_eq_true (show wk < 0 by omega)]
      refine iteT ?_
      have e : stepB ws hs [wk, gv, tk] = false := by
        show (decide (0 ≤ wk) && _) = false
        rw [decide_eq_false k0]; rfl
      rw [e] at k
      exact k
theorem passed_at {L : List (List Int)} {i : Nat} {st : List Int} (h : L[i]? = some st) : (passedL L)[i + 1]? = some (toOf st) := by
  cases L with
  | nil => cases h
  | cons s r =>
    show (fromOf s :: (s :: r).map toOf)[i + 1]? = _
    rw [List.getElem?_cons_succ, List.getElem?_map, h]
    rfl
theorem follow_iff {L : List (List Int)} (hne : L ≠ []) : followB L = true ↔ ∀ (i : Nat) (a b : List Int), L[i]? = some a → L[i + 1]? = some b → toOf a = fromOf b := by
  unfold followB
  rw [List.all_eq_true]
  constructor
  · intro h i a b ha hb
    have e := h (b, toOf a) (List.mem_of_getElem? (i := i + 1) (by rw [List.getElem?_zip_eq_some]; exact ⟨hb, passed_at ha⟩))
    have e' : fromOf b = toOf a := by simpa using e
    exact e'.symm
  · rintro h ⟨b, z⟩ hm
    obtain ⟨i, hi⟩ := List.mem_iff_getElem?.mp hm
    rw [List.getElem?_zip_eq_some] at hi
    obtain ⟨h1, h2⟩ := hi
    cases i with
    | zero =>
      cases L with
      | nil => exact absurd rfl hne
      | cons s r =>
        have e1 : s = b := Option.some.inj h1
        have e2 : fromOf s = z := Option.some.inj h2
        show (fromOf b == z) = true
        rw [← e2, e1]; simp
    | succ j =>
      have hj : j < L.length := by have := (List.getElem?_eq_some_iff.mp h1).1; omega
      have ej := List.getElem?_eq_getElem hj
      have e1 := h j L[j] b ej h1
      rw [passed_at ej] at h2
      have e2 : toOf L[j] = z := Option.some.inj h2
      show (fromOf b == z) = true
      rw [← e2, e1]; simp
theorem hands_passed : ∀ {L : List (List Int)}, L ≠ [] → (∀ (i : Nat) (a b : List Int), L[i]? = some a → L[i + 1]? = some b → toOf a = fromOf b) → ∀ {z : List Int}, L.getLast? = some z → L.map fromOf ++ [toOf z] = passedL L
  | [], h, _, _, _ => absurd rfl h
  | [s], _, _, z, hz => by
    have e : s = z := Option.some.inj hz
    subst e
    rfl
  | s :: r :: q, _, hf, z, hz => by
    have ih := hands_passed (L := r :: q) (by simp) (fun i a b ha hb => hf (i + 1) a b ha hb) (z := z) (by simpa using hz)
    have e : toOf s = fromOf r := hf 0 s r rfl rfl
    show fromOf s :: ((r :: q).map fromOf ++ [toOf z]) = fromOf s :: (toOf s :: (r :: q).map toOf)
    rw [ih, e]
    rfl
def spIsWay (K : PySem.W.Frag) : Sp := fun vs H Q _ => ∃ x y p xs n ws hs L, vs = [x, y, .ref p] ∧ Good K H x y n ws hs ∧ SqL K H p xs ∧ DenAll K H (L.map workD) xs ∧ L.length ≤ 30 ∧ ∀ H', Same H H' → Q (.bl (wayB ws hs L)) H'
theorem scIsWay : FnScope ["book", "deal", "some", "hands", "at", "step"] ["book", "deal", "some"] (defScope sIsWay) := ⟨rfl, rfl, rfl, by decide +kernel, rfl, by decide +kernel, by decide +kernel⟩
end
end Ab
set_option Elab.async false
set_option linter.all false
set_option maxRecDepth 100000
namespace L2
open PySem
theorem Same.wr {H H' : Hp} {a : Addr} {u : HO} (e : Same H H') (h : H a = none) : Same H (upd H' a u) := fun b o q => by
  rw [upd_ne (fun z => by rw [z, h] at q; cases q)]
  exact e b o q
end L2
namespace Ab
open PySem L2
theorem eqv_nil (ds : List PyData) : PyData.eqv (.list ds) (.list []) = ds.isEmpty := by
  rw [PyData.eqv]
  cases ds <;> simp [PyData.eqvAll]
theorem noDicts_works : ∀ L : List (List Int), noDicts (L.map workD) = true
  | [] => by unfold List.map noDicts; rfl
  | l :: r => by
    rw [List.map_cons]
    unfold noDicts
    rw [noDicts_works r, Bool.and_true]
    exact noDict_tints l
theorem noDict_steps (L : List (List Int)) : noDict (.list (L.map workD)) = true := by unfold noDict; exact noDicts_works L
theorem shaped_steps (L : List (List Int)) : SeqAt.shaped (.list (L.map workD)) = true := by
  refine shaped_of ?_ ?_
  · unfold PyData.canLay0; exact canLay_map _ canLay_tints L
  · unfold PyData.depth; exact Nat.le_trans (Nat.succ_le_succ (depth_map _ depth_tints L)) (by decide)
section
variable {P : Program} {w : World} {K : PySem.W.Frag} {mg : Str → Option Value} {base : Heap}
theorem den_steps {H : Hp} {p : Addr} {xs : List V} {L : List (List Int)} (h1 : SqL K H p xs) (h2 : DenAll K H (L.map workD) xs) : Den K H (.list (L.map workD)) (.ref p) := den_list.mpr ⟨p, xs, rfl, h1, h2⟩
theorem getLast_at {L : List (List Int)} (h : L ≠ []) : ∃ z, L.getLast? = some z ∧ L[L.length - 1]? = some z := ⟨L.getLast h, List.getLast?_eq_getLast h, by rw [List.getLast_eq_getElem]; exact List.getElem?_eq_getElem _⟩
theorem atI_neg1 {xs : List V} {v : V} (h : xs[xs.length - 1]? = some v) : atI xs (-1) = some v := by
  have hlt : xs.length - 1 < xs.length := (List.getElem?_eq_some_iff.mp h).1
  have e : xs = xs.take (xs.length - 1) ++ [v] := by
    have h1 : xs.take (xs.length - 1 + 1) = xs.take (xs.length - 1) ++ [v] := by rw [List.take_succ, h]; rfl
    rw [← h1, List.take_of_length_le (by omega)]
  rw [e]
  exact atI_last _ _
theorem ok_isway {f fS : Addr} {fd dS : FuncData} (G : Fn K mg "_law_b_is_way" sIsWay ["book", "deal", "some"] f fd) (B : Bl mg) (GIS : Fn K mg "_law_b_is_step" sIsStep ["book", "deal", "step"] fS dS) : FnOk P w K mg base CX0 2 f fd ["book", "deal", "some"] (spIsWay K) := by
  have OIS : FnOk P w K mg base CX0 1 fS dS ["book", "deal", "step"] (spIsStep K) := ok_isstep GIS B
  refine G.fn.ok scIsWay (fun vs H Q E h => ?_) (fun cdv A outer s H vs Q E hr h => ?_)
  · obtain ⟨x, y, p, xs, n, ws, hs, L, rfl, _⟩ := h
    rfl
  · obtain ⟨x, y, p, xs, n, ws, hs, L, rfl, g, hp, hd, hL, k⟩ := h
    have r1 : Room 1 _ := hr
    have hxl := denAll_length hd
    rw [List.length_map] at hxl
    refine ⟨_, (pss_cons (ps_if (pt_cmpR (op_eqD hr.u64) (pv 2) (pe_lst pa_nil) (nomark _))
      (pss_one (ps_ret pe_bl))
      pss_nil)
    (pss_cons (ps_set (i := 3) scIsWay.nd rfl (Or.inl rfl) (pe_lst pa_nil))
    (pss_cons (ps_for PassesOwn.never rfl (pi_enum .l rfl B.enumerate (pa_cons (pv 2) pa_nil)) (pg_tup rfl (pgs_cons (pg_name (i := 4) scIsWay.nd rfl (Or.inl rfl)) (pgs_cons (pg_name (i := 5) scIsWay.nd rfl (Or.inl rfl)) pgs_nil)))
      (pss_cons (ps_if (PW.pt (pw_or (pt_not (pt_val (pe_fn GIS OIS r1 rfl (pa_cons (pv 0) (pa_cons (pv 1) (pa_cons (pv 5) pa_nil)))))) (pw_or1 (PW.pt (pw_and (pt_cmpR op_gt (pv 4) pe_int (nomark _)) (pw_and1 (pt_cmpR op_ne (pe_ix ix_tup (pe_ix ix_list (pv 2) (pe_op op_sub (pv 4) pe_int) (fun _ _ => rfl)) pe_int (fun _ _ => rfl)) (pe_ix ix_tup (pv 5) pe_int (fun _ _ => rfl)) (nomark _))))))))
      (pss_one (ps_ret pe_bl))
      pss_nil)
    (pss_one (ps_expr (pe_bm PySem.F.plainAttrs_list PySem.F.slot_list_append PySem.F.type_list_append mt_append (pv 3) (pa_cons (pe_ix ix_tup (pv 5) pe_int (fun _ _ => rfl)) pa_nil))))))
    (pss_cons (ps_expr (pe_bm PySem.F.plainAttrs_list PySem.F.slot_list_append PySem.F.type_list_append mt_append (pv 3) (pa_cons (pe_ix ix_tup (pe_ix ix_list (pv 2) (pe_un un_neg pe_int) (fun _ _ => rfl)) pe_int (fun _ _ => rfl)) pa_nil)))
    (pss_one (ps_ret (pe_cmpR op_eq (pe_callB call_len_setI rfl B.len b_len (pa_cons (pe_callTy (call_setI (K := K) rfl rfl) rfl B.set b_set (pa_cons (pv 3) pa_nil)) pa_nil)) (pe_callB call_len_seq rfl B.len b_len (pa_cons (pv 3) pa_nil)) (nomark _)))))))), ?_⟩
    refine ⟨_, rfl, le1000 (Nat.zero_le _), fun l0 hl0 => ?_⟩
    have s0 := Same.new (o := .lst []) hl0
    refine ⟨.list (L.map workD), .list [], den_steps (s0.seqL hp) (s0.denAll _ _ hd), den_list.mpr ⟨l0, [], rfl, SqL.of upd_same, denAll_nil.mpr rfl⟩, noDict_steps L, rfl, shaped_steps L, rfl, _, rfl, ?_⟩
    rw [eqv_nil]
    generalize upd H l0 (.lst []) = H0 at s0 ⊢
    refine ite2 (fun c => ?_) (fun c => ?_)
    · have e0 : L = [] := by cases L with | nil => rfl | cons _ _ => cases c
      subst e0
      exact k H0 s0
    have hne : L ≠ [] := fun z => by subst z; exact c rfl
    refine ⟨le1000 (Nat.zero_le _), fun h hh => ?_⟩
    have s1 := Same.new (o := .lst []) hh
    have a1 : upd H0 h (.lst []) h = some (.lst []) := upd_same
    generalize upd H0 h (.lst []) = H1 at s1 a1 ⊢
    have hp0 := s0.seqL hp
    have hd0 := s0.denAll _ _ hd
    have g0 := g.same s0
    refine ⟨_, rfl, p, xs, rfl, s1.seqL hp0, for_enum (K := K) (k := .l) (a := p) (xs := xs) (fun i σ H2 => ∃ v4 v5, σ = [some x, some y, some (.ref p), some (.ref h), v4, v5] ∧ Same H0 H2 ∧ H2 h = some (.lst (((L.take i).map fromOf).map V.int)) ∧ (∀ (j : Nat) st, j < i → L[j]? = some st → stepB ws hs st = true) ∧ (∀ (j : Nat) st st', j + 1 < i → L[j]? = some st → L[j + 1]? = some st' → toOf st = fromOf st'))
      ⟨none, none, rfl, s1, a1, fun j st h => by omega, fun j st st' h => by omega⟩ (fun i σ H2 _ ⟨_, _, _, s2, _⟩ => s2.seqL hp0) ?_ ?_⟩
    · rintro i u q σ H2 hu ⟨v4, v5, rfl, s2, a2, ok2, ch2⟩ hq
      have hlt : i < L.length := by have := (List.getElem?_eq_some_iff.mp hu).1; omega
      have el : L[i]? = some L[i] := List.getElem?_eq_getElem hlt
      have s3 := Same.new (o := .tup [.int (i : Nat), u]) hq
      have a3 := s3 _ _ a2
      have t3 : upd H2 q (.tup [.int (i : Nat), u]) q = some (.tup [.int (i : Nat), u]) := upd_same
      generalize upd H2 q (.tup [.int (i : Nat), u]) = H3 at s3 a3 t3 ⊢
      have s03 := s2.trans s3
      obtain ⟨c1, e1, e2⟩ := denAll_nth (s03.denAll _ _ hd0) el
      rw [hu] at e1
      obtain rfl := Option.some.inj e1
      refine ⟨q, _, rfl, SqT.of t3, rfl, _, _, rfl, _, _, rfl, rfl, ?_⟩
      refine ⟨_, rfl, _, rfl, _, rfl, x, y, c1, n, ws, hs, L[i], rfl, g0.same s03, e2, _, rfl, ?_⟩
      by_cases hst : stepB ws hs L[i] = true
      · rw [hst]
        refine iteF ?_
        obtain ⟨kk, gg, tt, e3⟩ := stepB_len hst
        have q2 : SqT K H3 c1 [.int kk, .int gg, .int tt] := by rw [e3] at e2; exact e2
        -- what is done where all goes well
        have go : (∀ (j : Nat) st st', j + 1 < i + 1 → L[j]? = some st → L[j + 1]? = some st' → toOf st = fromOf st') → ∃ v4 v5, [some x, some y, some (.ref p), some (.ref h), some (V.int (i : Nat)), some (V.ref c1)] = [some x, some y, some (.ref p), some (.ref h), v4, v5] ∧ Same H0 (upd H3 h (.lst (((L.take i).map fromOf).map V.int ++ [.int gg]))) ∧
            upd H3 h (.lst (((L.take i).map fromOf).map V.int ++ [.int gg])) h = some (.lst (((L.take (i + 1)).map fromOf).map V.int)) ∧ (∀ (j : Nat) st, j < i + 1 → L[j]? = some st → stepB ws hs st = true) ∧ (∀ (j : Nat) st st', j + 1 < i + 1 → L[j]? = some st → L[j + 1]? = some st' → toOf st = fromOf st') := fun hch => by
          refine ⟨_, _, rfl, s03.wr hh, ?_, fun j st hj ej => ?_, hch⟩
          · have this : fromOf L[i] = gg := by rw [e3]; rfl
            have e9 : (L.take (i + 1)).map fromOf = (L.take i).map fromOf ++ [gg] := by
              rw [List.take_succ, el, List.map_append, ← this]
              rfl
            rw [upd_same, e9, List.map_append]
            rfl
          · by_cases z : j = i
            · subst z
              rw [el] at ej
              rw [← Option.some.inj ej]; exact hst
            · exact ok2 j st (by omega) ej
        have hsz : (((L.take i).map fromOf).map V.int).length < sizeLine := Nat.lt_of_le_of_lt (show _ ≤ 30 by simp; omega) (by rw [sizeLine_eq]; decide)
        refine ⟨_, rfl, _, _, rfl, rfl, _, rfl, ?_⟩
        by_cases hi0 : i = 0
        · rw [decide_eq_false (show ¬ (0 : Int) < (i : Nat) by omega)]
          refine iteF ?_
          refine iteF ?_
          refine ⟨_, rfl, .inl ⟨rfl, _, SqL.of a3⟩, _, rfl, c1, _, 1, .int gg, rfl, rfl, q2, rfl, h, _, _, rfl, rfl, a3, hsz, ?_⟩
          exact go fun j st st' hj ej ej' => by omega
        · rw [decide_eq_true (show (0 : Int) < (i : Nat) by omega)]
          refine iteT ?_
          have hlt' : i - 1 < L.length := by omega
          obtain ⟨sp, el'⟩ : ∃ sp, L[i - 1]? = some sp := ⟨_, List.getElem?_eq_getElem hlt'⟩
          obtain ⟨c2, e4, e5⟩ := denAll_nth (s03.denAll _ _ hd0) el'
          obtain ⟨kk', gg', tt', e6⟩ := stepB_len (ok2 (i - 1) _ (by omega) el')
          have q3 : SqT K H3 c2 [.int kk', .int gg', .int tt'] := by rw [e6] at e5; exact e5
          refine ⟨_, rfl, _, rfl, _, _, rfl, rfl, p, xs, _, .ref c2, rfl, rfl, s03.seqL hp0, ?_, c2, _, 2, .int tt', rfl, rfl, q3, rfl, _, rfl, c1, _, 1, .int gg, rfl, rfl, q2, rfl, rfl, _, rfl, ?_⟩
          · have : ((i : Nat) : Int) - 1 = ((i - 1 : Nat) : Int) := by omega
            rw [this]
            exact atI_nat e4
          · have eto : toOf sp = tt' := by rw [e6]; rfl
            have efr : fromOf L[i] = gg := by rw [e3]; rfl
            by_cases hch : tt' = gg
            · subst hch
              rw [show (!decide (V.int tt' = V.int tt')) = false by simp]
              refine iteF ?_
              refine ⟨_, rfl, .inl ⟨rfl, _, SqL.of a3⟩, _, rfl, c1, _, 1, .int tt', rfl, rfl, q2, rfl, h, _, _, rfl, rfl, a3, hsz, ?_⟩
              refine go fun j st st' hj ej ej' => ?_
              by_cases z : j + 1 = i
              · subst z
                rw [el] at ej'
                rw [← Option.some.inj ej', efr]
                have el2 : L[j]? = some sp := el'
                rw [el2] at ej
                rw [← Option.some.inj ej, eto]
              · exact ch2 j st st' (by omega) ej ej'
            · rw [show (!decide (V.int tt' = V.int gg)) = true by rw [decide_eq_false (fun z => hch (V.int.inj z))]; rfl]
              refine iteT ?_
              have hf : followB L = false := by
                rw [← Bool.not_eq_true, follow_iff hne]
                intro z
                have := z (i - 1) _ _ el' (by rw [show i - 1 + 1 = i by omega]; exact el)
                rw [eto, efr] at this
                exact hch this
              have e : wayB ws hs L = false := by unfold wayB; rw [hf]; simp
              rw [e] at k
              exact k H3 (s0.trans s03)
      · rw [Bool.not_eq_true] at hst
        rw [hst]
        refine iteT ?_
        have hall : L.all (stepB ws hs) = false := by
          rw [← Bool.not_eq_true, List.all_eq_true]
          intro z
          rw [z _ (List.getElem_mem hlt)] at hst
          cases hst
        have e : wayB ws hs L = false := by unfold wayB; rw [hall]; simp
        rw [e] at k
        exact k H3 (s0.trans s03)
    · rintro σ H2 ⟨v4, v5, rfl, s2, a2, ok2, ch2⟩
      rw [hxl, List.take_of_length_le (Nat.le_refl _)] at a2
      rw [hxl] at ok2 ch2
      obtain ⟨z, hz1, hz2⟩ := getLast_at hne
      obtain ⟨c1, e1, e2⟩ := denAll_nth (s2.denAll _ _ hd0) hz2
      have hzok := ok2 _ z (by have := List.length_pos_iff.mpr hne; omega) hz2
      obtain ⟨kk, gg, tt, rfl⟩ := stepB_len hzok
      have hf := (follow_iff hne).mpr fun i a b ha hb => ch2 i a b (by have := (List.getElem?_eq_some_iff.mp hb).1; omega) ha hb
      have hall : L.all (stepB ws hs) = true := List.all_eq_true.mpr fun st hm => by
        obtain ⟨j, hj⟩ := List.mem_iff_getElem?.mp hm
        exact ok2 j st (List.getElem?_eq_some_iff.mp hj).1 hj
      have hhp := hands_passed hne ((follow_iff hne).mp hf) hz1
      have ew : wayB ws hs L = decide ((passedL L).Nodup) := by
        unfold wayB
        rw [hall, hf]
        cases L with
        | nil => exact absurd rfl hne
        | cons _ _ => simp
      rw [ew] at k
      refine ⟨_, rfl, .inl ⟨rfl, _, SqL.of a2⟩, _, rfl, 1, rfl, p, xs, _, .ref c1, rfl, rfl, s2.seqL hp0, atI_neg1 (by rw [hxl]; exact e1), c1, _, 2, .int tt, rfl, rfl, e2, rfl, h, _, _, rfl, rfl, a2, Nat.lt_of_le_of_lt (show _ ≤ 30 by simp; omega) (by rw [sizeLine_eq]; decide), ?_⟩
      have eh : (L.map fromOf).map V.int ++ [V.int tt] = (passedL L).map V.int := by
        rw [← hhp, List.map_append]
        rfl
      rw [eh]
      have s3 := s2.wr (u := .lst ((passedL L).map V.int)) hh
      have a3 : upd H2 h (.lst ((passedL L).map V.int)) h = some (.lst ((passedL L).map V.int)) := upd_same
      generalize upd H2 h (.lst ((passedL L).map V.int)) = H3 at s3 a3 ⊢
      have pl := passed_len hne
      refine ⟨_, rfl, h, passedL L, rfl, SqL.of a3, by omega, fun l5 hl5 => ?_⟩
      have s10 := Same.new (o := .set (fun k => decide (k ∈ passedL L)) (dist (passedL L))) hl5
      refine ⟨l5, _, _, rfl, upd_same, _, rfl, h, _, rfl, .inl (SqL.of (s10 _ _ a3)), rfl, ?_⟩
      have e2 : decide (V.int (dist (passedL L) : Nat) = V.int ((passedL L).map V.int).length) = decide ((passedL L).Nodup) := by
        rw [Bool.eq_iff_iff, decide_eq_true_iff, decide_eq_true_iff, ← dist_nodup, List.length_map]
        constructor
        · intro z; have := V.int.inj z; omega
        · intro z; rw [z]
      rw [e2]
      exact k _ ((s0.trans s3).trans s10)
end
end Ab
set_option Elab.async false
set_option linter.all false
set_option maxRecDepth 100000
namespace Ab
open PySem L2
theorem loadsL_get {n : Int} {hs : List Int} {j : Nat} (h : j < n.toNat) : (loadsL n hs)[j]? = some ((hs.count (j : Int) : Nat) : Int) := by
  unfold loadsL
  rw [List.getElem?_map, upto_get h]
  rfl
theorem loadsL_out {n : Int} {hs : List Int} {j : Nat} (h : n.toNat ≤ j) : (loadsL n hs)[j]? = none := by
  rw [List.getElem?_eq_none_iff, loadsL_length]; exact h
theorem loadsL_nil (n : Int) : (List.replicate n.toNat [V.int 0]).flatten = (loadsL n []).map V.int := by
  rw [List.flatten_replicate_singleton]
  refine List.ext_getElem? fun j => ?_
  rw [List.getElem?_map]
  by_cases h : j < n.toNat
  · rw [loadsL_get h, List.getElem?_replicate, if_pos h]
    rfl
  · rw [loadsL_out (by omega), List.getElem?_replicate, if_neg h]
    rfl
theorem loadsL_step {n : Int} {hs : List Int} {h : Int} (h0 : 0 ≤ h) (h1 : h < n) : ((loadsL n hs).map V.int).set h.toNat (.int (((hs.count h : Nat) : Int) + 1)) = (loadsL n (hs ++ [h])).map V.int := by
  refine List.ext_getElem? fun j => ?_
  by_cases hj : j < n.toNat
  · rw [List.getElem?_map, loadsL_get hj, List.count_append, List.getElem?_set]
    have hl : ((loadsL n hs).map V.int).length = n.toNat := by rw [List.length_map, loadsL_length]
    by_cases e : h.toNat = j
    · have e' : (j : Int) = h := by omega
      rw [if_pos e, if_pos (by rw [hl]; omega), e', List.count_singleton]
      simp
    · have e' : ¬ h = (j : Int) := by omega
      rw [if_neg e, List.getElem?_map, loadsL_get hj, List.count_singleton]
      simp [e']
  · rw [List.getElem?_map, loadsL_out (by omega), List.getElem?_eq_none_iff.mpr]
    · rfl
    · rw [List.length_set, List.length_map, loadsL_length]; omega
section
variable {P : Program} {w : World} {K : PySem.W.Frag} {mg : Str → Option Value} {base : Heap}
def spHeaps (K : PySem.W.Frag) : Sp := fun vs H Q _ => ∃ x y n ws hs, vs = [x, y] ∧ Good K H x y n ws hs ∧ ∀ p H', Same H H' → H p = none → H' p = some (.lst ((loadsL n hs).map V.int)) → Q (.ref p) H'
theorem scHeaps : FnScope ["book", "deal", "found", "hand"] ["book", "deal"] (defScope sHeaps) := ⟨rfl, rfl, rfl, by decide +kernel, rfl, by decide +kernel, by decide +kernel⟩
theorem ok_heaps {f : Addr} {fd : FuncData} (G : Fn K mg "_law_b_heaps" sHeaps ["book", "deal"] f fd) (B : Bl mg) : FnOk P w K mg base CX0 1 f fd ["book", "deal"] (spHeaps K) := by
  refine G.fn.ok scHeaps (fun vs H Q E h => ?_) (fun cdv A outer s H vs Q E hr h => ?_)
  · obtain ⟨x, y, n, ws, hs, rfl, _⟩ := h
    rfl
  · obtain ⟨x, y, n, ws, hs, rfl, g, k⟩ := h
    refine ⟨_, pss_cons (ps_set (i := 2) scHeaps.nd rfl (Or.inl rfl) (pe_op op_rep (pe_lst (pa_cons pe_int pa_nil)) (pe_ix ix_tup (pv 0) pe_int (fun _ _ => rfl))))
      (pss_cons (ps_for PassesOwn.never rfl (pi_tup (pv 1)) (pg_name (i := 3) scHeaps.nd rfl (Or.inl rfl))
        (pss_one (ps_asg (pe_op op_add (pe_ix ix_list (pv 2) (pv 3) (fun _ _ => rfl)) pe_int) (pg_sub (pv 2) (pv 3) set_list))))
      (pss_one (ps_ret (pv 2)))), ?_⟩
    obtain ⟨hl, hn1, hn6⟩ := g.len
    obtain ⟨a, b, ys, rfl, ha, hb2, hys⟩ := den_book g.1
    obtain ⟨c, rfl, hc⟩ := den_tints.mp g.2.2.1
    refine ⟨sz1 _, fun z hz => ⟨_, rfl, a, _, 0, .int n, rfl, rfl, (Same.new hz).seqT ha, rfl, z, n, _, rfl, rfl, upd_same, by omega, by omega, size1 (by simp; omega), fun fl hfl => ?_⟩⟩
    have s1 := Same.new (o := .lst [V.int 0]) hz
    generalize hH1 : upd H z (.lst [V.int 0]) = H1 at s1 hfl ⊢
    have hfl0 : H fl = none := s1.free hfl
    have hcfl : ∀ u, SqT K (upd H1 fl u) c (hs.map V.int) := fun u => (Same.new hfl).seqT (s1.seqT hc)
    refine ⟨_, rfl, c, rfl, ⟨_, hcfl _⟩, for_tup (K := K) (a := c) (xs := hs.map V.int) (fun i σ H3 => ∃ v, σ = [some (.ref a), some (.ref c), some (.ref fl), v] ∧ H3 = upd H1 fl (.lst ((loadsL n (hs.take i)).map V.int)))
      ⟨none, rfl, by rw [loadsL_nil]; rfl⟩ (fun i σ H3 _ ⟨_, _, e⟩ => by rw [e]; exact hcfl _) ?_ ?_⟩
    · rintro i x σ H3 hx ⟨v, rfl, rfl⟩
      rw [List.getElem?_map] at hx
      obtain ⟨h, hh, rfl⟩ : ∃ h, hs[i]? = some h ∧ V.int h = x := by
        cases q : hs[i]? with
        | none => rw [q] at hx; cases hx
        | some h => rw [q] at hx; exact ⟨h, rfl, Option.some.inj hx⟩
      obtain ⟨b0, b1⟩ := g.hand hh
      have hlt : h.toNat < n.toNat := by omega
      have hcast : ((h.toNat : Nat) : Int) = h := by omega
      have hat : atI ((loadsL n (hs.take i)).map V.int) h = some (.int (((hs.take i).count h : Nat) : Int)) := by
        have h1 : ((loadsL n (hs.take i)).map V.int)[h.toNat]? = some (.int (((hs.take i).count h : Nat) : Int)) := by rw [List.getElem?_map, loadsL_get hlt, hcast]; rfl
        have h2 := atI_nat h1
        rwa [hcast] at h2
      have hix : ixN ((loadsL n (hs.take i)).map V.int).length h = some h.toNat := by
        rw [List.length_map, loadsL_length]
        unfold ixN
        rw [if_pos b0, if_pos (by omega)]
      refine ⟨_, rfl, _, rfl, fl, _, h, _, rfl, rfl, SqL.of upd_same, hat, _, _, rfl, rfl, _, rfl, _, rfl, fl, _, h, h.toNat, rfl, rfl, upd_same, hix, ?_⟩
      refine ⟨_, rfl, ?_⟩
      rw [upd_upd, loadsL_step b0 b1, List.take_succ, hh]
      rfl
    · rintro σ H3 ⟨v, rfl, rfl⟩
      refine ⟨_, rfl, k fl _ (s1.trans (Same.new hfl)) hfl0 ?_⟩
      rw [upd_same, List.length_map, List.take_length]
end
end Ab
set_option Elab.async false
set_option linter.all false
set_option maxRecDepth 100000
namespace Ab
open PySem L2
section
variable {P : Program} {w : World} {K : PySem.W.Frag} {mg : Str → Option Value} {base : Heap}
theorem ix_seqK {X : Cx} (hK : X.K = K) : IxR X (rIx K) := by subst hK; exact ix_seq
theorem op_neSelf (v : V) : (!decide (v = v)) = false := by simp
def spSame0 : Sp := fun vs H Q _ => ∃ i : Int, vs = [.int i, .int i] ∧ Q (.bl true) H
theorem scSame : FnScope ["found", "due"] ["found", "due"] (defScope sSame) := ⟨rfl, rfl, rfl, by decide +kernel, rfl, by decide +kernel, by decide +kernel⟩
theorem ok_same0 {f : Addr} {fd : FuncData} (G : Fn K mg "_law_b_same" sSame ["found", "due"] f fd) (B : Bl mg) : FnOk P w K mg base CX0 1 f fd ["found", "due"] spSame0 := by
  refine G.fn.ok scSame (fun vs H Q E h => ?_) (fun cdv A outer s H vs Q E hr h => ?_)
  · obtain ⟨i, rfl, _⟩ := h
    rfl
  · obtain ⟨i, rfl, k⟩ := h
    refine ⟨_, pss_cons (ps_if (pt_val (pe_callB call_isi_int rfl B.isinstance b_isi (pa_cons (pv 1) (pa_cons (pe_bltn (v := .ty "int") rfl B.int b_int rfl) pa_nil))))
      (pss_one (ps_ret (pe_and (pe_callB call_isi_int rfl B.isinstance b_isi (pa_cons (pv 0) (pa_cons (pe_bltn (v := .ty "int") rfl B.int b_int rfl) pa_nil)))
        (pe_and (pe_cmpR op_eq (pe_callB call_isi_bool rfl B.isinstance b_isi (pa_cons (pv 0) (pa_cons (pe_bltn (v := .ty "bool") rfl B.bool b_bool rfl) pa_nil))) (pe_callB call_isi_bool rfl B.isinstance b_isi (pa_cons (pv 1) (pa_cons (pe_bltn (v := .ty "bool") rfl B.bool b_bool rfl) pa_nil))) (nomark _))
        (pe_one (pe_cmpR op_eq (pv 0) (pv 1) (nomark _))))))) pss_nil) pss_never, ?_⟩
    refine ⟨_, rfl, .int i, .int, rfl, (den_int (K := K) (H := H) (i := i)|>.mpr rfl).kd, _, rfl, ?_⟩
    refine iteT ?_
    refine ⟨_, rfl, .int i, .int, rfl, (den_int (K := K) (H := H) (i := i)|>.mpr rfl).kd, _, rfl, ?_⟩
    refine iteT ?_
    refine ⟨_, rfl, .int i, .int, rfl, (den_int (K := K) (H := H) (i := i)|>.mpr rfl).kd, _, rfl, .int i, .int, rfl, (den_int (K := K) (H := H) (i := i)|>.mpr rfl).kd, rfl, _, rfl, ?_⟩
    refine iteT ?_
    refine ⟨_, rfl, _, rfl, rfl, ?_⟩
    have e : decide (V.int i = V.int i) = true := by simp
    rw [e]
    exact k
def TwoD (K : PySem.W.Frag) (H : Hp) (ns : List Int) (x y : V) (l : Bool) : Prop := ∃ d, d = (if l then PyData.list (ns.map .int) else .tuple (ns.map .int)) ∧ Den K H d x ∧ Den K H d y
def spSame1 (K : PySem.W.Frag) : Sp := fun vs H Q _ => ∃ (ns : List Int) (x y : V) (l : Bool), vs = [x, y] ∧ ns.length ≤ 1000 ∧ TwoD K H ns x y l ∧ ∀ H', Same H H' → Q (.bl true) H'
theorem row_seq {H : Hp} {ns : List Int} {x : V} {l : Bool} (h : Den K H (if l then PyData.list (ns.map .int) else .tuple (ns.map .int)) x) : ∃ a, x = .ref a ∧ (SqL K H a (ns.map V.int) ∨ SqT K H a (ns.map V.int)) := by
  cases l with
  | true => obtain ⟨a, h1, h2⟩ := den_lints.mp h; exact ⟨a, h1, .inl h2⟩
  | false => obtain ⟨a, h1, h2⟩ := den_tints.mp h; exact ⟨a, h1, .inr h2⟩
theorem ix_row {H : Hp} {ns : List Int} {a : Addr} {i : Nat} {n : Int} {Q : VK} (h : SqL K H a (ns.map V.int) ∨ SqT K H a (ns.map V.int)) (hn : ns[i]? = some n) (q : Q (.int n) H) : rIx K (.ref a) (.int (i : Int)) H Q := by
  have hat : atI (ns.map V.int) (i : Int) = some (.int n) := atI_nat (by rw [List.getElem?_map, hn]; rfl)
  rcases h with h | h
  · exact .inl ⟨a, _, _, _, rfl, rfl, h, hat, q⟩
  · exact .inr (.inl ⟨a, _, _, _, rfl, rfl, h, hat, q⟩)
theorem ok_same1 {f : Addr} {fd : FuncData} (G : Fn K mg "_law_b_same" sSame ["found", "due"] f fd) (B : Bl mg) : FnOk P w K mg base CX0 2 f fd ["found", "due"] (spSame1 K) := by
  have O0 : FnOk P w K mg base CX0 1 f fd ["found", "due"] spSame0 := ok_same0 G B
  refine G.fn.ok scSame (fun vs H Q E h => ?_) (fun cdv A outer s H vs Q E hr h => ?_)
  · obtain ⟨ns, x, y, l, rfl, _⟩ := h
    rfl
  · obtain ⟨ns, x, y, l, rfl, hlen, ⟨d, hd, hx, hy⟩, k⟩ := h
    refine ⟨_, pss_cons (ps_if (pt_val (pe_callB call_isi_int rfl B.isinstance b_isi (pa_cons (pv 1) (pa_cons (pe_bltn (v := .ty "int") rfl B.int b_int rfl) pa_nil)))) pss_never pss_nil)
      (pss_cons (ps_if (PW.pt (pw_or (pt_cmpR op_ne (pe_callB call_isi_tuple rfl B.isinstance b_isi (pa_cons (pv 1) (pa_cons (pe_bltn (v := .ty "tuple") rfl B.tuple b_tuple rfl) pa_nil))) (pe_callB call_isi_tuple rfl B.isinstance b_isi (pa_cons (pv 0) (pa_cons (pe_bltn (v := .ty "tuple") rfl B.tuple b_tuple rfl) pa_nil))) (nomark _))
        (pw_or1 (pt_cmpR op_ne (pe_callB call_isi_list rfl B.isinstance b_isi (pa_cons (pv 1) (pa_cons (pe_bltn (v := .ty "list") rfl B.list b_list rfl) pa_nil))) (pe_callB call_isi_list rfl B.isinstance b_isi (pa_cons (pv 0) (pa_cons (pe_bltn (v := .ty "list") rfl B.list b_list rfl) pa_nil))) (nomark _))))) pss_never pss_nil)
      (pss_one (ps_ret (pe_and (pe_cmpR op_eq (pe_callB call_len_seq rfl B.len b_len (pa_cons (pv 0) pa_nil)) (pe_callB call_len_seq rfl B.len b_len (pa_cons (pv 1) pa_nil)) (nomark _))
        (pe_one (pe_callB (call_all rfl) rfl B.all b_all (pa_cons
          (pe_comp (own := ["k"]) (fr := [1, 0]) (frn := ["due", "found"]) (compOk_of (defScope sSame) ["found", "due"] rfl rfl (by decide +kernel)) rfl (pi_range1 rfl B.range (pa_cons (pe_callB call_len_seq rfl B.len b_len (pa_cons (pv 1) pa_nil)) pa_nil))
            (fun _ _ _ _ => pg_name (i := 0) (show (["k", "due", "found"] : List Str).Nodup by decide +kernel) rfl (Or.inl rfl)) (fun _ _ _ _ => pf_nil)
            (fun _ _ _ _ => pe_fn G O0 hr rfl (pa_cons (pe_ix (ix_seqK (K := K) rfl) (pv 2) (pv 0) (fun _ _ => rfl)) (pa_cons (pe_ix (ix_seqK (K := K) rfl) (pv 1) (pv 0) (fun _ _ => rfl)) pa_nil)))) pa_nil))))))), ?_⟩
    refine ⟨_, rfl, y, kdOf d, rfl, hy.kd, _, rfl, ?_⟩
    have e1 : decide (kdOf d = Kd.int ∨ kdOf d = Kd.bl) = false := by rw [hd]; cases l <;> rfl
    rw [e1]
    refine iteF ?_
    refine ⟨_, rfl, y, kdOf d, rfl, hy.kd, _, rfl, x, kdOf d, rfl, hx.kd, rfl, _, rfl, ?_⟩
    rw [op_neSelf]
    refine iteF ?_
    refine ⟨_, rfl, y, kdOf d, rfl, hy.kd, _, rfl, x, kdOf d, rfl, hx.kd, rfl, _, rfl, ?_⟩
    rw [op_neSelf]
    refine iteF ?_
    rw [hd] at hx hy
    obtain ⟨ax, rfl, hax⟩ := row_seq hx
    obtain ⟨ay, rfl, hay⟩ := row_seq hy
    refine ⟨_, rfl, ax, _, rfl, hax, _, rfl, ay, _, rfl, hay, rfl, _, rfl, ?_⟩
    have e2 : decide (V.int ((ns.map V.int).length : Int) = V.int ((ns.map V.int).length : Int)) = true := by simp
    rw [e2]
    refine iteT ?_
    refine ⟨_, rfl, ay, _, rfl, hay, _, rfl, ?_, ?_, comp_range (lo := 0) (n := (((ns.map V.int).length : Int)).toNat) (fun σ => ∃ v, σ = [v, some (.ref ay), some (.ref ax)]) (fun i zs H2 => H2 = H ∧ zs = (List.replicate i true).map V.bl) (size1 (by rw [List.length_map]; omega)) ⟨none, rfl⟩ ⟨rfl, rfl⟩ ?_ ?_ ?_⟩
    · rw [List.length_map]; omega
    · rw [List.length_map]; omega
    · rintro i zs H2 ⟨_, rfl⟩
      rw [List.length_map, List.length_replicate]; exact Nat.le_refl _
    · rintro i zs σ H2 hi ⟨v, rfl⟩ ⟨rfl, rfl⟩ hz
      rw [List.length_map] at hi
      have hi' : i < ns.length := by omega
      have hn := List.getElem?_eq_getElem hi'
      have e0 : (0 : Int) + (i : Int) = (i : Int) := by omega
      rw [e0]
      refine nameAll_go ?_
      refine ⟨_, rfl, _, rfl, ix_row hax hn ⟨_, rfl, _, rfl, ix_row hay hn ⟨ns[i], rfl, hz, ⟨_, rfl⟩, rfl, ?_⟩⟩⟩
      rw [List.replicate_succ', List.map_append]
      rfl
    · rintro zs H2 ⟨rfl, rfl⟩ p hp
      refine ⟨p, _, rfl, SqL.of upd_same, ?_⟩
      have e3 : ∀ n, (List.replicate n true).all id = true := fun n => by
        rw [List.all_eq_true]
        intro b hb
        exact List.eq_of_mem_replicate hb
      rw [e3]
      exact k _ (Same.new hp)
end
end Ab
set_option Elab.async false
set_option linter.all false
set_option maxRecDepth 100000
namespace Ab
open PySem L2
def nms : List Str := ["NoBook", "NoCosts", "NoDeal", "NoHand", "NoRooms", "NoRow", "NoText", "NoWay", "NoWeights", "NoWork", "TooMany"]
structure Cl (K : PySem.W.Frag) (mg : Str → Option Value) (cE : Addr) (c : Nat → Addr) : Prop where
  mc : ∀ (i : Nat) (n : Str), nms[i]? = some n → mg n = some (.ref (c i))
  ec : ∀ i, i < 11 → ∀ h : Heap, K.In h → EcH h (c i) (.ref cE :: vbm)
  inj : ∀ i j, i < 11 → j < 11 → c i = c j → i = j
  ne : ∀ i, i < 11 → c i ≠ cE
  mE : mg "DealError" = some (.ref cE)
  eE : ∀ h : Heap, K.In h → EcH h cE vbm
section
variable {P : Program} {w : World} {K : PySem.W.Frag} {mg : Str → Option Value} {base : Heap} {cE : Addr} {c : Nat → Addr}
theorem Cl.has (Z : Cl K mg cE c) {i j : Nat} (hi : i < 11) (hj : j < 11) : (Value.ref (c j) :: .ref cE :: vbm).contains (.ref (c i)) = decide (j = i) := by
  by_cases e : j = i
  · subst e; simp
  · have h1 : (Value.ref (c i) == Value.ref (c j)) = false := by
      rw [beq_eq_false_iff_ne]
      intro z
      injection z with z
      exact e (Z.inj j i hj hi z.symm)
    have h2 : (Value.ref (c i) == Value.ref cE) = false := by
      rw [beq_eq_false_iff_ne]
      intro z
      injection z with z
      exact Z.ne i hi z
    rw [List.contains_cons, List.contains_cons, h1, h2, decide_eq_false e]
    rfl
theorem Cl.up (Z : Cl K mg cE c) {j : Nat} : (Value.ref (c j) :: .ref cE :: vbm).contains (.ref cE) = true := by simp
def tIsi (c : Nat → Addr) (i : Nat) : TE := fun σ H Q => ∃ (a : Addr) (j : Nat), σ[0]? = some (some (.ref a)) ∧ H a = some (ExO (c j) a) ∧ j < 11 ∧ Q (.bl (decide (j = i))) H
theorem pe_isi {X : Cx} {n x : Str} {i : Nat} {p p1 p2 pos : Pos} (Z : Cl K mg cE c) (B : Bl mg) (hK : X.K = K) (hmg : X.mg = mg) (hN : nms[i]? = some n) (hg : Gl X "isinstance") (hgn : Gl X n) (h0 : X.N[0]? = some x) (hx : X.env.scope.names.lookup x = some .local)
    (hd : (x == ("__debug__" : Str)) = false := by decide) (hcd : (x == ("__classdict__" : Str)) = false := by decide) (hdn : (n == ("__debug__" : Str)) = false := by decide)
    (he : starEach [.Name x p1, .Name n p2] X.env = (false, eval (.Name x p1) X.env) :: starEach [.Name n p2] X.env := by rfl) (hpl : (backTo pos (starEach [.Name n p2] X.env)).any (·.1) = false := by rfl) :
    PE X (.Call (.Name "isinstance" p) [.Name x p1, .Name n p2] [] pos) (tIsi c i) := by
  have hi : i < 11 := (List.getElem?_eq_some_iff.mp hN).1
  have hC' : ∀ h : Heap, K.In h → ∃ dd cd sl, h.get? (c i) = some { cls := .type "type", dict := dd, data := .cls cd, slots := sl } := fun h hin => by
    obtain ⟨N, nm, q, bs, hdct, sn, sub, ab, col, dd, k0, k1, k2, k3, k5, mN, hC, _⟩ := Z.ec i hi h hin
    exact ⟨_, _, _, hC⟩
  have J : PE X (.Call (.Name "isinstance" p) [.Name x p1, .Name n p2] [] pos) _ := pe_callB (call_isi_exc (X := X) (K := K) (C' := c i) hK hC') hg (by rw [hmg]; exact B.isinstance) b_isi (pa_cons (pv 0 h0 (.inl hx) hd hcd) (pa_cons (pe_glob (v := .ref (c i)) hgn (by rw [hmg]; exact Z.mc i n hN) rfl hdn) pa_nil)) (by decide) (by decide) he hpl
  intro pins s σ H Q I h
  obtain ⟨a, j, e0, hH, hj, q⟩ := h
  refine J pins s σ H Q I ⟨_, e0, a, c j, _, rfl, hH, Z.ec j hj, ?_⟩
  rw [Z.has hi hj]
  exact q
def bsOf (j : Nat) : List Bool := [decide (j = 0), decide (j = 1), decide (j = 2), decide (j = 3), decide (j = 4), decide (j = 5), decide (j = 6), decide (j = 7), decide (j = 8), decide (j = 9), decide (j = 10)]
def spKinds (c : Nat → Addr) : Sp := fun vs H Q _ => ∃ (a : Addr) (j : Nat), vs = [.ref a] ∧ H a = some (ExO (c j) a) ∧ j < 11 ∧ ∀ p H', Same H H' → H' p = some (.lst ((bsOf j).map V.bl)) → Q (.ref p) H'
theorem scKinds : FnScope ["e", "kinds"] ["e"] (defScope sKinds) := ⟨rfl, rfl, rfl, by decide +kernel, rfl, by decide +kernel, by decide +kernel⟩
theorem sz3 (x y z : V) : [x, y, z].length ≤ sizeLine := by rw [sizeLine_eq]; simp
theorem sz4 (x y z u : V) : [x, y, z, u].length ≤ sizeLine := by rw [sizeLine_eq]; simp
theorem ok_kinds {f : Addr} {fd : FuncData} (G : Fn K mg "_law_b_kinds" sKinds ["e"] f fd) (B : Bl mg) (Z : Cl K mg cE c) : FnOk P w K mg base CX0 1 f fd ["e"] (spKinds c) := by
  refine G.fn.ok scKinds (fun vs H Q E h => ?_) (fun cdv A outer s H vs Q E hr h => ?_)
  · obtain ⟨a, j, rfl, _⟩ := h
    rfl
  · obtain ⟨a, j, rfl, hH, hj, k⟩ := h
    refine ⟨_, pss_cons (ps_set (i := 1) scKinds.nd rfl (Or.inl rfl) (pe_lst (pa_cons (pe_isi (i := 0) Z B rfl rfl rfl rfl rfl rfl rfl) (pa_cons (pe_isi (i := 1) Z B rfl rfl rfl rfl rfl rfl rfl) (pa_cons (pe_isi (i := 2) Z B rfl rfl rfl rfl rfl rfl rfl) (pa_cons (pe_isi (i := 3) Z B rfl rfl rfl rfl rfl rfl rfl) pa_nil))))))
      (pss_cons (ps_set (i := 1) scKinds.nd rfl (Or.inl rfl) (pe_op op_cat (pv 1) (pe_lst (pa_cons (pe_isi (i := 4) Z B rfl rfl rfl rfl rfl rfl rfl) (pa_cons (pe_isi (i := 5) Z B rfl rfl rfl rfl rfl rfl rfl) (pa_cons (pe_isi (i := 6) Z B rfl rfl rfl rfl rfl rfl rfl) (pa_cons (pe_isi (i := 7) Z B rfl rfl rfl rfl rfl rfl rfl) pa_nil)))))))
      (pss_one (ps_ret (pe_op op_cat (pv 1) (pe_lst (pa_cons (pe_isi (i := 8) Z B rfl rfl rfl rfl rfl rfl rfl) (pa_cons (pe_isi (i := 9) Z B rfl rfl rfl rfl rfl rfl rfl) (pa_cons (pe_isi (i := 10) Z B rfl rfl rfl rfl rfl rfl rfl) pa_nil)))))))), ?_⟩
    refine ⟨a, j, rfl, hH, hj, a, j, rfl, hH, hj, a, j, rfl, hH, hj, a, j, rfl, hH, hj, sz4 _ _ _ _, fun p1 hp1 => ?_⟩
    have h1 := fun o => (Same.new (o := o) hp1) _ _ hH
    refine ⟨_, rfl, a, j, rfl, h1 _, hj, a, j, rfl, h1 _, hj, a, j, rfl, h1 _, hj, a, j, rfl, h1 _, hj, sz4 _ _ _ _, fun p2 hp2 => ?_⟩
    refine ⟨_, _, _, _, rfl, rfl, (Same.new hp2) _ _ upd_same, upd_same, by rw [sizeLine_eq]; simp, fun p3 hp3 => ?_⟩
    have s3 := fun o => (Same.new hp1).trans ((Same.new hp2).trans (Same.new (o := o) hp3))
    have h3 := fun o => s3 o _ _ hH
    refine ⟨_, rfl, a, j, rfl, h3 _, hj, a, j, rfl, h3 _, hj, a, j, rfl, h3 _, hj, sz3 _ _ _, fun p4 hp4 => ?_⟩
    refine ⟨_, _, _, _, rfl, rfl, (Same.new hp4) _ _ upd_same, upd_same, by rw [sizeLine_eq]; simp, fun p5 hp5 => ?_⟩
    refine k p5 _ ((s3 _).trans ((Same.new hp4).trans (Same.new hp5))) ?_
    rw [upd_same]
    rfl
end
end Ab
set_option Elab.async false
set_option linter.all false
set_option maxRecDepth 100000
namespace Ab
open PySem L2
theorem b_ve : bootBuiltins "ValueError" = some (.type "ValueError") := by decide +kernel
def words : List Str := ["book", "costs", "deal", "hand", "rooms", "row", "text", "way", "weights", "work", "many"]
theorem bs_count : ∀ j, j < 11 → (bsOf j).count true = 1 := by decide +kernel
theorem bs_at : ∀ j, j < 11 → (bsOf j)[j]? = some true := by decide +kernel
theorem bs_no : ∀ j, j < 11 → ∀ m, m < j → (bsOf j)[m]? ≠ some true := by decide +kernel
section
variable {P : Program} {w : World} {K : PySem.W.Frag} {mg : Str → Option Value} {base : Heap} {cE : Addr} {c : Nat → Addr}
def spWord (c : Nat → Addr) : Sp := fun vs H Q _ => (vs = [.non] ∧ Q (.str "told") H) ∨ ∃ (a : Addr) (j : Nat) (t : Str), vs = [.ref a] ∧ H a = some (ExO (c j) a) ∧ j < 11 ∧ words[j]? = some t ∧ ∀ H', Same H H' → Q (.str t) H'
theorem scWord : FnScope ["e", "kinds", "names"] ["e"] (defScope sWord) := ⟨rfl, rfl, rfl, by decide +kernel, rfl, by decide +kernel, by decide +kernel⟩
theorem ok_word {f fK : Addr} {fd dK : FuncData} (G : Fn K mg "_law_b_word" sWord ["e"] f fd) (GK : Fn K mg "_law_b_kinds" sKinds ["e"] fK dK) (B : Bl mg) (Z : Cl K mg cE c) : FnOk P w K mg base CX0 2 f fd ["e"] (spWord c) := by
  have OK : FnOk P w K mg base CX0 1 fK dK ["e"] (spKinds c) := ok_kinds GK B Z
  refine G.fn.ok scWord (fun vs H Q E h => ?_) (fun cdv A outer s H vs Q E hr h => ?_)
  · rcases h with ⟨rfl, _⟩ | ⟨a, j, t, rfl, _⟩ <;> rfl
  · refine ⟨_, PSso.go (psso_cons ⟨ps_if (pt_cmpR op_isN (pv 0) pe_non (nomark _)) (pss_one (ps_ret pe_str)) pss_nil⟩
      (psso_cons ⟨ps_set (i := 1) scWord.nd rfl (Or.inl rfl) (pe_fn GK OK hr rfl (pa_cons (pv 0) pa_nil))⟩
      (psso_cons ⟨ps_if (PW.pt (pw_or (pt_cmpR op_ne (pe_bmK (K := K) rfl PySem.F.plainAttrs_list PySem.F.slot_list_count PySem.F.type_list_count (mt_countLB (K := K) rfl) (pv 1) (pa_cons pe_bl pa_nil)) pe_int (nomark _))
        (pw_or1 (pt_not (pt_val (pe_callB (call_isi_ve (K := K) rfl) rfl B.isinstance b_isi (pa_cons (pv 0) (pa_cons (pe_bltn (v := .ty "ValueError") rfl B.ve b_ve rfl) pa_nil)))))))) (pss_one (ps_ret pe_str)) pss_nil⟩
      (psso_cons (pso_set (i := 2) scWord.nd rfl (Or.inl rfl) (peo_lst (pao_cons peo_str (pao_cons peo_str (pao_cons peo_str (pao_cons peo_str (pao_cons peo_str (pao_cons peo_str (pao_cons peo_str (pao_cons peo_str (pao_cons peo_str (pao_cons peo_str (pao_cons peo_str pao_nil se_const) se_const) se_const) se_const) se_const) se_const) se_const) se_const) se_const) se_const) se_const)))
      (psso_one ⟨ps_ret (pe_ix ix_list (pv 2) (pe_bmK (K := K) rfl PySem.F.plainAttrs_list PySem.F.slot_list_index PySem.F.type_list_index (mt_indexLB (K := K) rfl) (pv 1) (pa_cons pe_bl pa_nil)) (fun _ _ => rfl))⟩))))), ?_⟩
    rcases h with ⟨rfl, q⟩ | ⟨a, j, t, rfl, hH, hj, ht, k⟩
    · refine ⟨_, rfl, rfl, _, rfl, ?_⟩
      exact iteT q
    · refine ⟨_, rfl, rfl, _, rfl, ?_⟩
      refine iteF ?_
      refine ⟨_, rfl, a, j, rfl, hH, hj, fun p H1 s1 hp => ?_⟩
      have h1 := s1 _ _ hH
      have ec : ((bsOf j).count true : Int) = 1 := by rw [bs_count j hj]; rfl
      refine ⟨_, rfl, .inl ⟨rfl, _, SqL.of hp⟩, p, bsOf j, true, rfl, rfl, SqL.of hp, rfl, _, rfl, ?_⟩
      rw [ec]
      refine iteF ?_
      refine ⟨_, rfl, a, c j, _, rfl, h1, Z.ec j hj, _, rfl, ?_⟩
      refine iteF ?_
      refine ⟨by rw [sizeLine_eq]; decide, fun p2 hp2 => ?_⟩
      refine ⟨_, rfl, _, rfl, .inl ⟨rfl, _, SqL.of ((Same.new hp2) _ _ hp)⟩, p, bsOf j, true, j, rfl, rfl, SqL.of ((Same.new hp2) _ _ hp), bs_at j hj, bs_no j hj, p2, words.map V.str, j, .str t, rfl, rfl, SqL.of upd_same, atI_nat ?_, ?_⟩
      · rw [List.getElem?_map, ht]; rfl
      · exact k _ (s1.trans (Same.new hp2))
end
end Ab
set_option Elab.async false
set_option linter.all false
set_option maxRecDepth 100000
namespace Ab
open PySem L2
theorem But.wr {t a : Addr} {H H' : Hp} {u : HO} (e : But t H H') (h : H a = none) : But t H (upd H' a u) := fun b o n q => by
  rw [upd_ne (fun z => by rw [z, h] at q; cases q)]
  exact e b o n q
section
variable {P : Program} {w : World} {K : PySem.W.Frag} {mg : Str → Option Value} {base : Heap}
theorem Tape.denS {H H' : Hp} {t a : Addr} {ns : List Int} (T : Tape K H t a ns) (b : But t H H') {L : List (List Int)} {xs : List V} (h : DenAll K H (L.map workD) xs) : DenAll K H' (L.map workD) xs := by
  obtain ⟨⟨p, q, _, ht⟩, _⟩ := T
  exact b.denAll ht _ _ (noLists_map _ noList_work L) h
theorem Tape.good {H H' : Hp} {t a : Addr} {ns : List Int} (T : Tape K H t a ns) (b : But t H H') {x y : V} {n : Int} {ws : List (List Int)} {hs : List Int} (g : Good K H x y n ws hs) : Good K H' x y n ws hs :=
  ⟨T.den b (noList_book n ws) g.1, g.2.1, T.den b (noList_deal hs) g.2.2.1, g.2.2.2⟩
theorem Tape.at {H H' : Hp} {t a b : Addr} {ns : List Int} {xs : List V} (T : Tape K H t a ns) (e : But t H H') (n : b ≠ t) (h : H b = some (.lst xs)) : H' b = some (.lst xs) := e b _ n h
theorem tAnd_any {tA tB : TT} {σ : St} {H : Hp} {Q : Bool → Hp → Prop} (hA : ∀ R : Bool → Hp → Prop, (∀ b, R b H) → tA σ H R) (hB : ∀ R : Bool → Hp → Prop, (∀ b, R b H) → tB σ H R) (h : ∀ b, Q b H) : tAnd tA tB σ H Q := by
  refine hA _ fun b => ?_
  cases b with
  | false => exact iteF (h false)
  | true => exact iteT (hB _ h)
theorem tOr_any {tA tB : TT} {σ : St} {H : Hp} {Q : Bool → Hp → Prop} (hA : ∀ R : Bool → Hp → Prop, (∀ b, R b H) → tA σ H R) (hB : ∀ R : Bool → Hp → Prop, (∀ b, R b H) → tB σ H R) (h : ∀ b, Q b H) : tOr tA tB σ H Q := by
  refine hA _ fun b => ?_
  cases b with
  | false => exact iteF (hB _ h)
  | true => exact iteT (h true)
def St3 (m : Nat) (l : List Int) : Prop := ∃ k g t, l = [k, g, t] ∧ 0 ≤ k ∧ k < (m : Int) ∧ (0 ≤ g ∧ g < 6) ∧ 0 ≤ t ∧ t < 6
def spWalked (K : PySem.W.Frag) : Sp := fun vs H Q _ => ∃ (t a : Addr) (ns : List Int) (x y : V) (n : Int) (ws : List (List Int)) (hs : List Int), vs = [.ref t, x, y] ∧ Tape K H t a ns ∧ Good K H x y n ws hs ∧
  ∀ p xs (L : List (List Int)) H', But t H H' → Tape K H' t a ns → H p = none → H' p = some (.lst xs) → DenAll K H' (L.map workD) xs → L.length ≤ 7 → (∀ l ∈ L, St3 hs.length l) → Q (.ref p) H'
theorem scWalked : FnScope ["tape", "book", "deal", "some", "left", "work", "gone_by", "back", "more"] ["tape", "book", "deal"] (defScope sWalked) := ⟨rfl, rfl, rfl, by decide +kernel, rfl, by decide +kernel, by decide +kernel⟩
set_option maxHeartbeats 1000000 in
theorem ok_walked {f fD : Addr} {fd dD : FuncData} (G : Fn K mg "_law_b_walked" sWalked ["tape", "book", "deal"] f fd) (B : Bl mg) (GD : Fn K mg "_law_b_digit" sDigit ["tape", "many"] fD dD) (OD : FnOk P w K mg base CX0 2 fD dD ["tape", "many"] (spDigit K)) : FnOk P w K mg base CX0 3 f fd ["tape", "book", "deal"] (spWalked K) := by
  refine G.fn.ok scWalked (fun vs H Q E h => ?_) (fun cdv A outer s H vs Q E hr h => ?_)
  · obtain ⟨t, a, ns, x, y, n, ws, hs, rfl, _⟩ := h
    rfl
  · obtain ⟨t, a, ns, x, y, n, ws, hs, rfl, T, g, k⟩ := h
    have r2 : Room 2 _ := hr
    refine ⟨_, (pss_cons (ps_set (i := 3) scWalked.nd rfl (Or.inr rfl) (pe_lst pa_nil))
    (pss_cons (ps_set (i := 4) scWalked.nd rfl (Or.inl rfl) (pe_callTy (call_list_rng rfl) rfl B.list b_list (pa_cons (pe_callTy call_range1 rfl B.range b_range (pa_cons (pe_callB call_len_seq rfl B.len b_len (pa_cons (pv 2) pa_nil)) pa_nil)) pa_nil)))
    (pss_cons (ps_while PassesOwn.never (pt_cmpR (op_neD hr.u64) (pv 4) (pe_lst pa_nil) (nomark _))
      (pss_cons (ps_set (i := 5) scWalked.nd rfl (Or.inr rfl) (pe_ix ix_list (pv 4) (pe_fn GD OD r2 rfl (pa_cons (pv 0) (pa_cons (pe_callB call_len_seq rfl B.len b_len (pa_cons (pv 4) pa_nil)) pa_nil))) (fun _ _ => rfl)))
    (pss_cons (ps_set (i := 6) scWalked.nd rfl (Or.inr rfl) (pe_comp (own := ["step"]) (fr := []) (frn := []) (compOk_of (defScope sWalked) ["tape", "book", "deal", "some", "left", "work", "gone_by", "back", "more"] rfl rfl (by decide +kernel)) rfl (pi_list (pv 3))
        (fun _ _ _ _ => (pg_name (i := 0) (show (["step"] : List Str).Nodup by decide +kernel) rfl (Or.inl rfl))) (fun _ _ _ _ => pf_nil)
        (fun _ _ _ _ => (pe_ix (ix_tupK (K := K) rfl) (pv 0) pe_int (fun _ _ => rfl)))))
    (pss_cons (ps_set (i := 7) scWalked.nd rfl (Or.inr rfl) (pe_cmpR op_eq (pe_fn GD OD r2 rfl (pa_cons (pv 0) (pa_cons pe_int pa_nil))) pe_int (nomark _)))
    (pss_cons (ps_setcomp (i := 8) (own := ["hand"]) (fr := [7, 2, 6, 5]) (frn := ["back", "deal", "gone_by", "work"]) (compOk_of (defScope sWalked) ["tape", "book", "deal", "some", "left", "work", "gone_by", "back", "more"] rfl rfl (by decide +kernel)) rfl scWalked.nd rfl rfl rfl (pi_tup (pe_ix ix_tup (pe_ix ix_tup (pv 1) pe_int (fun _ _ => rfl)) (pv 5) (fun _ _ => rfl)))
        (fun _ _ _ _ => (pg_name (i := 0) (show (["hand", "back", "deal", "gone_by", "work"] : List Str).Nodup by decide +kernel) rfl (Or.inl rfl))) (fun _ _ _ _ => pf_one (PW.pt (pw_and (pt_cmpR op_ne (pv 0) (pe_ix (ix_tupK (K := K) rfl) (pv 2) (pv 4) (fun _ _ => rfl)) (nomark _)) (pw_and1 (PW.pt (pw_or (pt_val (pv 1)) (pw_or1 (pt_cmpR (op_notIn_seqK (K := K) rfl) (pv 0) (pv 3) (by with_unfolding_all rfl)))))))))
        (fun _ _ _ _ => (pv 0)))
    (pss_mid (ps_if (pt_cmpR (op_neD hr.u64) (pv 8) (pe_lst pa_nil) (nomark _))
      (pss_one (ps_expr (pe_bm PySem.F.plainAttrs_list PySem.F.slot_list_append PySem.F.type_list_append mt_append (pv 3) (pa_cons (pe_tup (pa_cons (pv 5) (pa_cons (pe_ix ix_tup (pv 2) (pv 5) (fun _ _ => rfl)) (pa_cons (pe_ix ix_list (pv 8) (pe_fn GD OD r2 rfl (pa_cons (pv 0) (pa_cons (pe_callB call_len_seq rfl B.len b_len (pa_cons (pv 8) pa_nil)) pa_nil))) (fun _ _ => rfl)) pa_nil)))) pa_nil))))
      pss_nil)
    (pss_cons (ps_setcomp (i := 4) (own := ["one"]) (fr := [2, 3]) (frn := ["deal", "some"]) (compOk_of (defScope sWalked) ["tape", "book", "deal", "some", "left", "work", "gone_by", "back", "more"] rfl rfl (by decide +kernel)) rfl scWalked.nd rfl rfl rfl (pi_range1 rfl B.range (pa_cons (pe_callB call_len_seq rfl B.len b_len (pa_cons (pv 2) pa_nil)) pa_nil))
        (fun _ _ _ _ => (pg_name (i := 0) (show (["one", "deal", "some"] : List Str).Nodup by decide +kernel) rfl (Or.inl rfl))) (fun _ _ _ _ => pf_one (PW.pt (pw_and (pt_cmpR (op_neDK (K := K) rfl hr.u64) (pv 2) (pe_lst pa_nil) (nomark _)) (pw_and1 (pt_cmpR op_eq (pe_ix (ix_tupK (K := K) rfl) (pv 1) (pv 0) (fun _ _ => rfl)) (pe_ix (ix_tupK (K := K) rfl) (pe_ix (ix_listK (K := K) rfl) (pv 2) (pe_un un_neg pe_int) (fun _ _ => rfl)) pe_int (fun _ _ => rfl)) (nomark _))))))
        (fun _ _ _ _ => (pv 0)))
    (pss_one (ps_if (PW.pt (pw_or (pt_cmpR (op_eqD hr.u64) (pv 8) (pe_lst pa_nil) (nomark _)) (pw_or (pt_cmpR op_gt (pe_callB call_len_seq rfl B.len b_len (pa_cons (pv 3) pa_nil)) pe_int (nomark _)) (pw_or1 (pt_cmpR op_eq (pe_fn GD OD r2 rfl (pa_cons (pv 0) (pa_cons pe_int pa_nil))) pe_int (nomark _))))))
      (pss_one (ps_set (i := 4) scWalked.nd rfl (Or.inl rfl) (pe_lst pa_nil)))
      pss_nil)))))))))
    (pss_one (ps_ret (pv 3)))))), ?_⟩
    obtain ⟨hl12, hn1, hn6⟩ := g.len
    obtain ⟨hdl, hdg⟩ := deal_parts g.2.2.2
    obtain ⟨_, _, hw12, hws⟩ := book_parts g.2.1
    refine ⟨le1000 (Nat.zero_le _), fun sp hsp => ?_⟩
    have s1 := Same.new (o := .lst []) hsp
    have a1 : upd H sp (.lst []) sp = some (.lst []) := upd_same
    have T1 := T.same s1
    have F : Far K a sp ns := far_of T.2 hsp
    have nts : t ≠ sp := fun z => T.ne hsp z.symm
    have g1 := g.same s1
    generalize upd H sp (.lst []) = H1 at s1 a1 T1 g1 ⊢
    obtain ⟨c0, rfl, hc0⟩ := den_tints.mp g1.2.2.1
    refine ⟨_, rfl, c0, _, rfl, .inr hc0, _, rfl, fun rg hrg => ?_⟩
    have s2 := Same.new (o := .rng 0 ((hs.map V.int).length : Int)) hrg
    refine ⟨rg, (hs.map V.int).length, rfl, upd_same, by rw [List.length_map]; omega, fun lf hlf => ?_⟩
    have s3 := s2.trans (Same.new (o := .lst ((upto (hs.map V.int).length).map V.int)) hlf)
    have a3 : upd (upd H1 rg (.rng 0 ((hs.map V.int).length : Int))) lf (.lst ((upto (hs.map V.int).length).map V.int)) lf = some (.lst ((upto (hs.map V.int).length).map V.int)) := upd_same
    generalize upd (upd H1 rg (.rng 0 ((hs.map V.int).length : Int))) lf (.lst ((upto (hs.map V.int).length).map V.int)) = H3 at s3 a3 ⊢
    rw [List.length_map] at a3
    have T3 := T1.same s3
    have nlt : lf ≠ t := fun z => by
      obtain ⟨⟨p, q, _, e⟩, _⟩ := T1.same s2
      rw [z, e] at hlf; cases hlf
    have nls : lf ≠ sp := fun z => by rw [z, s2 _ _ a1] at hlf; cases hlf
    refine ⟨fun m σ H4 => ∃ (lf : Addr) (ls : List Int) (L : List (List Int)) (xs : List V) (v5 v6 v7 v8 : Option V), σ = [some (.ref t), some x, some (.ref c0), some (.ref sp), some (.ref lf), v5, v6, v7, v8] ∧ m = (if ls = [] then 0 else 8 - L.length) ∧
      But t H H4 ∧ Tape K H4 t a ns ∧ Good K H4 x (.ref c0) n ws hs ∧ H4 sp = some (.lst xs) ∧ DenAll K H4 (L.map workD) xs ∧ L.length ≤ 7 ∧ (ls ≠ [] → L.length ≤ 6) ∧ (∀ l ∈ L, St3 hs.length l) ∧ H4 lf = some (.lst (ls.map V.int)) ∧ lf ≠ t ∧ lf ≠ sp ∧ (∀ j ∈ ls, 0 ≤ j ∧ j < hs.length) ∧ ls.length ≤ 12,
      ⟨_, lf, upto hs.length, [], [], none, none, none, none, rfl, rfl, But.of (s1.trans s3), T3, g1.same s3, s3 _ _ a1, denAll_nil.mpr rfl, Nat.zero_le _, fun _ => Nat.zero_le _, fun l h => (List.not_mem_nil h).elim, a3, nlt, nls, fun j hj => upto_mem.mp hj, by rw [upto_length]; exact hl12⟩, ?_⟩
    rintro m σ H4 ⟨lf, ls, L, xs, v5, v6, v7, v8, rfl, rfl, b4, T4, g4, a4, d4, hL7, hL6, hL3, f4, nlt, nls, hls, hls12⟩
    have hxl := denAll_length d4
    rw [List.length_map] at hxl
    refine ⟨_, rfl, le1000 (Nat.zero_le _), fun z hz => ?_⟩
    have s5 := Same.new (o := .lst []) hz
    refine ⟨.list (ls.map .int), .list (([] : List Int).map .int), den_lints.mpr ⟨lf, rfl, SqL.of (s5 _ _ f4)⟩, den_lints.mpr ⟨z, rfl, SqL.of upd_same⟩, noDict_ints _, noDict_ints _, shaped_ints _, shaped_ints _, _, rfl, ?_⟩
    rw [eqv_lints]
    have b5 := b4.trans (But.of (t := t) s5)
    have T5 := T4.same s5
    have g5 := g4.same s5
    have a5 := s5 _ _ a4
    have d5 := s5.denAll _ _ d4
    have f5 := s5 _ _ f4
    generalize upd H4 z (.lst []) = H5 at s5 b5 T5 g5 a5 d5 f5 ⊢
    by_cases hnil : ls = []
    · rw [decide_eq_true hnil]
      refine iteF ?_
      exact ⟨_, rfl, k sp xs L H5 b5 T5 hsp a5 d5 hL7 hL3⟩
    rw [decide_eq_false hnil]
    refine iteT ?_
    have hL6' := hL6 hnil
    refine ⟨fun σ H6 => ∃ (lf : Addr) (ls : List Int) (L' : List (List Int)) (xs : List V) (v5 v6 v7 v8 : Option V), σ = [some (.ref t), some x, some (.ref c0), some (.ref sp), some (.ref lf), v5, v6, v7, v8] ∧ (if ls = [] then 0 else 8 - L'.length) < 8 - L.length ∧
      But t H H6 ∧ Tape K H6 t a ns ∧ Good K H6 x (.ref c0) n ws hs ∧ H6 sp = some (.lst xs) ∧ DenAll K H6 (L'.map workD) xs ∧ L'.length ≤ 7 ∧ (ls ≠ [] → L'.length ≤ 6) ∧ (∀ l ∈ L', St3 hs.length l) ∧ H6 lf = some (.lst (ls.map V.int)) ∧ lf ≠ t ∧ lf ≠ sp ∧ (∀ j ∈ ls, 0 ≤ j ∧ j < hs.length) ∧ ls.length ≤ 12, ?_, ?_⟩
    · rintro σ' H' ⟨lf, ls, L', xs, v5, v6, v7, v8, e, hm, r⟩
      exact ⟨_, by rw [if_neg hnil]; exact hm, lf, ls, L', xs, v5, v6, v7, v8, e, rfl, r⟩
    have hlpos : 0 < ls.length := List.length_pos_iff.mpr hnil
    refine ⟨_, rfl, _, rfl, _, rfl, lf, _, rfl, .inl (SqL.of f5), t, a, ns, _, rfl, T5, by rw [List.length_map]; omega, by rw [List.length_map]; omega, fun r H6 r0 r1 b6 T6 => ?_⟩
    rw [List.length_map] at r1
    have er : ls[r.toNat]? = some ls[r.toNat] := List.getElem?_eq_getElem (by omega)
    have hwk := hls _ (List.getElem_mem (l := ls) (n := r.toNat) (by omega))
    have b6' := b5.trans b6
    have g6 := T5.good b6 g5
    have a6 := b6 _ _ (Ne.symm nts) a5
    have d6 := T5.denS b6 d5
    have f6 := b6 _ _ nlt f5
    refine ⟨lf, _, r, _, rfl, rfl, SqL.of f6, atI_ints r0 er, ?_⟩
    generalize ls[r.toNat] = wk at hwk
    have nth : ∀ {H' : Hp} {i : Nat} {u : V} {L : List (List Int)} {xs : List V}, DenAll K H' (L.map workD) xs → (∀ l ∈ L, St3 hs.length l) → xs[i]? = some u → ∃ (c : Addr) (kk gg tt : Int), u = .ref c ∧ L[i]? = some [kk, gg, tt] ∧ SqT K H' c [.int kk, .int gg, .int tt] := fun {H' i u L xs} hd h3 hu => by
      have hx := denAll_length hd
      rw [List.length_map] at hx
      have hlt : i < L.length := by have := (List.getElem?_eq_some_iff.mp hu).1; omega
      have el : L[i]? = some L[i] := List.getElem?_eq_getElem hlt
      obtain ⟨c1, e1, e2⟩ := denAll_nth hd el
      rw [hu] at e1
      obtain ⟨kk, gg, tt, e3, _⟩ := h3 _ (List.getElem_mem hlt)
      rw [e3] at e2 el
      exact ⟨c1, kk, gg, tt, Option.some.inj e1, el, e2⟩
    refine ⟨_, rfl, sp, rfl, ⟨_, SqL.of a6⟩, comp_fnL (K := K) (a := sp) (xs := xs) (vs := (L.map fromOf).map V.int) (fun σ => ∃ v, σ = [v]) (by omega) (by simp [hxl]) (SqL.of a6) ⟨none, rfl⟩ ?_ ?_⟩
    · rintro i u v σ H7 hu hv ⟨v0, rfl⟩ s7 Q' k'
      obtain ⟨c1, kk, gg, tt, rfl, el, q1⟩ := nth (s7.denAll _ _ d6) hL3 hu
      have ev : v = .int gg := by
        rw [List.getElem?_map, List.getElem?_map, el] at hv
        exact (Option.some.inj hv).symm
      subst ev
      exact ⟨_, rfl, c1, _, 1, .int gg, rfl, rfl, q1, rfl, k' _ H7 ⟨_, rfl⟩ (Same.refl H7)⟩
    intro H7 s7 gb hgb
    have s8 := s7.trans (Same.new (o := .lst ((L.map fromOf).map V.int)) hgb)
    have q8 : upd H7 gb (.lst ((L.map fromOf).map V.int)) gb = some (.lst ((L.map fromOf).map V.int)) := upd_same
    generalize upd H7 gb (.lst ((L.map fromOf).map V.int)) = H8 at s8 q8 ⊢
    have T8 := T6.same s8
    have ngb : gb ≠ t := fun z => by
      obtain ⟨⟨p, q, _, e⟩, _⟩ := T6.same s7
      rw [z, e] at hgb; cases hgb
    refine ⟨_, rfl, t, a, ns, 4, rfl, T8, by decide, by decide, fun rb H9 rb0 rb1 b9 T9 => ⟨rfl, ?_⟩⟩
    generalize (decide (V.int rb = V.int 0)) = bk
    have b9' := (b6'.trans (But.of s8)).trans b9
    have g9 := T8.good b9 (g6.same s8)
    have a9 := b9 _ _ (Ne.symm nts) (s8 _ _ a6)
    have d9 := T8.denS b9 (s8.denAll _ _ d6)
    have q9 := b9 _ _ ngb q8
    obtain ⟨ba, bb, ys2, rfl, ha9, hb9, hys9⟩ := den_book g9.1
    have ew : ws[wk.toNat]? = some ws[wk.toNat] := List.getElem?_eq_getElem (by omega)
    obtain ⟨cw, e1, e2⟩ := denAll_nth hys9 ew
    have eh : hs[wk.toNat]? = some hs[wk.toNat] := List.getElem?_eq_getElem (by omega)
    have hc9 : SqT K H9 c0 (hs.map V.int) := by
      obtain ⟨c', z, h⟩ := den_tints.mp g9.2.2.1
      cases z; exact h
    have hwb : ∀ h ∈ ws[wk.toNat], 0 ≤ h ∧ h < n := (work_parts (hws _ (List.getElem_mem (l := ws) (n := wk.toNat) (by omega)))).2.1
    have hgb := g9.hand eh
    have hwl : (ws[wk.toNat]).length ≤ 6 := by
      obtain ⟨w1, w2, w3⟩ := work_parts (hws _ (List.getElem_mem (l := ws) (n := wk.toNat) (by omega)))
      have := work_short (by omega) w2 w3
      omega
    refine ⟨_, rfl, ba, _, 1, .ref bb, rfl, rfl, ha9, rfl, _, rfl, bb, _, wk, .ref cw, rfl, rfl, hb9, atI_vs hwk.1 e1, cw, rfl, ⟨_, e2⟩, comp_tup (K := K) (a := cw) (xs := (ws[wk.toNat]).map V.int) (fun σ => ∃ v, σ = [v, some (.bl bk), some (.ref c0), some (.ref gb), some (.int wk)]) (fun i ys H' => ∃ zs : List Int, ys = zs.map V.int ∧ zs.length ≤ i ∧ H' = H9 ∧ ∀ z ∈ zs, 0 ≤ z ∧ z < 6) (le1000 (by rw [List.length_map]; omega)) ⟨none, rfl⟩ ⟨[], rfl, Nat.zero_le _, rfl, fun _ h => (List.not_mem_nil h).elim⟩
      (fun i ys H' ⟨zs, e, h, _⟩ => by rw [e, List.length_map]; exact h) (fun i ys H' ⟨zs, _, _, e, _⟩ => by rw [e]; exact e2) ?_ ?_⟩
    · rintro i ys σ u H' hu ⟨v, rfl⟩ ⟨zs, rfl, hzl, rfl, hzb⟩ hz
      obtain ⟨hd, rfl, hdb⟩ : ∃ hd, u = .int hd ∧ 0 ≤ hd ∧ hd < 6 := by
        obtain ⟨hd, hm, e⟩ := List.mem_map.mp (List.mem_of_getElem? hu)
        have := hwb hd hm
        exact ⟨hd, e.symm, by omega, by omega⟩
      refine tAnd_any (fun R hR => ⟨_, rfl, _, rfl, _, rfl, c0, _, wk, _, rfl, rfl, hc9, atI_ints hwk.1 eh, rfl, _, rfl, hR _⟩) (fun R hR => tOr_any (fun R' hR' => ⟨_, rfl, _, rfl, hR' _⟩) (fun R' hR' => ⟨_, rfl, _, rfl, gb, _, rfl, .inl (SqL.of q9), rfl, flat_ints _, _, rfl, hR' _⟩) hR) (fun b => ?_)
      refine ite2 (fun _ => ?_) (fun _ => ?_)
      · exact ⟨_, rfl, hz, ⟨_, rfl⟩, zs ++ [hd], by rw [List.map_append]; rfl, by rw [List.length_append]; simp; omega, rfl, fun z hm => by
          rcases List.mem_append.mp hm with h | h
          · exact hzb z h
          · rw [List.mem_singleton.mp h]; exact hdb⟩
      · exact ⟨⟨_, rfl⟩, zs, rfl, by omega, rfl, hzb⟩
    rintro ys H' ⟨zs, rfl, hzl, rfl, hzb⟩ mo hmo
    rw [List.length_map] at hzl
    have s10 := Same.new (o := .lst (zs.map V.int)) hmo
    have m10 : upd H' mo (.lst (zs.map V.int)) mo = some (.lst (zs.map V.int)) := upd_same
    have nmt : mo ≠ t := T9.ne hmo
    have nms : mo ≠ sp := fun z => by rw [z, a9] at hmo; cases hmo
    generalize upd H' mo (.lst (zs.map V.int)) = H10 at s10 m10 ⊢
    have T10 := T9.same s10
    refine ⟨fun σ H11 => ∃ (L' : List (List Int)) (xs' : List V), σ = [some (.ref t), some (.ref ba), some (.ref c0), some (.ref sp), some (.ref lf), some (.int wk), some (.ref gb), some (.bl bk), some (.ref mo)] ∧ But t H H11 ∧ Tape K H11 t a ns ∧ Good K H11 (.ref ba) (.ref c0) n ws hs ∧ H11 sp = some (.lst xs') ∧ DenAll K H11 (L'.map workD) xs' ∧ L'.length ≤ 7 ∧ (∀ l ∈ L', St3 hs.length l) ∧ H11 mo = some (.lst (zs.map V.int)) ∧ (zs ≠ [] → L'.length = L.length + 1), ?_, ?_⟩
    · refine ⟨_, rfl, le1000 (Nat.zero_le _), fun z hz => ?_⟩
      have s11 := Same.new (o := .lst []) hz
      refine ⟨.list (zs.map .int), .list (([] : List Int).map .int), den_lints.mpr ⟨mo, rfl, SqL.of (s11 _ _ m10)⟩, den_lints.mpr ⟨z, rfl, SqL.of upd_same⟩, noDict_ints _, noDict_ints _, shaped_ints _, shaped_ints _, _, rfl, ?_⟩
      rw [eqv_lints]
      have s12 := s10.trans s11
      have m12 := s11 _ _ m10
      generalize upd H10 z (.lst []) = H12 at s11 s12 m12 ⊢
      have T12 := T9.same s12
      by_cases hzn : zs = []
      · rw [decide_eq_true hzn]
        refine iteF ?_
        exact ⟨L, xs, rfl, b9'.trans (But.of s12), T12, g9.same s12, s12 _ _ a9, s12.denAll _ _ d9, hL7, hL3, m12, fun z => absurd hzn z⟩
      · rw [decide_eq_false hzn]
        refine iteT ?_
        have hzpos : 0 < zs.length := List.length_pos_iff.mpr hzn
        refine ⟨_, rfl, .inl ⟨rfl, _, SqL.of (s12 _ _ a9)⟩, _, rfl, _, rfl, _, rfl, c0, _, wk, _, rfl, rfl, s12.seqT hc9, atI_ints hwk.1 eh, _, rfl, _, rfl, _, rfl, mo, _, rfl, .inl (SqL.of m12), t, a, ns, _, rfl, T12, by rw [List.length_map]; omega, by rw [List.length_map]; omega, fun rm H13 rm0 rm1 b13 T13 => ?_⟩
        rw [List.length_map] at rm1
        have em : zs[rm.toNat]? = some zs[rm.toNat] := List.getElem?_eq_getElem (by omega)
        have m13 := b13 _ _ nmt m12
        have a13 := b13 _ _ (Ne.symm nts) (s12 _ _ a9)
        have d13 := T12.denS b13 (s12.denAll _ _ d9)
        have g13 := T12.good b13 (g9.same s12)
        refine ⟨mo, _, rm, _, rfl, rfl, SqL.of m13, atI_ints rm0 em, le1000 (show 3 ≤ 1000 by decide), fun q hq => ?_⟩
        have s14 := Same.new (o := .tup [.int wk, .int hs[wk.toNat], .int zs[rm.toNat]]) hq
        have q14 : upd H13 q (.tup [.int wk, .int hs[wk.toNat], .int zs[rm.toNat]]) q = some (.tup [.int wk, .int hs[wk.toNat], .int zs[rm.toNat]]) := upd_same
        generalize upd H13 q (.tup [.int wk, .int hs[wk.toNat], .int zs[rm.toNat]]) = H14 at s14 q14 ⊢
        have a14 := s14 _ _ a13
        have T14 := T13.same s14
        refine ⟨sp, xs, .ref q, rfl, rfl, a14, Nat.lt_of_le_of_lt (show _ ≤ 30 by omega) (by rw [sizeLine_eq]; decide), ?_⟩
        have b15 : But sp H14 (upd H14 sp (.lst (xs ++ [.ref q]))) := But.at
        have nqs : q ≠ sp := fun z => by rw [z, a13] at hq; cases hq
        refine ⟨L ++ [[wk, hs[wk.toNat], zs[rm.toNat]]], xs ++ [.ref q], rfl, (((b9'.trans (But.of s12)).trans b13).trans (But.of s14)).wr hsp, T14.wr b15 nts F, ?_, upd_same, ?_, by rw [List.length_append]; simp; omega, fun l hl => ?_, ?_, fun _ => by rw [List.length_append]; rfl⟩
        · have g14 := g13.same s14
          exact ⟨b15.den a14 _ _ (noList_book n ws) g14.1, g14.2.1, b15.den a14 _ _ (noList_deal hs) g14.2.2.1, g14.2.2.2⟩
        · rw [List.map_append]
          refine denAll_append (b15.denAll a14 _ _ (noLists_map _ noList_work L) (s14.denAll _ _ d13)) (denAll_cons.mpr ⟨_, _, rfl, ?_, denAll_nil.mpr rfl⟩)
          exact den_tints.mpr ⟨q, rfl, b15.seqT a14 (SqT.of q14)⟩
        · rcases List.mem_append.mp hl with h | h
          · exact hL3 l h
          · rw [List.mem_singleton.mp h]; exact ⟨_, _, _, rfl, hwk.1, hwk.2, ⟨hgb.1, by omega⟩, hzb _ (List.getElem_mem (l := zs) (n := rm.toNat) (by omega))⟩
        · rw [upd_ne nms]; exact s14 _ _ m13
    · rintro σ H11 ⟨L', xs', rfl, b11, T11, g11, a11, d11, hL7', hL3', m11, hz11⟩
      have hxl' := denAll_length d11
      rw [List.length_map] at hxl'
      have hc11 : SqT K H11 c0 (hs.map V.int) := by
        obtain ⟨c', z, h⟩ := den_tints.mp g11.2.2.1
        cases z; exact h
      refine ⟨_, rfl, c0, _, rfl, .inr hc11, _, rfl, by rw [List.length_map]; omega, by rw [List.length_map]; omega, comp_range (lo := 0) (n := (((hs.map V.int).length : Nat) : Int).toNat) (fun σ => ∃ v, σ = [v, some (.ref c0), some (.ref sp)]) (fun i ys H' => ∃ js : List Int, ys = js.map V.int ∧ (∀ j ∈ js, 0 ≤ j ∧ j < i) ∧ js.length ≤ i ∧ Same H11 H') (le1000 (by rw [List.length_map]; omega)) ⟨none, rfl⟩ ⟨[], rfl, fun j h => (List.not_mem_nil h).elim, Nat.zero_le _, Same.refl _⟩
        (fun i ys H' ⟨js, e, _, h, _⟩ => by rw [e, List.length_map]; exact h) ?_ ?_⟩
      · rintro i ys σ H' hi ⟨v, rfl⟩ ⟨js, rfl, hj, hjl, s12⟩ hz
        rw [List.length_map] at hi
        have hi' : i < hs.length := by omega
        refine ⟨_, rfl, le1000 (Nat.zero_le _), fun z hz1 => ?_⟩
        have s13 := Same.new (o := .lst []) hz1
        have s14 := s12.trans s13
        refine ⟨.list (L'.map workD), .list [], den_steps (SqL.of (s14 _ _ a11)) (s14.denAll _ _ d11), den_list.mpr ⟨z, [], rfl, SqL.of upd_same, denAll_nil.mpr rfl⟩, noDict_steps L', rfl, shaped_steps L', rfl, _, rfl, ?_⟩
        rw [eqv_nil]
        generalize upd H' z (.lst []) = H15 at s13 s14 ⊢
        have yes : ∃ js_1 : List Int, js.map V.int ++ [V.int (0 + (i : Int))] = js_1.map V.int ∧ (∀ j ∈ js_1, 0 ≤ j ∧ j < ((i + 1 : Nat) : Int)) ∧ js_1.length ≤ i + 1 ∧ Same H11 H15 := ⟨js ++ [0 + (i : Int)], by rw [List.map_append]; rfl, fun j hm => by
          rcases List.mem_append.mp hm with h | h
          · have := hj j h; omega
          · rw [List.mem_singleton.mp h]; omega, by rw [List.length_append]; simp; omega, s14⟩
        have no : ∃ js_1 : List Int, js.map V.int = js_1.map V.int ∧ (∀ j ∈ js_1, 0 ≤ j ∧ j < ((i + 1 : Nat) : Int)) ∧ js_1.length ≤ i + 1 ∧ Same H11 H15 := ⟨js, rfl, fun j hm => by have := hj j hm; omega, by omega, s14⟩
        by_cases hLn : L' = []
        · rw [show (L'.map workD).isEmpty = true by rw [hLn]; rfl]
          refine iteF ?_
          refine iteF ?_
          exact ⟨⟨_, rfl⟩, no⟩
        · rw [show (L'.map workD).isEmpty = false by cases L' with | nil => exact absurd rfl hLn | cons _ _ => rfl]
          refine iteT ?_
          have hxp : 0 < xs'.length := by have := List.length_pos_iff.mpr hLn; omega
          obtain ⟨c1, kk, gg, tt, e3, el, q1⟩ := nth (s14.denAll _ _ d11) hL3' (List.getElem?_eq_getElem (l := xs') (i := xs'.length - 1) (by omega))
          refine ⟨_, rfl, _, rfl, c0, _, _, _, rfl, rfl, s14.seqT hc11, atI_ints (by omega) (show hs[(0 + (i : Int)).toNat]? = some hs[i] by rw [show (0 + (i : Int)).toNat = i by omega]; exact List.getElem?_eq_getElem hi'), _, rfl, 1, rfl, sp, xs', _, .ref c1, rfl, rfl, SqL.of (s14 _ _ a11), atI_neg1 (by rw [List.getElem?_eq_getElem (by omega), e3]), c1, _, 2, .int tt, rfl, rfl, q1, rfl, rfl, _, rfl, ?_⟩
          refine ite2 (fun _ => ?_) (fun _ => ?_)
          · exact ⟨_, rfl, hz, ⟨_, rfl⟩, yes⟩
          · exact ⟨⟨_, rfl⟩, no⟩
      · rintro ys H' ⟨js, rfl, hj, hjl, s12⟩ lf2 hlf2
        have hj' : ∀ j ∈ js, 0 ≤ j ∧ j < hs.length := fun j h => by have := hj j h; rw [List.length_map] at this; omega
        have s13 := s12.trans (Same.new (o := .lst (js.map V.int)) hlf2)
        have f13 : upd H' lf2 (.lst (js.map V.int)) lf2 = some (.lst (js.map V.int)) := upd_same
        have n2t : lf2 ≠ t := (T11.same s12).ne hlf2
        have n2s : lf2 ≠ sp := fun z => by rw [z, s12 _ _ a11] at hlf2; cases hlf2
        generalize upd H' lf2 (.lst (js.map V.int)) = H13 at s13 f13 ⊢
        have T13 := T11.same s13
        refine ⟨_, rfl, le1000 (Nat.zero_le _), fun z hz => ?_⟩
        have s14 := Same.new (o := .lst []) hz
        refine ⟨.list (zs.map .int), .list (([] : List Int).map .int), den_lints.mpr ⟨mo, rfl, SqL.of (s14 _ _ (s13 _ _ m11))⟩, den_lints.mpr ⟨z, rfl, SqL.of upd_same⟩, noDict_ints _, noDict_ints _, shaped_ints _, shaped_ints _, _, rfl, ?_⟩
        rw [eqv_lints]
        have s15 := s13.trans s14
        have f15 := s14 _ _ f13
        generalize upd H13 z (.lst []) = H15 at s14 s15 f15 ⊢
        have T15 := T11.same s15
        -- left = []
        have nil : ∀ H16, But t H H16 → Tape K H16 t a ns → Good K H16 (.ref ba) (.ref c0) n ws hs → H16 sp = some (.lst xs') → DenAll K H16 (L'.map workD) xs' → ∀ l, H16 l = none → ∃ (lf : Addr) (ls : List Int) (L' : List (List Int)) (xs : List V) (v5 v6 v7 v8 : Option V), [some (.ref t), some (.ref ba), some (.ref c0), some (.ref sp), some (.ref l), some (.int wk), some (.ref gb), some (.bl bk), some (.ref mo)] = [some (.ref t), some (.ref ba), some (.ref c0), some (.ref sp), some (.ref lf), v5, v6, v7, v8] ∧ (if ls = [] then 0 else 8 - L'.length) < 8 - L.length ∧
            But t H (upd H16 l (.lst [])) ∧ Tape K (upd H16 l (.lst [])) t a ns ∧ Good K (upd H16 l (.lst [])) (.ref ba) (.ref c0) n ws hs ∧ upd H16 l (.lst []) sp = some (.lst xs) ∧ DenAll K (upd H16 l (.lst [])) (L'.map workD) xs ∧ L'.length ≤ 7 ∧ (ls ≠ [] → L'.length ≤ 6) ∧ (∀ l ∈ L', St3 hs.length l) ∧ upd H16 l (.lst []) lf = some (.lst (ls.map V.int)) ∧ lf ≠ t ∧ lf ≠ sp ∧ (∀ j ∈ ls, 0 ≤ j ∧ j < hs.length) ∧ ls.length ≤ 12 := fun H16 b16 T16 g16 a16 d16 l hl => by
          have s17 := Same.new (o := .lst []) hl
          exact ⟨l, [], L', xs', _, _, _, _, rfl, by rw [if_pos rfl]; omega, b16.trans (But.of s17), T16.same s17, g16.same s17, s17 _ _ a16, s17.denAll _ _ d16, hL7', fun z => absurd rfl z, hL3', upd_same, T16.ne hl, (fun z => by rw [z, a16] at hl; cases hl), (fun j h => (List.not_mem_nil h).elim), Nat.zero_le _⟩
        have b15 := b11.trans (But.of s15)
        have g15 := g11.same s15
        have a15 := s15 _ _ a11
        have d15 := s15.denAll _ _ d11
        by_cases hzn : zs = []
        · rw [decide_eq_true hzn]
          refine iteT ?_
          refine iteT ?_
          exact ⟨le1000 (Nat.zero_le _), fun l hl => nil H15 b15 T15 g15 a15 d15 l hl⟩
        · rw [decide_eq_false hzn]
          refine iteF ?_
          have hLL := hz11 hzn
          refine ⟨_, rfl, sp, _, rfl, .inl (SqL.of a15), _, _, rfl, rfl, _, rfl, ?_⟩
          by_cases h6 : (6 : Int) < xs'.length
          · rw [decide_eq_true h6]
            refine iteT ?_
            refine iteT ?_
            exact ⟨le1000 (Nat.zero_le _), fun l hl => nil H15 b15 T15 g15 a15 d15 l hl⟩
          · rw [decide_eq_false h6]
            refine iteF ?_
            refine ⟨_, rfl, t, a, ns, 5, rfl, T15, by decide, by decide, fun r5 H16 r50 r51 b16 T16 => ⟨rfl, _, rfl, ?_⟩⟩
            refine ite2 (fun _ => ?_) (fun _ => ?_)
            · exact ⟨le1000 (Nat.zero_le _), fun l hl => nil H16 (b15.trans b16) T16 (T15.good b16 g15) (b16 _ _ (Ne.symm nts) a15) (T15.denS b16 d15) l hl⟩
            · refine ⟨lf2, js, L', xs', _, _, _, _, rfl, ?_, b15.trans b16, T16, T15.good b16 g15, b16 _ _ (Ne.symm nts) a15, T15.denS b16 d15, hL7', fun _ => by omega, hL3', b16 _ _ n2t f15, n2t, n2s, hj', by have := hl12; rw [List.length_map] at hjl; omega⟩
              split <;> omega
end
end Ab
set_option Elab.async false
set_option linter.all false
set_option maxRecDepth 100000
namespace L2
open PySem
section
variable {K : PySem.W.Frag} {S S' : List Addr} {H H' : Hp}
def IB (_ : Hp) (x : V) : Prop := ∃ i : Int, x = .int i ∧ i.natAbs < 10 ^ 38
instance : Mo IB := ⟨fun _ h => h⟩
abbrev T10 (K : PySem.W.Frag) (S : List Addr) : Hp → V → Prop := DTe K S IB 10
abbrev SL (K : PySem.W.Frag) (S : List Addr) (n : Nat) : Hp → V → Prop := LTe S (T10 K S) n
theorem T10.move {x : V} (e : Same (Vw S H) (Vw S' H')) (h : T10 K S H x) : T10 K S' H' x := by
  obtain ⟨a, xs, h1, h2, h3, h4⟩ := h
  exact ⟨a, xs, h1, e.seqT h2, h3, h4⟩
theorem SL.move {n : Nat} {x : V} (e : Same (Vw S H) (Vw S' H')) (h : SL K S n H x) : SL K S' n H' x := by
  obtain ⟨a, xs, h1, h2, h3, h4⟩ := h
  exact ⟨a, xs, h1, e _ _ h2, h3, fun y hy => T10.move e (h4 y hy)⟩
theorem SL.mono {n m : Nat} {x : V} (h : SL K S n H x) (hn : n ≤ m) : SL K S m H x := by
  obtain ⟨a, xs, h1, h2, h3, h4⟩ := h
  exact ⟨a, xs, h1, h2, Nat.le_trans h3 hn, h4⟩
theorem ints_of : ∀ {xs : List V}, (∀ x ∈ xs, IB H x) → ∃ l : List Int, xs = l.map V.int ∧ ∀ i ∈ l, i.natAbs < 10 ^ 38
  | [], _ => ⟨[], rfl, fun _ h => (List.not_mem_nil h).elim⟩
  | x :: r, h => by
    obtain ⟨i, rfl, hi⟩ := h x (List.mem_cons_self ..)
    obtain ⟨l, rfl, hl⟩ := ints_of (xs := r) fun y hy => h y (List.mem_cons_of_mem _ hy)
    refine ⟨i :: l, rfl, fun j hj => ?_⟩
    rcases List.mem_cons.mp hj with rfl | hj
    · exact hi
    · exact hl j hj
theorem T10.ints {x : V} (h : T10 K S H x) : ∃ (b : Addr) (l : List Int), x = .ref b ∧ SqT K (Vw S H) b (l.map V.int) ∧ l.length ≤ 10 ∧ ∀ i ∈ l, i.natAbs < 10 ^ 38 := by
  obtain ⟨a, xs, h1, h2, h3, h4⟩ := h
  obtain ⟨l, rfl, hb⟩ := ints_of h4
  exact ⟨a, l, h1, h2, by simpa using h3, hb⟩
theorem T10.of {b : Addr} {l : List Int} (f : Fx S H) (h : SqT K H b (l.map V.int)) (hl : l.length ≤ 10) (hb : ∀ i ∈ l, i.natAbs < 10 ^ 38) : T10 K S H (.ref b) := ⟨b, _, rfl, f.seqT h, by rw [List.length_map]; exact hl, fun y hy => by
  obtain ⟨i, hi, rfl⟩ := List.mem_map.mp hy
  exact ⟨i, rfl, hb i hi⟩⟩
theorem lst_goE {E : Hp → V → Prop} {σ : St} {t : TA} {Q : VK} {n : Nat} (f : Fx S H) (h : AlE H S E n t σ) (k : ∀ p xs H1, Same H H1 → H1 p = none → xs.length = n → (∀ x ∈ xs, E H1 x) → Q (.ref p) (upd H1 p (.lst xs))) (hn : n ≤ 1000 := by decide) : tLst t σ H Q :=
  h H (Same.refl H) f _ fun vs H1 s1 l d => ⟨by rw [l]; exact Nat.le_of_lt (small1000 hn), fun p hp => k p vs H1 s1 hp l d⟩
theorem set_go {te : TE} {i : Nat} {u : TS} {D : Ends} {σ : St} {H : Hp} (h : te σ H fun v H1 => u D (σ.set i (some v)) H1) : tSeq (tAsg te (gName i)) u D σ H := h
theorem cons1_go {te : TE} {σ : St} {R : Hp → V → Prop} {Q : List V → Hp → Prop} (f : Fx S H) (h : Al H S te σ R) (k : ∀ v H', Same H H' → R H' v → Q [v] H') : tCons te tNil σ H Q := h H (Same.refl H) f _ fun v H1 s1 r => k v H1 s1 r
theorem Vw.more {p : Addr} {u : HO} (h : H p = none) : Same (Vw S H) (Vw (p :: S) (upd H p u)) := fun b o q => by
  by_cases z : b ∈ S
  · unfold Vw at q; rw [if_pos z] at q; cases q
  · rw [Vw.out z] at q
    have n : b ≠ p := fun w => by rw [w, h] at q; cases q
    rw [Vw.out (by simp [z, n]), upd_ne n]
    exact q
theorem Vw.swap {p p' t : Addr} {u : HO} (h : H p' = none) : Same (Vw [p, t] H) (Vw [p', t] (upd H p' u)) := fun b o q => by
  by_cases z : b ∈ [p, t]
  · unfold Vw at q; rw [if_pos z] at q; cases q
  · rw [Vw.out z] at q
    have n : b ≠ p' := fun w => by rw [w, h] at q; cases q
    have n2 : b ≠ t := fun w => z (by simp [w])
    rw [Vw.out (by simp [n, n2]), upd_ne n]
    exact q
end
end L2
namespace Ab
open PySem L2
section
variable {P : Program} {w : World} {K : PySem.W.Frag} {mg : Str → Option Value} {base : Heap}
theorem T10s_den {S : List Addr} {H : Hp} : ∀ {xs : List V}, (∀ x ∈ xs, T10 K S H x) → ∃ L : List (List Int), DenAll K (Vw S H) (L.map workD) xs ∧ L.length = xs.length ∧ ∀ l ∈ L, l.length ≤ 10 ∧ ∀ i ∈ l, i.natAbs < 10 ^ 38
  | [], _ => ⟨[], denAll_nil.mpr rfl, rfl, fun _ h => (List.not_mem_nil h).elim⟩
  | x :: r, h => by
    obtain ⟨b, l, rfl, h1, h2, h3⟩ := T10.ints (h x (List.mem_cons_self ..))
    obtain ⟨L, d, e, k⟩ := T10s_den (xs := r) fun y hy => h y (List.mem_cons_of_mem _ hy)
    refine ⟨l :: L, denAll_cons.mpr ⟨_, _, rfl, den_tints.mpr ⟨b, rfl, h1⟩, d⟩, by rw [List.length_cons, e]; rfl, fun l' hl' => ?_⟩
    rcases List.mem_cons.mp hl' with rfl | hl'
    · exact ⟨h2, h3⟩
    · exact k l' hl'
theorem Tape.fx {H : Hp} {t a : Addr} {ns : List Int} (T : Tape K H t a ns) : Fx [t] H := fun b hb => by
  rw [List.mem_singleton.mp hb]
  obtain ⟨⟨p, q, _, e⟩, _⟩ := T
  exact ⟨_, e⟩
theorem But.vw {t : Addr} {S : List Addr} {H H' : Hp} (b : But t H H') (h : t ∈ S) : Same (Vw S H) (Vw S H') := Vw.keep fun c o n q => b c o (fun z => n (z ▸ h)) q
def spTwice (K : PySem.W.Frag) : Sp := fun vs H Q _ => ∃ (t a : Addr) (ns : List Int) (x : V) (n : Int) (ws : List (List Int)) (p : Addr) (xs : List V) (L : List (List Int)), vs = [.ref t, x, .ref p] ∧ Tape K H t a ns ∧ Den K H (bookD n ws) x ∧ isBook (bookD n ws) = true ∧ H p = some (.lst xs) ∧ DenAll K H (L.map workD) xs ∧ (∀ l ∈ L, St3 ws.length l) ∧
  ∀ q H', But t H H' → Tape K H' t a ns → H q = none → SL K [t] 2 H' (.ref q) → Q (.ref q) H'
theorem scTwice : FnScope ["tape", "book", "some", "work", "giver", "taker", "able"] ["tape", "book", "some"] (defScope sTwice) := ⟨rfl, rfl, rfl, by decide +kernel, rfl, by decide +kernel, by decide +kernel⟩
set_option maxHeartbeats 2000000 in
theorem ok_twice {f fD : Addr} {fd dD : FuncData} (G : Fn K mg "_law_b_twice" sTwice ["tape", "book", "some"] f fd) (B : Bl mg) (GD : Fn K mg "_law_b_digit" sDigit ["tape", "many"] fD dD) (OD : FnOk P w K mg base CX0 2 fD dD ["tape", "many"] (spDigit K)) : FnOk P w K mg base CX0 3 f fd ["tape", "book", "some"] (spTwice K) := by
  refine G.fn.ok scTwice (fun vs H Q E h => ?_) (fun cdv A outer s H vs Q E hr h => ?_)
  · obtain ⟨t, a, ns, x, n, ws, p, xs, L, rfl, _⟩ := h
    rfl
  · obtain ⟨t, a, ns, x, n, ws, p, xs, L, rfl, T, hbk, hb, hp, d, h3, k⟩ := h
    have r2 : Room 2 _ := hr
    refine ⟨_, (pss_cons (ps_if (pt_cmpR (op_eqD hr.u64) (pv 2) (pe_lst pa_nil) (nomark _))
      (pss_one (ps_ret (pe_lst (pa_cons (pe_tup (pa_cons pe_int (pa_cons pe_int (pa_cons pe_int pa_nil)))) (pa_cons (pe_tup (pa_cons pe_int (pa_cons pe_int (pa_cons pe_int pa_nil)))) pa_nil)))))
      pss_nil)
    (pss_cons (ps_asg (pe_ix ix_list (pv 2) pe_int (fun _ _ => rfl)) (pg_tup rfl (pgs_cons (pg_name (i := 3) scTwice.nd rfl (Or.inl rfl)) (pgs_cons (pg_name (i := 4) scTwice.nd rfl (Or.inl rfl)) (pgs_cons (pg_name (i := 5) scTwice.nd rfl (Or.inl rfl)) pgs_nil)))))
    (pss_cons (ps_set (i := 6) scTwice.nd rfl (Or.inl rfl) (pe_ix ix_tup (pe_ix ix_tup (pv 1) pe_int (fun _ _ => rfl)) (pv 3) (fun _ _ => rfl)))
    (pss_one (ps_ret (pe_lst (pa_cons (pe_tup (pa_cons (pv 3) (pa_cons (pv 4) (pa_cons (pv 5) pa_nil)))) (pa_cons (pe_tup (pa_cons (pv 3) (pa_cons (pv 5) (pa_cons (pe_ix ix_tup (pv 6) (pe_fn GD OD r2 rfl (pa_cons (pv 0) (pa_cons (pe_callB call_len_seq rfl B.len b_len (pa_cons (pv 6) pa_nil)) pa_nil))) (fun _ _ => rfl)) pa_nil)))) pa_nil)))))))), ?_⟩
    have hxl := denAll_length d
    rw [List.length_map] at hxl
    refine ⟨_, rfl, le1000 (Nat.zero_le _), fun z hz => ?_⟩
    have s1 := Same.new (o := .lst []) hz
    refine ⟨.list (L.map workD), .list [], den_steps (SqL.of (s1 _ _ hp)) (s1.denAll _ _ d), den_list.mpr ⟨z, [], rfl, SqL.of upd_same, denAll_nil.mpr rfl⟩, noDict_steps L, rfl, shaped_steps L, rfl, _, rfl, ?_⟩
    rw [eqv_nil]
    generalize upd H z (.lst []) = H1 at s1 ⊢
    have T1 := T.same s1
    have F1 := T1.fx
    refine ite2 (fun c => ?_) (fun c => ?_)
    · have i0 : ∀ {σ : St}, Al H1 [t] (tC (.int 0)) σ IB := al_c ⟨0, rfl, by decide⟩
      refine lst_goE F1 (alE_cons (alE_tup (K := K) (alE_cons i0 (alE_cons i0 (alE_cons i0 alE_nil)))) (alE_cons (alE_tup (K := K) (alE_cons i0 (alE_cons i0 (alE_cons i0 alE_nil)))) alE_nil)) fun q vs H2 s2 hq hl hv => ?_
      have s3 := Same.new (o := .lst vs) hq
      refine k q _ (But.of ((s1.trans s2).trans s3)) (T1.same (s2.trans s3)) ((s1.trans s2).free hq) ⟨q, vs, rfl, Vw.at (F1.same s2) hq, by omega, fun y hy => ?_⟩
      obtain ⟨b', l', e1, e2, e3, e4⟩ := hv y hy
      exact T10.move (Vw.same s3) ⟨b', l', e1, e2, Nat.le_trans e3 (by decide), e4⟩
    · have hne : L ≠ [] := fun z => by subst z; exact c rfl
      have h0 : 0 < L.length := List.length_pos_iff.mpr hne
      have el : L[0]? = some L[0] := List.getElem?_eq_getElem h0
      obtain ⟨kk, gg, tt, e3, k0, k1, g01, t01⟩ := h3 _ (List.getElem_mem h0)
      rw [e3] at el
      obtain ⟨c1, e1, e2⟩ := denAll_nth (s1.denAll _ _ d) el
      refine ⟨_, rfl, p, xs, 0, .ref c1, rfl, rfl, SqL.of (s1 _ _ hp), atI_nat e1, c1, _, rfl, e2, rfl, _, _, rfl, _, _, rfl, _, _, rfl, rfl, ?_⟩
      obtain ⟨ba, bb, ys2, rfl, ha, hb2, hys⟩ := den_book (s1.den _ _ hbk)
      obtain ⟨_, _, hw12, hws⟩ := book_parts hb
      have hkl : kk.toNat < ws.length := by omega
      have ew : ws[kk.toNat]? = some ws[kk.toNat] := List.getElem?_eq_getElem hkl
      obtain ⟨cw, e4, e5⟩ := denAll_nth hys ew
      refine ⟨_, rfl, ba, _, 1, .ref bb, rfl, rfl, ha, rfl, _, rfl, bb, _, _, _, rfl, rfl, hb2, atI_vs k0 e4, ?_⟩
      obtain ⟨w1, w2, w3⟩ := work_parts (hws _ (List.getElem_mem hkl))
      have hwp : 0 < (ws[kk.toNat]).length := List.length_pos_iff.mpr w1
      have hws6 : (ws[kk.toNat]).length ≤ 6 := by
        obtain ⟨n1, n6, _⟩ := book_parts hb
        have := work_short (by omega) w2 w3
        omega
      refine ⟨_, rfl, _, rfl, _, rfl, le1000 (show 3 ≤ 1000 by decide), fun q1 hq1 => ?_⟩
      have s2 := Same.new (o := .tup [.int kk, .int gg, .int tt]) hq1
      have u2 : upd H1 q1 (.tup [.int kk, .int gg, .int tt]) q1 = some (.tup [.int kk, .int gg, .int tt]) := upd_same
      generalize upd H1 q1 (.tup [.int kk, .int gg, .int tt]) = H2 at s2 u2 ⊢
      have T2 := T1.same s2
      refine ⟨_, rfl, _, rfl, _, rfl, _, rfl, _, rfl, cw, _, rfl, .inr (s2.seqT e5), t, a, ns, _, rfl, T2, by rw [List.length_map]; omega, by rw [List.length_map]; omega, fun r H3 r0 r1 b3 T3 => ?_⟩
      rw [List.length_map] at r1
      have er : (ws[kk.toNat])[r.toNat]? = some (ws[kk.toNat])[r.toNat] := List.getElem?_eq_getElem (by omega)
      refine ⟨cw, _, r, _, rfl, rfl, T2.seqT b3 (s2.seqT e5), atI_ints r0 er, le1000 (show 3 ≤ 1000 by decide), fun q2 hq2 => ?_⟩
      have u3 : SqT K H3 q1 [.int kk, .int gg, .int tt] := T2.seqT b3 (SqT.of u2)
      have s4 := Same.new (o := .tup [.int kk, .int tt, .int (ws[kk.toNat])[r.toNat]]) hq2
      have u4 : upd H3 q2 (.tup [.int kk, .int tt, .int (ws[kk.toNat])[r.toNat]]) q2 = some (.tup [.int kk, .int tt, .int (ws[kk.toNat])[r.toNat]]) := upd_same
      generalize upd H3 q2 (.tup [.int kk, .int tt, .int (ws[kk.toNat])[r.toNat]]) = H4 at s4 u4 ⊢
      have T4 := T3.same s4
      refine ⟨sz2 _ _, fun q hq => ?_⟩
      have s5 := Same.new (o := .lst [.ref q1, .ref q2]) hq
      have b4 : But t H H4 := ((But.of (s1.trans s2)).trans b3).trans (But.of s4)
      refine k q _ (b4.trans (But.of s5)) (T4.same s5) (b4.free hq (T4.ne hq)) ⟨q, _, rfl, Vw.at T4.fx hq, Nat.le_refl _, fun y hy => ?_⟩
      have F5 := (T4.same s5).fx
      simp only [List.mem_cons, List.not_mem_nil, or_false] at hy
      rcases hy with rfl | rfl
      · exact T10.of (l := [kk, gg, tt]) F5 (s5.seqT (s4.seqT u3)) (by show 3 ≤ 10; decide) (fun i hi => by
          simp only [List.mem_cons, List.not_mem_nil, or_false] at hi
          rcases hi with rfl | rfl | rfl <;> omega)
      · have hwr := w2 _ (List.getElem_mem (l := ws[kk.toNat]) (n := r.toNat) (by omega))
        obtain ⟨n1, n6, _⟩ := book_parts hb
        exact T10.of (l := [kk, tt, (ws[kk.toNat])[r.toNat]]) F5 (SqT.of (s5 _ _ u4)) (by show 3 ≤ 10; decide) (fun i hi => by
          simp only [List.mem_cons, List.not_mem_nil, or_false] at hi
          rcases hi with rfl | rfl | rfl <;> omega)
end
end Ab
set_option Elab.async false
set_option linter.all false
set_option maxRecDepth 100000
namespace Ab
open PySem L2
section
variable {P : Program} {w : World} {K : PySem.W.Frag} {mg : Str → Option Value} {base : Heap}
def S3 (K : PySem.W.Frag) (S : List Addr) (p : Addr) (xs : List V) (H : Hp) : Prop := Vw S H p = some (.lst xs) ∧ ∀ y ∈ xs, ∃ (c : Addr) (kk gg tt : Int), y = .ref c ∧ SqT K (Vw S H) c [.int kk, .int gg, .int tt] ∧ kk.natAbs < 100 ∧ gg.natAbs < 100 ∧ tt.natAbs < 100
theorem S3.move {S S' : List Addr} {H H' : Hp} {p : Addr} {xs : List V} (e : Same (Vw S H) (Vw S' H')) (h : S3 K S p xs H) : S3 K S' p xs H' := ⟨e _ _ h.1, fun y hy => let ⟨c, kk, gg, tt, e1, e2, e3⟩ := h.2 y hy; ⟨c, kk, gg, tt, e1, e.seqT e2, e3⟩⟩
theorem S3.sl {S : List Addr} {H : Hp} {p : Addr} {xs : List V} (h : S3 K S p xs H) (hl : xs.length ≤ 7) : SL K S 7 H (.ref p) := ⟨p, xs, rfl, h.1, hl, fun y hy => by
  obtain ⟨c, kk, gg, tt, rfl, e2, e3⟩ := h.2 y hy
  refine ⟨c, _, rfl, e2, by show 3 ≤ 10; decide, fun z hz => ?_⟩
  simp only [List.mem_cons, List.not_mem_nil, or_false] at hz
  rcases hz with rfl | rfl | rfl <;> exact ⟨_, rfl, by omega⟩⟩
theorem SL.fx {S S' : List Addr} {H : Hp} {q : Addr} {k : Nat} (h : SL K S k H (.ref q)) (f : Fx S' H) (n : q ∉ S') : SL K S' k H (.ref q) := by
  obtain ⟨a, xs, e, h2, h3, h4⟩ := h
  cases e
  refine ⟨q, xs, rfl, by rw [Vw.out n]; exact Vw.sub _ _ h2, h3, fun y hy => ?_⟩
  obtain ⟨b, l, e1, e2, e3, e4⟩ := h4 y hy
  exact ⟨b, l, e1, f.seqT (Vw.sub.seqT e2), e3, e4⟩
structure Bt (K : PySem.W.Frag) (H0 : Hp) (t a : Addr) (ns : List Int) (x y : V) (n : Int) (ws : List (List Int)) (hs : List Int) (p : Addr) (xs : List V) (fl : Addr) (m : Nat) (H : Hp) : Prop where
  but : But t H0 H
  T : Tape K H t a ns
  g : Good K H x y n ws hs
  sm : S3 K [fl, t] p xs H
  fl0 : H0 fl = none
  ft : fl ≠ t
  far : Far K a fl ns
  it : ∃ items, H fl = some (.lst items) ∧ (items.length ≤ m ∧ 1 ≤ items.length) ∧ ∀ v ∈ items, SL K [fl, t] 30 H v
variable {H0 H H' : Hp} {t a : Addr} {ns : List Int} {x y : V} {n : Int} {ws : List (List Int)} {hs : List Int} {p fl : Addr} {xs : List V} {m : Nat}
theorem Bt.fx (b : Bt K H0 t a ns x y n ws hs p xs fl m H) : Fx [fl, t] H := fun c hc => by
  simp only [List.mem_cons, List.not_mem_nil, or_false] at hc
  rcases hc with rfl | rfl
  · obtain ⟨items, h, _⟩ := b.it; exact ⟨items, h⟩
  · obtain ⟨⟨p, q, _, e⟩, _⟩ := b.T; exact ⟨_, e⟩
theorem Bt.same (b : Bt K H0 t a ns x y n ws hs p xs fl m H) (s : Same H H') : Bt K H0 t a ns x y n ws hs p xs fl m H' :=
  ⟨b.but.trans (But.of s), b.T.same s, b.g.same s, S3.move (Vw.same s) b.sm, b.fl0, b.ft, b.far, let ⟨items, h1, h2, h3⟩ := b.it; ⟨items, s _ _ h1, h2, fun v hv => SL.move (Vw.same s) (h3 v hv)⟩⟩
theorem Bt.dig (b : Bt K H0 t a ns x y n ws hs p xs fl m H) (e : But t H H') (T' : Tape K H' t a ns) : Bt K H0 t a ns x y n ws hs p xs fl m H' := by
  have v : Same (Vw [fl, t] H) (Vw [fl, t] H') := e.vw (by simp)
  obtain ⟨items, h1, h2, h3⟩ := b.it
  exact ⟨b.but.trans e, T', b.T.good e b.g, S3.move v b.sm, b.fl0, b.ft, b.far, items, e _ _ b.ft h1, h2, fun w hw => SL.move v (h3 w hw)⟩
theorem Bt.mono {m' : Nat} (b : Bt K H0 t a ns x y n ws hs p xs fl m H) (h : m ≤ m') : Bt K H0 t a ns x y n ws hs p xs fl m' H :=
  ⟨b.but, b.T, b.g, b.sm, b.fl0, b.ft, b.far, let ⟨items, h1, h2, h3⟩ := b.it; ⟨items, h1, ⟨Nat.le_trans h2.1 h, h2.2⟩, h3⟩⟩
theorem Bt.app {v : V} {items : List V} (b : Bt K H0 t a ns x y n ws hs p xs fl m H) (h1 : H fl = some (.lst items)) (hv : SL K [fl, t] 30 H v) : Bt K H0 t a ns x y n ws hs p xs fl (m + 1) (upd H fl (.lst (items ++ [v]))) ∧ Same (Vw [fl, t] H) (Vw [fl, t] (upd H fl (.lst (items ++ [v])))) := by
  have bt : But fl H (upd H fl (.lst (items ++ [v]))) := But.at
  have e : Same (Vw [fl, t] H) (Vw [fl, t] (upd H fl (.lst (items ++ [v])))) := bt.vw (by simp)
  obtain ⟨items', h1', h2, h3⟩ := b.it
  rw [h1] at h1'
  obtain rfl : items = items' := by injection (Option.some.inj h1')
  refine ⟨⟨b.but.wr b.fl0, b.T.wr bt (Ne.symm b.ft) b.far, ⟨bt.den h1 _ _ (noList_book n ws) b.g.1, b.g.2.1, bt.den h1 _ _ (noList_deal hs) b.g.2.2.1, b.g.2.2.2⟩, S3.move e b.sm, b.fl0, b.ft, b.far, _, upd_same, by rw [List.length_append]; simp; omega, fun u hu => ?_⟩, e⟩
  rcases List.mem_append.mp hu with hu | hu
  · exact SL.move e (h3 u hu)
  · rw [List.mem_singleton.mp hu]; exact SL.move e hv
theorem Bt.cat {vs items : List V} {fl' : Addr} (b : Bt K H0 t a ns x y n ws hs p xs fl m H) (h1 : H fl = some (.lst items)) (hv : ∀ v ∈ vs, SL K [fl, t] 30 H v) (h : H fl' = none) : Bt K H0 t a ns x y n ws hs p xs fl' (m + vs.length) (upd H fl' (.lst (items ++ vs))) ∧ Same (Vw [fl, t] H) (Vw [fl', t] (upd H fl' (.lst (items ++ vs)))) := by
  have e : Same (Vw [fl, t] H) (Vw [fl', t] (upd H fl' (.lst (items ++ vs)))) := Vw.swap h
  have s := Same.new (o := .lst (items ++ vs)) h
  obtain ⟨items', h1', h2, h3⟩ := b.it
  rw [h1] at h1'
  obtain rfl : items = items' := by injection (Option.some.inj h1')
  have ft := b.T.ne h
  refine ⟨⟨b.but.trans (But.of s), b.T.same s, b.g.same s, S3.move e b.sm, b.but.free h ft, ft, far_of b.T.2 h, _, upd_same, by rw [List.length_append]; omega, fun u hu => ?_⟩, e⟩
  rcases List.mem_append.mp hu with hu | hu
  · exact SL.move e (h3 u hu)
  · exact SL.move e (hv u hu)
def spBent (K : PySem.W.Frag) : Sp := fun vs H Q _ => ∃ (t a : Addr) (ns : List Int) (x y : V) (n : Int) (ws : List (List Int)) (hs : List Int) (p : Addr) (xs : List V) (L : List (List Int)), vs = [.ref t, x, y, .ref p] ∧ Tape K H t a ns ∧ Good K H x y n ws hs ∧ H p = some (.lst xs) ∧ DenAll K H (L.map workD) xs ∧ L.length ≤ 7 ∧ (∀ l ∈ L, St3 hs.length l) ∧
  ∀ q H', Bt K H t a ns x y n ws hs p xs q 80 H' → Q (.ref q) H'
theorem scBent : FnScope ["tape", "book", "deal", "some", "far", "found", "turn", "at", "ahead", "step", "behind", "odd"] ["tape", "book", "deal", "some"] (defScope sBent) := ⟨rfl, rfl, rfl, by decide +kernel, rfl, by decide +kernel, by decide +kernel⟩
section
variable {S : List Addr} {σ : St} {te ta : TE}
theorem al_T10 {k : Nat} {tt : TA} (h : AlE H0 S IB k tt σ) (hk : k ≤ 10 := by decide) : Al H0 S (tTup tt) σ (T10 K S) := (alE_tup (K := K) h (by omega)).weak fun _ _ ⟨b, l, e1, e2, e3, e4⟩ => ⟨b, l, e1, e2, Nat.le_trans e3 hk, e4⟩
theorem al_T10w {k : Nat} (h : Al H0 S te σ (DTe K S IB k)) (hk : k ≤ 10 := by decide) : Al H0 S te σ (T10 K S) := h.weak fun _ _ ⟨b, l, e1, e2, e3, e4⟩ => ⟨b, l, e1, e2, Nat.le_trans e3 hk, e4⟩
theorem al_SL1 {k : Nat} {tt : TA} (h : AlE H0 S (T10 K S) k tt σ) (hk : k ≤ 1000 := by decide) : Al H0 S (tLst tt) σ (SL K S k) := alE_lst h hk
theorem al_SLm {k k' : Nat} (h : Al H0 S te σ (SL K S k)) (hk : k ≤ k' := by decide) : Al H0 S te σ (SL K S k') := h.weak fun _ _ r => SL.mono r hk
end
theorem den_notnil {S : List Addr} {p : Addr} {k : Nat} (h : SL K S k H (.ref p)) : ∃ (xs : List V) (L : List (List Int)), H p = some (.lst xs) ∧ DenAll K H (L.map workD) xs ∧ L.length = xs.length ∧ xs.length ≤ k ∧ ∀ l ∈ L, l.length ≤ 10 ∧ ∀ i ∈ l, i.natAbs < 10 ^ 38 := by
  obtain ⟨a, xs, e, h2, h3, h4⟩ := h
  cases e
  obtain ⟨L, d, e1, e2⟩ := T10s_den h4
  exact ⟨xs, L, Vw.sub _ _ h2, Vw.sub.denAll _ _ d, e1, h3, e2⟩
end
end Ab
set_option Elab.async false
set_option linter.all false
set_option maxRecDepth 100000
namespace Ab
open PySem L2
section
variable {P : Program} {w : World} {K : PySem.W.Frag} {mg : Str → Option Value} {base : Heap}
set_option maxHeartbeats 4000000 in
theorem ok_bent {f fD fT : Addr} {fd dD dT : FuncData} (G : Fn K mg "_law_b_bent" sBent ["tape", "book", "deal", "some"] f fd) (B : Bl mg) (GD : Fn K mg "_law_b_digit" sDigit ["tape", "many"] fD dD) (OD : FnOk P w K mg base CX0 2 fD dD ["tape", "many"] (spDigit K))
    (GTw : Fn K mg "_law_b_twice" sTwice ["tape", "book", "some"] fT dT) : FnOk P w K mg base CX0 4 f fd ["tape", "book", "deal", "some"] (spBent K) := by
  have OTw : FnOk P w K mg base CX0 3 fT dT ["tape", "book", "some"] (spTwice K) := ok_twice GTw B GD OD
  refine G.fn.ok scBent (fun vs H Q E h => ?_) (fun cdv A outer s H vs Q E hr h => ?_)
  · obtain ⟨t, a, ns, x, y, n, ws, hs, p, xs, L, rfl, _⟩ := h
    rfl
  · obtain ⟨t, a, ns, x, y, n, ws, hs, p, xs, L, rfl, T, g, hp, d, hL7, h3, k⟩ := h
    have r2 : Room 2 _ := hr.mono (by decide)
    have r3 : Room 3 _ := hr
    refine ⟨_, (pss_cons (ps_set (i := 4) scBent.nd rfl (Or.inl rfl) (pe_fn GD OD r2 rfl (pa_cons (pv 0) (pa_cons (pe_op op_pow pe_int pe_int) pa_nil))))
    (pss_cons (ps_set (i := 5) scBent.nd rfl (Or.inl rfl) (pe_lst (pa_cons (pv 3) (pa_cons (pe_revL (pv 3) (pe_un un_neg pe_int)) (pa_cons (pe_op op_cat (pv 3) (pe_slice sl_list (pv 3) po_none (po_some pe_int))) (pa_cons (pe_op op_cat (pv 3) (pe_lst (pa_cons (pe_tup (pa_cons pe_int (pa_cons pe_int (pa_cons pe_int pa_nil)))) pa_nil))) (pa_cons (pe_slice sl_list (pv 3) (po_some pe_int) po_none) (pa_cons (pe_op op_cat (pe_lst (pa_cons (pe_tup (pa_cons pe_int pa_nil)) pa_nil)) (pv 3)) pa_nil))))))))
    (pss_cons (ps_expr (pe_bm PySem.F.plainAttrs_list PySem.F.slot_list_append PySem.F.type_list_append mt_append (pv 5) (pa_cons (pe_fn GTw OTw r3 rfl (pa_cons (pv 0) (pa_cons (pv 1) (pa_cons (pv 3) pa_nil)))) pa_nil)))
    (pss_cons (ps_for PassesOwn.never rfl (pi_range1 rfl B.range (pa_cons (pe_op op_mul pe_int (pe_callTy call_int1 rfl B.int b_int (pa_cons (pe_cmpR (op_neD hr.u64) (pv 3) (pe_lst pa_nil) (nomark _)) pa_nil))) pa_nil)) (pg_name (i := 6) scBent.nd rfl (Or.inl rfl))
      (pss_cons (ps_set (i := 7) scBent.nd rfl (Or.inl rfl) (pe_fn GD OD r2 rfl (pa_cons (pv 0) (pa_cons (pe_callB call_len_seq rfl B.len b_len (pa_cons (pv 3) pa_nil)) pa_nil))))
    (pss_cons (ps_set (i := 8) scBent.nd rfl (Or.inl rfl) (pe_slice sl_list (pv 3) po_none (po_some (pv 7))))
    (pss_cons (ps_set (i := 9) scBent.nd rfl (Or.inl rfl) (pe_ix ix_list (pv 3) (pv 7) (fun _ _ => rfl)))
    (pss_cons (ps_set (i := 10) scBent.nd rfl (Or.inl rfl) (pe_slice sl_list (pv 3) (po_some (pe_op op_add (pv 7) pe_int)) po_none))
    (pss_cons (ps_set (i := 5) scBent.nd rfl (Or.inl rfl) (pe_op op_cat (pv 5) (pe_lst (pa_cons (pe_op op_cat (pv 8) (pv 10)) (pa_cons (pe_op op_cat (pe_op op_cat (pv 8) (pe_lst (pa_cons (pv 9) (pa_cons (pv 9) pa_nil)))) (pv 10)) (pa_cons (pe_op op_cat (pe_op op_cat (pe_op op_cat (pv 8) (pe_slice sl_list (pv 10) po_none (po_some pe_int))) (pe_lst (pa_cons (pv 9) pa_nil))) (pe_slice sl_list (pv 10) (po_some pe_int) po_none)) pa_nil))))))
    (pss_cons (ps_for PassesOwn.never rfl (pi_list (pe_mid (pe_lst (pa_cons (pe_fn GD OD r2 rfl (pa_cons (pv 0) (pa_cons pe_int pa_nil))) (pa_cons (pe_un un_neg pe_int) (pa_cons (pe_op op_sub (pe_un un_neg pe_int) (pv 4)) (pa_cons (pv 4) (pa_cons (pe_callB call_len_seq rfl B.len b_len (pa_cons (pv 2) pa_nil)) pa_nil)))))))) (pg_name (i := 11) scBent.nd rfl (Or.inl rfl))
      (pss_one (ps_expr (pe_bm PySem.F.plainAttrs_list PySem.F.slot_list_append PySem.F.type_list_append mt_append (pv 5) (pa_cons (pe_op op_cat (pe_op op_cat (pv 8) (pe_lst (pa_cons (pe_tup (pa_cons (pv 11) (pa_cons (pe_ix ix_tup (pv 9) pe_int (fun _ _ => rfl)) (pa_cons (pe_ix ix_tup (pv 9) pe_int (fun _ _ => rfl)) pa_nil)))) pa_nil))) (pv 10)) pa_nil)))))
    (pss_cons (ps_for PassesOwn.never rfl (pi_list (pe_mid (pe_op op_cat (pe_callTy (call_list_rng rfl) rfl B.list b_list (pa_cons (pe_callTy call_range1 rfl B.range b_range (pa_cons (pe_ix ix_tup (pv 1) pe_int (fun _ _ => rfl)) pa_nil)) pa_nil)) (pe_lst (pa_cons (pe_ix ix_tup (pv 1) pe_int (fun _ _ => rfl)) (pa_cons (pe_un un_neg pe_int) (pa_cons (pv 4) pa_nil))))))) (pg_name (i := 11) scBent.nd rfl (Or.inl rfl))
      (pss_one (ps_set (i := 5) scBent.nd rfl (Or.inl rfl) (pe_op op_cat (pv 5) (pe_lst (pa_cons (pe_op op_cat (pe_op op_cat (pv 8) (pe_lst (pa_cons (pe_tup (pa_cons (pe_ix ix_tup (pv 9) pe_int (fun _ _ => rfl)) (pa_cons (pv 11) (pa_cons (pe_ix ix_tup (pv 9) pe_int (fun _ _ => rfl)) pa_nil)))) pa_nil))) (pv 10)) (pa_cons (pe_op op_cat (pe_op op_cat (pv 8) (pe_lst (pa_cons (pe_tup (pa_cons (pe_ix ix_tup (pv 9) pe_int (fun _ _ => rfl)) (pa_cons (pe_ix ix_tup (pv 9) pe_int (fun _ _ => rfl)) (pa_cons (pv 11) pa_nil)))) pa_nil))) (pv 10)) pa_nil)))))))
    (pss_one (ps_for PassesOwn.never rfl (pi_list (pe_mid (pe_lst (pa_cons (pe_slice sl_tup2 (pv 9) po_none (po_some pe_int)) (pa_cons (pe_op op_cat2 (pv 9) (pe_tup (pa_cons pe_int pa_nil))) (pa_cons (pe_tup pa_nil) (pa_cons (pe_tup (pa_cons (pe_ix ix_tup (pv 9) pe_int (fun _ _ => rfl)) (pa_cons (pe_ix ix_tup (pv 9) pe_int (fun _ _ => rfl)) (pa_cons (pe_ix ix_tup (pv 9) pe_int (fun _ _ => rfl)) pa_nil)))) (pa_cons (pe_rev (pv 9) (pe_un un_neg pe_int)) pa_nil)))))))) (pg_name (i := 11) scBent.nd rfl (Or.inl rfl))
      (pss_one (ps_expr (pe_bm PySem.F.plainAttrs_list PySem.F.slot_list_append PySem.F.type_list_append mt_append (pv 5) (pa_cons (pe_op op_cat (pe_op op_cat (pv 8) (pe_lst (pa_cons (pv 11) pa_nil))) (pv 10)) pa_nil))))))))))))))
    (pss_one (ps_ret (pv 5))))))), ?_⟩
    obtain ⟨hdl, hdg⟩ := deal_parts g.2.2.2
    have hxl := denAll_length d
    rw [List.length_map] at hxl
    have npt : p ≠ t := fun z => by
      obtain ⟨⟨u, v, _, e⟩, _⟩ := T
      rw [z, e] at hp
      have hx : [V.ref a, .int u, .int v] = xs := by injection (Option.some.inj hp)
      subst hx
      obtain ⟨dd, e1, e2⟩ := denAll_at d (i := 1) rfl
      rw [List.getElem?_map] at e1
      cases q : L[1]? with
      | none => rw [q] at e1; cases e1
      | some l =>
        rw [q] at e1
        obtain rfl := Option.some.inj e1
        obtain ⟨c, e3, _⟩ := den_tints.mp e2
        cases e3
    refine ⟨_, rfl, _, _, rfl, rfl, ⟨by decide, by decide, by decide⟩, t, a, ns, _, rfl, T, by decide, by decide, fun far H1 far0 far1 b1 T1 => ?_⟩
    have far1' : far < 10 ^ 20 := far1
    have hp1 := b1 _ _ npt hp
    have d1 := T.denS b1 d
    have g1 := T.good b1 g
    have F1 := T1.fx
    have s31 : S3 K [t] p xs H1 := ⟨by rw [Vw.out (by simpa using npt)]; exact hp1, fun y hy => by
      obtain ⟨i, hi⟩ := List.mem_iff_getElem?.mp hy
      have hlt : i < L.length := by have := (List.getElem?_eq_some_iff.mp hi).1; omega
      obtain ⟨kk, gg, tt, e3, k0, k1, g01, t01⟩ := h3 _ (List.getElem_mem hlt)
      have hl12 := g.len.1
      obtain ⟨c, e1, e2⟩ := denAll_nth d1 (List.getElem?_eq_getElem hlt)
      rw [hi] at e1
      rw [e3] at e2
      exact ⟨c, kk, gg, tt, Option.some.inj e1, F1.seqT e2, by omega, by omega, by omega⟩⟩
    have sm1 := s31.sl (by omega)
    have i0 : ∀ {σ : St}, Al H1 [t] (tC (.int 0)) σ IB := al_c ⟨0, rfl, by decide⟩
    dsimp only [gName]
    refine set_go (lst_goE (E := SL K [t] 30) F1 (alE_cons (al_SLm (al_var (R := SL K [t] 7) rfl sm1)) (alE_cons (al_SLm (alE_revL (al_var rfl sm1) al_neg1)) (alE_cons (al_SLm (alE_catL (al_var rfl sm1) (alE_sliceL (al_var rfl sm1) alO_none (alO_some al_int)))) (alE_cons (al_SLm (alE_catL (al_var rfl sm1) (al_SL1 (alE_cons (al_T10 (alE_cons i0 (alE_cons i0 (alE_cons i0 alE_nil)))) alE_nil))))
      (alE_cons (al_SLm (alE_sliceL (al_var rfl sm1) (alO_some al_int) alO_none)) (alE_cons (al_SLm (alE_catL (al_SL1 (alE_cons (al_T10 (alE_cons i0 alE_nil)) alE_nil)) (al_var rfl sm1))) alE_nil)))))) fun fl vs H2 s2 hfl hl hv => ?_)
    have s3 := Same.new (o := .lst vs) hfl
    have ft : fl ≠ t := (T1.same s2).ne hfl
    have B3 : Bt K H t a ns x y n ws hs p xs fl 6 (upd H2 fl (.lst vs)) := ⟨b1.trans (But.of (s2.trans s3)), T1.same (s2.trans s3), g1.same (s2.trans s3), S3.move (Vw.more hfl) (S3.move (Vw.same s2) s31), (b1.trans (But.of s2)).free hfl ft, ft, far_of (T1.same s2).2 hfl, vs, upd_same, by omega, fun v hv' => SL.move (Vw.more hfl) (hv v hv')⟩
    have hp3 := (s2.trans s3) _ _ hp1
    have d3 := (s2.trans s3).denAll _ _ d1
    have hf3 : upd H2 fl (.lst vs) fl = some (.lst vs) := upd_same
    generalize upd H2 fl (.lst vs) = H3 at B3 hp3 d3 hf3 ⊢
    refine ⟨_, rfl, .inl ⟨rfl, _, SqL.of hf3⟩, _, rfl, _, rfl, _, rfl, t, a, ns, x, n, ws, p, xs, L, rfl, B3.T, B3.g.1, B3.g.2.1, hp3, d3, (by rw [← hdl]; exact h3), fun q H4 b4 T4 hq hsl => ?_⟩
    have hf4 := b4 _ _ ft hf3
    have B4 := B3.dig b4 T4
    have nqf : q ≠ fl := fun z => by rw [z, hf3] at hq; cases hq
    have nqt : q ≠ t := B3.T.ne hq
    refine ⟨fl, vs, .ref q, rfl, rfl, hf4, Nat.lt_of_le_of_lt (show _ ≤ 30 by omega) (by rw [sizeLine_eq]; decide), ?_⟩
    obtain ⟨B5, _⟩ := B4.app hf4 (SL.mono (SL.fx hsl B4.fx (by simp [nqf, nqt])) (by decide))
    generalize upd H4 fl (.lst (vs ++ [.ref q])) = H5 at B5 ⊢
    have hp5 := Vw.sub _ _ B5.sm.1
    refine ⟨_, rfl, le1000 (Nat.zero_le _), fun z hz => ?_⟩
    have s6 := Same.new (o := .lst []) hz
    have B6 := B5.same s6
    obtain ⟨xs6, L6, e6, d6, l6, x7, l10⟩ := den_notnil (B6.sm.sl (by omega))
    obtain rfl : xs = xs6 := by rw [s6 _ _ hp5] at e6; injection (Option.some.inj e6)
    refine ⟨.list (L6.map workD), .list [], den_steps (SqL.of (s6 _ _ hp5)) d6, den_list.mpr ⟨z, [], rfl, SqL.of upd_same, denAll_nil.mpr rfl⟩, noDict_steps L6, rfl, shaped_steps L6, rfl, .inr ⟨_, rfl, _, _, rfl, rfl, .inl ⟨by decide, by decide⟩, ?_⟩⟩
    rw [eqv_nil]
    generalize upd H5 z (.lst []) = H6 at s6 B6 e6 d6 ⊢
    have hbn : ∀ b : Bool, 0 ≤ (2 : Int) * (if b = true then 1 else 0) ∧ (2 : Int) * (if b = true then 1 else 0) ≤ 2 := fun b => by cases b <;> decide
    have hb2 := hbn (!(L6.map workD).isEmpty)
    refine ⟨_, rfl, by omega, by omega, for_range (lo := 0) (fun i σ H7 => ∃ fl v6 v7 v8 v9 v10 v11, σ = [some (.ref t), some x, some y, some (.ref p), some (.int far), some (.ref fl), v6, v7, v8, v9, v10, v11] ∧ Bt K H t a ns x y n ws hs p xs fl (7 + 36 * i) H7) ⟨fl, none, none, none, none, none, none, rfl, B6⟩ ?_ ?_⟩
    · rintro i σ H7 hi ⟨fl, v6, v7, v8, v9, v10, v11, rfl, B7⟩
      have hxp : 0 < xs.length := by
        cases hL : L6 with
        | nil => rw [hL] at hi; exact absurd hi (by show ¬ i < 0; omega)
        | cons _ _ => rw [hL] at l6; simp at l6; omega
      have hi2 : i < 2 := by omega
      clear hi hb2 hbn
      dsimp only [gName]
      have hp7 := Vw.sub _ _ B7.sm.1
      refine ⟨_, rfl, _, rfl, p, _, rfl, .inl (SqL.of hp7), t, a, ns, _, rfl, B7.T, by omega, by omega, fun at' H8 at0 at1 b8 T8 => ?_⟩
      have B8 := B7.dig b8 T8
      refine set_al B8.fx (alE_sliceL (K := K) (al_var rfl (B8.sm.sl (by omega))) alO_none (alO_some (al_var rfl ⟨_, rfl⟩))) fun ah H9 s9 hah9 => ?_
      have B9 := B8.same s9
      have hat : xs[at'.toNat]? = some xs[at'.toNat] := List.getElem?_eq_getElem (by omega)
      obtain ⟨c, kk, gg, tt, ey, hc9, hkgt⟩ := B9.sm.2 _ (List.mem_of_getElem? hat)
      rw [ey] at hat
      refine ⟨_, rfl, _, rfl, p, xs, at', .ref c, rfl, rfl, SqL.of (Vw.sub _ _ B9.sm.1), atI_vs at0 hat, ?_⟩
      refine set_al B9.fx (alE_sliceL (K := K) (al_var rfl (B9.sm.sl (by omega))) (alO_some (al_op0 (al_var rfl ⟨_, rfl⟩) al_int)) alO_none) fun be H10 s10 hbe10 => ?_
      have B10 := B9.same s10
      have hah10 := SL.move (Vw.same s10) hah9
      have hc10 := (Vw.same (S := [fl, t]) s10).seqT hc9
      have st10 : T10 K [fl, t] H10 (.ref c) := ⟨c, _, rfl, hc10, by show 3 ≤ 10; decide, fun z hz => by
        simp only [List.mem_cons, List.not_mem_nil, or_false] at hz
        rcases hz with rfl | rfl | rfl <;> exact ⟨_, rfl, by omega⟩⟩
      obtain ⟨it10, hit10, hil10, hiv10⟩ := B10.it
      refine set_go ⟨_, rfl, lst_goE (E := SL K [fl, t] 30) B10.fx (alE_cons (al_SLm (alE_catL (al_var rfl hah10) (al_var rfl hbe10))) (alE_cons (al_SLm (alE_catL (alE_catL (al_var rfl hah10) (al_SL1 (alE_cons (al_var rfl st10) (alE_cons (al_var rfl st10) alE_nil)))) (al_var rfl hbe10)))
        (alE_cons (al_SLm (alE_catL (alE_catL (alE_catL (al_var rfl hah10) (alE_sliceL (K := K) (al_var rfl hbe10) alO_none (alO_some al_int))) (al_SL1 (alE_cons (al_var rfl st10) alE_nil))) (alE_sliceL (K := K) (al_var rfl hbe10) (alO_some al_int) alO_none))) alE_nil))) fun l2 vs H11 s11 hl2 hlen hv => ?_⟩
      have s12 := Same.new (o := .lst vs) hl2
      have s1012 := s11.trans s12
      refine ⟨fl, l2, it10, vs, rfl, rfl, s1012 _ _ hit10, upd_same, le1000 (by omega), fun fl' hfl' => ?_⟩
      have B12 := B10.same s1012
      obtain ⟨B13, e13⟩ := B12.cat (s1012 _ _ hit10) (vs := vs) (fun v hv' => SL.move (Vw.same s12) (hv v hv')) hfl'
      have hah13 := SL.move e13 (SL.move (Vw.same s1012) hah10)
      have hbe13 := SL.move e13 (SL.move (Vw.same s1012) hbe10)
      have hc13 := e13.seqT ((Vw.same (S := [fl, t]) s1012).seqT hc10)
      generalize upd (upd H11 l2 (.lst vs)) fl' (.lst (it10 ++ vs)) = H13 at B13 e13 hah13 hbe13 hc13 ⊢
      clear e13 B12 hv hfl' s1012 s12 hl2 s11 hiv10 hil10 hit10 st10 hc10 hah10 hbe10 B10 hah9 B9 B8 B7
      rw [hlen] at B13
      obtain ⟨c0, ey0, _⟩ := den_tints.mp B13.g.2.2.1
      subst ey0
      -- the first row of odd ones
      refine ⟨fun v H15 => ∃ l odds, v = .ref l ∧ Vw [fl', t] H15 l = some (.lst odds) ∧ odds.length = 5 ∧ (∀ u ∈ odds, ∃ i, u = .int i ∧ i.natAbs < 10 ^ 38) ∧ Bt K H t a ns x (.ref c0) n ws hs p xs fl' (7 + 36 * i + 3) H15 ∧ Same (Vw [fl', t] H13) (Vw [fl', t] H15), ?_, ?_⟩
      · refine ⟨_, rfl, t, a, ns, 12, rfl, B13.T, by decide, by decide, fun rd H14 rd0 rd1 b14 T14 => ?_⟩
        have hl12 := B13.g.len.1
        have B14 := B13.dig b14 T14
        have v14 : Same (Vw [fl', t] H13) (Vw [fl', t] H14) := b14.vw (by simp)
        have hc014 : SqT K H14 c0 (hs.map V.int) := by
          obtain ⟨c', z, h⟩ := den_tints.mp B14.g.2.2.1
          cases z; exact h
        refine ⟨1, rfl, 1, rfl, _, rfl, _, _, rfl, rfl, _, rfl, _, rfl, c0, _, rfl, .inr hc014, le1000 (show 5 ≤ 1000 by decide), fun l hl => ?_⟩
        have lt : l ∉ [fl', t] := B14.fx.new hl
        refine ⟨l, _, rfl, by rw [Vw.out lt]; exact upd_same, rfl, fun u hu => ?_, B14.same (Same.new hl), v14.trans (Vw.same (Same.new hl))⟩
        simp only [List.mem_cons, List.not_mem_nil, or_false] at hu
        rcases hu with rfl | rfl | rfl | rfl | rfl
        · exact ⟨_, rfl, by omega⟩
        · exact ⟨_, rfl, by decide⟩
        · exact ⟨_, rfl, by show (-1 - far).natAbs < _; omega⟩
        · exact ⟨_, rfl, by omega⟩
        · exact ⟨_, rfl, by rw [List.length_map]; omega⟩
      rintro _ H15 ⟨l, odds, rfl, l15, hodl, hodI, B15, m15⟩
      have hah15 := SL.move m15 hah13
      have hbe15 := SL.move m15 hbe13
      have hc15 := m15.seqT hc13
      refine ⟨l, rfl, ⟨_, SqL.of (Vw.sub _ _ l15)⟩, for_list (K := K) (a := l) (xs := odds) (fun j σ H16 => ∃ v11, σ = [some (.ref t), some x, some (.ref c0), some (.ref p), some (.int far), some (.ref fl'), some (.int (0 + (i : Int))), some (.int at'), some ah, some (.ref c), some be, v11] ∧ Bt K H t a ns x (.ref c0) n ws hs p xs fl' (7 + 36 * i + 3 + j) H16 ∧ Same (Vw [fl', t] H15) (Vw [fl', t] H16)) ⟨_, rfl, B15, Same.refl _⟩ (fun j σ H16 _ ⟨_, _, _, m⟩ => SqL.of (Vw.sub _ _ (m _ _ l15))) ?_ ?_⟩
      · rintro j u σ H16 hu ⟨v11, rfl, B16, m16⟩
        have hj5 : j < 5 := by have := (List.getElem?_eq_some_iff.mp hu).1; omega
        obtain ⟨od, rfl, hob⟩ := hodI u (List.mem_of_getElem? hu)
        obtain ⟨it16, hit16, hil16, _⟩ := B16.it
        have h3 : ∀ z ∈ [V.int kk, V.int gg, V.int tt], IB H16 z := fun z hz => by
          simp only [List.mem_cons, List.not_mem_nil, or_false] at hz
          rcases hz with rfl | rfl | rfl <;> exact ⟨_, rfl, by omega⟩
        have hc16 := m16.seqT hc15
        refine ⟨_, rfl, .inl ⟨rfl, _, SqL.of hit16⟩, cons1_go B16.fx (al_SLm (k' := 30) (alE_catL (alE_catL (al_var rfl (SL.move m16 hah15)) (al_SL1 (alE_cons (al_T10 (alE_cons (al_var rfl ⟨_, rfl, hob⟩) (alE_cons (alE_ixT (n := 0) (c := 1) (al_var rfl ⟨rfl, hc16⟩) (show 1 < 3 by decide) h3) (alE_cons (alE_ixT (n := 0) (c := 2) (al_var rfl ⟨rfl, hc16⟩) (show 2 < 3 by decide) h3) alE_nil)))) alE_nil))) (al_var rfl (SL.move m16 hbe15)))) fun v H17 s17 hv17 => ?_⟩
        have B17 := B16.same s17
        refine ⟨fl', it16, v, rfl, rfl, s17 _ _ hit16, Nat.lt_of_le_of_lt (show _ ≤ 200 by omega) (by rw [sizeLine_eq]; decide), ?_⟩
        obtain ⟨B18, e18⟩ := B17.app (s17 _ _ hit16) hv17
        exact ⟨_, rfl, B18, (m16.trans (Vw.same s17)).trans e18⟩
      rintro σ H16 ⟨v11, rfl, B16, m16⟩
      rw [hodl] at B16
      have hah16 := SL.move m16 hah15
      have hbe16 := SL.move m16 hbe15
      have hc16 := m16.seqT hc15
      clear m16 hc15 hbe15 hah15 m15 B15 hodI hodl l15 hc13 hbe13 hah13 B13
      -- the second row of odd ones
      refine ⟨fun v H20 => ∃ l odds, v = .ref l ∧ Vw [fl', t] H20 l = some (.lst odds) ∧ odds.length ≤ 9 ∧ (∀ u ∈ odds, ∃ i, u = .int i ∧ i.natAbs < 10 ^ 38) ∧ Bt K H t a ns x (.ref c0) n ws hs p xs fl' (7 + 36 * i + 3 + 5) H20 ∧ Same (Vw [fl', t] H16) (Vw [fl', t] H20), ?_, ?_⟩
      · obtain ⟨hl12, hn1, hn6⟩ := B16.g.len
        obtain ⟨ba, bb, ys2, rfl, ha, hb2, hys⟩ := den_book B16.g.1
        obtain ⟨mm, rfl⟩ : ∃ mm : Nat, n = mm := ⟨n.toNat, by omega⟩
        refine ⟨_, rfl, ba, _, 0, .int mm, rfl, rfl, ha, rfl, _, rfl, fun rg hrg => ⟨rg, mm, rfl, upd_same, by omega, fun l1 hl1 => ?_⟩⟩
        have s17 := (Same.new (o := .rng 0 mm) hrg).trans (Same.new (o := .lst ((upto mm).map V.int)) hl1)
        have e17 : upd (upd H16 rg (.rng 0 mm)) l1 (.lst ((upto mm).map V.int)) l1 = some (.lst ((upto mm).map V.int)) := upd_same
        generalize upd (upd H16 rg (.rng 0 mm)) l1 (.lst ((upto mm).map V.int)) = H17 at s17 e17 ⊢
        refine ⟨_, rfl, ba, _, 0, .int mm, rfl, rfl, s17.seqT ha, rfl, 1, rfl, _, rfl, le1000 (show 3 ≤ 1000 by decide), fun l2 hl2 => ?_⟩
        have s18 := Same.new (o := .lst [V.int (mm : Int), V.int (-1), V.int far]) hl2
        have e18 : upd H17 l2 (.lst [V.int (mm : Int), V.int (-1), V.int far]) l2 = some (.lst [V.int (mm : Int), V.int (-1), V.int far]) := upd_same
        have lu : (upto mm).length = mm := upto_length mm
        refine ⟨l1, l2, _, _, rfl, rfl, s18 _ _ e17, e18, le1000 (by simp [lu]; omega), fun l hl => ?_⟩
        have B18 := B16.same (s17.trans s18)
        have lt : l ∉ [fl', t] := B18.fx.new hl
        refine ⟨l, _, rfl, by rw [Vw.out lt]; exact upd_same, by simp [lu]; omega, fun u hu => ?_, B18.same (Same.new hl), (Vw.same (s17.trans s18)).trans (Vw.same (Same.new hl))⟩
        rcases List.mem_append.mp hu with hu | hu
        · obtain ⟨q, hq, rfl⟩ := List.mem_map.mp hu
          have := upto_mem.mp hq
          exact ⟨_, rfl, by omega⟩
        · simp only [List.mem_cons, List.not_mem_nil, or_false] at hu
          rcases hu with rfl | rfl | rfl
          · exact ⟨_, rfl, by omega⟩
          · exact ⟨_, rfl, by decide⟩
          · exact ⟨_, rfl, by omega⟩
      rintro _ H20 ⟨l, odds, rfl, l20, hodl, hodI, B20, m20⟩
      have hah20 := SL.move m20 hah16
      have hbe20 := SL.move m20 hbe16
      have hc20 := m20.seqT hc16
      refine ⟨l, rfl, ⟨_, SqL.of (Vw.sub _ _ l20)⟩, for_list (K := K) (a := l) (xs := odds) (fun j σ H21 => ∃ fl v11, σ = [some (.ref t), some x, some (.ref c0), some (.ref p), some (.int far), some (.ref fl), some (.int (0 + (i : Int))), some (.int at'), some ah, some (.ref c), some be, v11] ∧ Bt K H t a ns x (.ref c0) n ws hs p xs fl (7 + 36 * i + 3 + 5 + 2 * j) H21 ∧ Same (Vw [fl', t] H20) (Vw [fl, t] H21)) ⟨fl', _, rfl, B20, Same.refl _⟩ (fun j σ H21 _ ⟨_, _, _, _, m⟩ => SqL.of (Vw.sub _ _ (m _ _ l20))) ?_ ?_⟩
      · rintro j u σ H21 hu ⟨fl2, v11, rfl, B21, m21⟩
        have hj9 : j < 9 := by have := (List.getElem?_eq_some_iff.mp hu).1; omega
        obtain ⟨od, rfl, hob⟩ := hodI u (List.mem_of_getElem? hu)
        obtain ⟨it21, hit21, hil21, _⟩ := B21.it
        have h3 : ∀ z ∈ [V.int kk, V.int gg, V.int tt], IB H21 z := fun z hz => by
          simp only [List.mem_cons, List.not_mem_nil, or_false] at hz
          rcases hz with rfl | rfl | rfl <;> exact ⟨_, rfl, by omega⟩
        have hc21 := m21.seqT hc20
        have ah21 := SL.move m21 hah20
        have be21 := SL.move m21 hbe20
        refine ⟨_, rfl, lst_goE (E := SL K [fl2, t] 30) B21.fx (alE_cons (al_SLm (alE_catL (alE_catL (al_var rfl ah21) (al_SL1 (alE_cons (al_T10 (alE_cons (alE_ixT (n := 0) (c := 0) (al_var rfl ⟨rfl, hc21⟩) (show 0 < 3 by decide) h3) (alE_cons (al_var rfl ⟨_, rfl, hob⟩) (alE_cons (alE_ixT (n := 0) (c := 2) (al_var rfl ⟨rfl, hc21⟩) (show 2 < 3 by decide) h3) alE_nil)))) alE_nil))) (al_var rfl be21)))
          (alE_cons (al_SLm (alE_catL (alE_catL (al_var rfl ah21) (al_SL1 (alE_cons (al_T10 (alE_cons (alE_ixT (n := 0) (c := 0) (al_var rfl ⟨rfl, hc21⟩) (show 0 < 3 by decide) h3) (alE_cons (alE_ixT (n := 0) (c := 1) (al_var rfl ⟨rfl, hc21⟩) (show 1 < 3 by decide) h3) (alE_cons (al_var rfl ⟨_, rfl, hob⟩) alE_nil)))) alE_nil))) (al_var rfl be21))) alE_nil)) fun l2 vs H22 s22 hl2 hlen hv => ?_⟩
        have s23 := Same.new (o := .lst vs) hl2
        have s2123 := s22.trans s23
        refine ⟨fl2, l2, it21, vs, rfl, rfl, s2123 _ _ hit21, upd_same, le1000 (by omega), fun fl3 hfl3 => ?_⟩
        obtain ⟨B24, e24⟩ := (B21.same s2123).cat (s2123 _ _ hit21) (vs := vs) (fun v hv' => SL.move (Vw.same s23) (hv v hv')) hfl3
        rw [hlen] at B24
        exact ⟨fl3, _, rfl, B24, (m21.trans (Vw.same s2123)).trans e24⟩
      rintro σ H21 ⟨fl2, v11, rfl, B21, m21⟩
      have hah21 := SL.move m21 hah20
      have hbe21 := SL.move m21 hbe20
      have hc21 := m21.seqT hc20
      have B21 := B21.mono (m' := 7 + 36 * i + 3 + 5 + 18) (by omega)
      clear m21 hc20 hbe20 hah20 m20 B20 hodI hodl l20 hc16 hbe16 hah16 B16
      -- the third row of odd ones
      have st3 : DTe K [fl2, t] IB 3 H21 (.ref c) := ⟨c, _, rfl, hc21, Nat.le_refl 3, fun z hz => by
        simp only [List.mem_cons, List.not_mem_nil, or_false] at hz
        rcases hz with rfl | rfl | rfl <;> exact ⟨_, rfl, by omega⟩⟩
      have h3 : ∀ z ∈ [V.int kk, V.int gg, V.int tt], IB H21 z := fun z hz => by
        simp only [List.mem_cons, List.not_mem_nil, or_false] at hz
        rcases hz with rfl | rfl | rfl <;> exact ⟨_, rfl, by omega⟩
      refine ⟨fun v H25 => ∃ l odds, v = .ref l ∧ Vw [fl2, t] H25 l = some (.lst odds) ∧ odds.length = 5 ∧ (∀ u ∈ odds, T10 K [fl2, t] H25 u) ∧ Bt K H t a ns x (.ref c0) n ws hs p xs fl2 (7 + 36 * i + 3 + 5 + 18) H25 ∧ Same (Vw [fl2, t] H21) (Vw [fl2, t] H25), ?_, ?_⟩
      · refine lst_goE (E := T10 K [fl2, t]) B21.fx (alE_cons (al_T10w (alE_slice (K := K) (al_var rfl st3) alO_none (alO_some al_int))) (alE_cons (al_T10w (alE_cat (K := K) (al_var rfl st3) (alE_tup (K := K) (alE_cons (al_c ⟨0, rfl, by decide⟩) alE_nil)))) (alE_cons (al_T10 alE_nil) (alE_cons (al_T10 (alE_cons (alE_ixT (n := 0) (c := 0) (al_var rfl ⟨rfl, hc21⟩) (show 0 < 3 by decide) h3) (alE_cons (alE_ixT (n := 0) (c := 2) (al_var rfl ⟨rfl, hc21⟩) (show 2 < 3 by decide) h3) (alE_cons (alE_ixT (n := 0) (c := 1) (al_var rfl ⟨rfl, hc21⟩) (show 1 < 3 by decide) h3) alE_nil))))
          (alE_cons (al_T10w (alE_rev (K := K) (al_var rfl st3) al_neg1)) alE_nil))))) fun l vs H22 s22 hl hlen hv => ?_
        have s23 := Same.new (o := .lst vs) hl
        have B22 := B21.same s22
        have lt : l ∉ [fl2, t] := B22.fx.new hl
        exact ⟨l, vs, rfl, by rw [Vw.out lt]; exact upd_same, hlen, fun u hu => T10.move (Vw.same s23) (hv u hu), B22.same s23, Vw.same (s22.trans s23)⟩
      rintro _ H25 ⟨l, odds, rfl, l25, hodl, hodI, B25, m25⟩
      have hah25 := SL.move m25 hah21
      have hbe25 := SL.move m25 hbe21
      refine ⟨l, rfl, ⟨_, SqL.of (Vw.sub _ _ l25)⟩, for_list (K := K) (a := l) (xs := odds) (fun j σ H26 => ∃ v11, σ = [some (.ref t), some x, some (.ref c0), some (.ref p), some (.int far), some (.ref fl2), some (.int (0 + (i : Int))), some (.int at'), some ah, some (.ref c), some be, v11] ∧ Bt K H t a ns x (.ref c0) n ws hs p xs fl2 (7 + 36 * i + 3 + 5 + 18 + j) H26 ∧ Same (Vw [fl2, t] H25) (Vw [fl2, t] H26)) ⟨_, rfl, B25, Same.refl _⟩ (fun j σ H26 _ ⟨_, _, _, m⟩ => SqL.of (Vw.sub _ _ (m _ _ l25))) ?_ ?_⟩
      · rintro j u σ H26 hu ⟨v11, rfl, B26, m26⟩
        have hj5 : j < 5 := by have := (List.getElem?_eq_some_iff.mp hu).1; omega
        have hou := T10.move m26 (hodI u (List.mem_of_getElem? hu))
        obtain ⟨it26, hit26, hil26, _⟩ := B26.it
        refine ⟨_, rfl, .inl ⟨rfl, _, SqL.of hit26⟩, cons1_go B26.fx (al_SLm (k' := 30) (alE_catL (alE_catL (al_var rfl (SL.move m26 hah25)) (al_SL1 (alE_cons (al_var rfl hou) alE_nil))) (al_var rfl (SL.move m26 hbe25)))) fun v H27 s27 hv27 => ?_⟩
        refine ⟨fl2, it26, v, rfl, rfl, s27 _ _ hit26, Nat.lt_of_le_of_lt (show _ ≤ 200 by omega) (by rw [sizeLine_eq]; decide), ?_⟩
        obtain ⟨B28, e28⟩ := (B26.same s27).app (s27 _ _ hit26) hv27
        exact ⟨_, rfl, B28, (m26.trans (Vw.same s27)).trans e28⟩
      rintro σ H26 ⟨v11, rfl, B26, m26⟩
      rw [hodl] at B26
      exact ⟨fl2, _, _, _, _, _, _, rfl, B26.mono (by omega)⟩
    · rintro σ H7 ⟨fl, v6, v7, v8, v9, v10, v11, rfl, B7⟩
      exact ⟨_, rfl, k fl H7 (B7.mono (by omega))⟩
end
end Ab
set_option Elab.async false
set_option linter.all false
set_option maxRecDepth 100000
namespace Ab
open PySem L2
theorem stepB_parts {ws : List (List Int)} {hs : List Int} {k g t : Int} (h : stepB ws hs [k, g, t] = true) : 0 ≤ k ∧ k < hs.length ∧ hs[k.toNat]? = some g ∧ t ≠ g ∧ t ∈ ws.getD k.toNat [] := by
  have h' : (decide (0 ≤ k) && (decide (k < hs.length) && (hs[k.toNat]? == some g && (!decide (t = g) && decide (t ∈ ws.getD k.toNat []))))) = true := h
  simp only [Bool.and_eq_true, decide_eq_true_eq, beq_iff_eq, Bool.not_eq_true', decide_eq_false_iff_not] at h'
  exact ⟨h'.1, h'.2.1, h'.2.2.1, h'.2.2.2.1, h'.2.2.2.2⟩
def goneL (hs : List Int) (L : List (List Int)) : List Int := L.foldl (fun h st => h.set (st.getD 0 0).toNat (toOf st)) hs
theorem goneL_len (L : List (List Int)) : ∀ hs : List Int, (goneL hs L).length = hs.length := by
  induction L with
  | nil => intro hs; rfl
  | cons s r ih => intro hs; show (goneL (hs.set _ _) r).length = _; rw [ih, List.length_set]
theorem goneL_snoc (hs : List Int) (L : List (List Int)) (st : List Int) : goneL hs (L ++ [st]) = (goneL hs L).set (st.getD 0 0).toNat (toOf st) := by unfold goneL; rw [List.foldl_append]; rfl
def bettB (hs : List Int) (L : List (List Int)) : Bool := decide (2 ≤ ((hs.count (fromOf (L.headD [])) : Nat) : Int) - ((hs.count (toOf (L.getLastD [])) : Nat) : Int))
section
variable {P : Program} {w : World} {K : PySem.W.Frag} {mg : Str → Option Value} {base : Heap}
variable {fW fH fK fB fNB fD fND fL : Addr} {dW dH dK dB dNB dD dND dL : FuncData}
def WIn (K : PySem.W.Frag) (H : Hp) (x y : V) (p : Addr) (xs : List V) (n : Int) (ws : List (List Int)) (hs : List Int) (L : List (List Int)) : Prop := Good K H x y n ws hs ∧ SqL K H p xs ∧ DenAll K H (L.map workD) xs ∧ L.length ≤ 30 ∧ ∀ l ∈ L, l.length ≤ 1000
theorem WIn.same {H H' : Hp} {x y : V} {p : Addr} {xs : List V} {n : Int} {ws : List (List Int)} {hs : List Int} {L : List (List Int)} (h : WIn K H x y p xs n ws hs L) (s : Same H H') : WIn K H' x y p xs n ws hs L := ⟨h.1.same s, s.seqL h.2.1, s.denAll _ _ h.2.2.1, h.2.2.2⟩
theorem WIn.nth {H : Hp} {x y : V} {p : Addr} {xs : List V} {n : Int} {ws : List (List Int)} {hs : List Int} {L : List (List Int)} (h : WIn K H x y p xs n ws hs L) (hw : wayB ws hs L = true) {i : Nat} {u : V} (hu : xs[i]? = some u) :
    ∃ (c : Addr) (kk gg tt : Int), u = .ref c ∧ L[i]? = some [kk, gg, tt] ∧ SqT K H c [.int kk, .int gg, .int tt] ∧ stepB ws hs [kk, gg, tt] = true := by
  have hx := denAll_length h.2.2.1
  rw [List.length_map] at hx
  have hlt : i < L.length := by have := (List.getElem?_eq_some_iff.mp hu).1; omega
  have el : L[i]? = some L[i] := List.getElem?_eq_getElem hlt
  obtain ⟨c1, e1, e2⟩ := denAll_nth h.2.2.1 el
  rw [hu] at e1
  have hall : L.all (stepB ws hs) = true := by unfold wayB at hw; simp only [Bool.and_eq_true] at hw; exact hw.2.1
  have hst := List.all_eq_true.mp hall _ (List.getElem_mem hlt)
  obtain ⟨kk, gg, tt, e3⟩ := stepB_len hst
  rw [e3] at e2 el hst
  exact ⟨c1, kk, gg, tt, Option.some.inj e1, el, e2, hst⟩
def spNeedW (K : PySem.W.Frag) : Sp := fun vs H Q _ => ∃ x y p xs n ws hs L, vs = [x, y, .ref p] ∧ WIn K H x y p xs n ws hs L ∧ wayB ws hs L = true ∧ ∀ H', Same H H' → Q .non H'
theorem scNeedW : FnScope ["book", "deal", "some"] ["book", "deal", "some"] (defScope sNeedW) := ⟨rfl, rfl, rfl, by decide +kernel, rfl, by decide +kernel, by decide +kernel⟩
theorem ok_needW {f fWy fS : Addr} {fd dWy dS : FuncData} (G : Fn K mg "need_way" sNeedW ["book", "deal", "some"] f fd) (B : Bl mg) (R : Pr K mg fW fH fK fB fNB fD fND fL dW dH dK dB dNB dD dND dL) (GW : Fn K mg "is_way" sWay ["book", "deal", "some"] fWy dWy) (GS : Fn K mg "is_step" sStep ["book", "deal", "step"] fS dS) : FnOk P w K mg base CX0 8 f fd ["book", "deal", "some"] (spNeedW K) := by
  have OWy : FnOk P w K mg base CX0 7 fWy dWy ["book", "deal", "some"] (spWay K) := ok_way GW B R GS
  refine G.fn.ok scNeedW (fun vs H Q E h => ?_) (fun cdv A outer s H vs Q E hr h => ?_)
  · obtain ⟨x, y, p, xs, n, ws, hs, L, rfl, _⟩ := h
    rfl
  · obtain ⟨x, y, p, xs, n, ws, hs, L, rfl, hi, hw, k⟩ := h
    refine ⟨_, pss_one (ps_if (pt_not (pt_val (pe_fn GW OWy hr rfl (pa_cons (pv 0) (pa_cons (pv 1) (pa_cons (pv 2) pa_nil)))))) pss_never pss_nil), ?_⟩
    refine ⟨_, rfl, _, rfl, _, rfl, x, y, p, xs, n, ws, hs, L, rfl, hi.1, hi.2.1, hi.2.2.1, hi.2.2.2.1, hi.2.2.2.2, fun H' s1 => ⟨_, rfl, ?_⟩⟩
    rw [hw]
    refine iteF ?_
    exact k H' s1
def spNeedWx (K : PySem.W.Frag) (CW : Addr) : Sp := fun vs H _ E => ∃ x y p xs n ws hs L, vs = [x, y, .ref p] ∧ WIn K H x y p xs n ws hs L ∧ wayB ws hs L = false ∧ ∀ H', Same H H' → E (.ref CW) none H'
theorem ok_needWx {f fWy fS : Addr} {fd dWy dS : FuncData} {CW : Addr} {bm : List Value} (G : Fn K mg "need_way" sNeedW ["book", "deal", "some"] f fd) (B : Bl mg) (R : Pr K mg fW fH fK fB fNB fD fND fL dW dH dK dB dNB dD dND dL) (GW : Fn K mg "is_way" sWay ["book", "deal", "some"] fWy dWy) (GS : Fn K mg "is_step" sStep ["book", "deal", "step"] fS dS)
    (eW : ∀ h : Heap, K.In h → EcH h CW bm) (mW : mg "NoWay" = some (.ref CW)) : FnOk P w K mg base (CX1 P w) 8 f fd ["book", "deal", "some"] (spNeedWx K CW) := by
  have OWy : FnOk P w K mg base CX0 7 fWy dWy ["book", "deal", "some"] (spWay K) := ok_way GW B R GS
  refine G.fn.okX scNeedW (fun vs H Q E h => ?_) (fun cdv A outer s H vs Q E hr h => ?_)
  · obtain ⟨x, y, p, xs, n, ws, hs, L, rfl, _⟩ := h
    rfl
  · obtain ⟨x, y, p, xs, n, ws, hs, L, rfl, hi, hw, k⟩ := h
    refine ⟨_, pss_one (ps_if (pt_not (pt_val (pe_fn GW OWy hr rfl (pa_cons (pv 0) (pa_cons (pv 1) (pa_cons (pv 2) pa_nil)))))) (pss_one (ps_raise eW rfl mW rfl (fun _ _ _ _ _ _ _ I m q => raised1 I m q))) pss_nil), ?_⟩
    refine ⟨_, rfl, _, rfl, _, rfl, x, y, p, xs, n, ws, hs, L, rfl, hi.1, hi.2.1, hi.2.2.1, hi.2.2.2.1, hi.2.2.2.2, fun H' s1 => ⟨_, rfl, ?_⟩⟩
    rw [hw]
    refine iteT ?_
    exact k H' s1
theorem ixN_of {n : Nat} {k : Int} (h0 : 0 ≤ k) (h1 : k < n) : ixN n k = some k.toNat := by
  unfold ixN
  rw [if_pos h0, if_pos (by omega)]
def spGone (K : PySem.W.Frag) : Sp := fun vs H Q _ => ∃ x y p xs n ws hs L, vs = [x, y, .ref p] ∧ WIn K H x y p xs n ws hs L ∧ wayB ws hs L = true ∧ ∀ q H', Same H H' → H q = none → H' q = some (.tup ((goneL hs L).map V.int)) → Q (.ref q) H'
theorem scGone : FnScope ["book", "deal", "some", "behind", "work", "giver", "taker"] ["book", "deal", "some"] (defScope sGone) := ⟨rfl, rfl, rfl, by decide +kernel, rfl, by decide +kernel, by decide +kernel⟩
theorem ok_gone {f fN : Addr} {fd dN : FuncData} (G : Fn K mg "gone" sGone ["book", "deal", "some"] f fd) (B : Bl mg) (GNW : Fn K mg "need_way" sNeedW ["book", "deal", "some"] fN dN) (ONW : FnOk P w K mg base CX0 8 fN dN ["book", "deal", "some"] (spNeedW K)) : FnOk P w K mg base CX0 9 f fd ["book", "deal", "some"] (spGone K) := by
  refine G.fn.ok scGone (fun vs H Q E h => ?_) (fun cdv A outer s H vs Q E hr h => ?_)
  · obtain ⟨x, y, p, xs, n, ws, hs, L, rfl, _⟩ := h
    rfl
  · obtain ⟨x, y, p, xs, n, ws, hs, L, rfl, hi, hw, k⟩ := h
    have r8 : Room 8 _ := hr
    refine ⟨_, (pss_cons (ps_expr (pe_fn GNW ONW r8 rfl (pa_cons (pv 0) (pa_cons (pv 1) (pa_cons (pv 2) pa_nil)))))
    (pss_cons (ps_set (i := 3) scGone.nd rfl (Or.inl rfl) (pe_callTy call_list_of rfl B.list b_list (pa_cons (pv 1) pa_nil)))
    (pss_cons (ps_for PassesOwn.never rfl (pi_list (pv 2)) (pg_tup rfl (pgs_cons (pg_name (i := 4) scGone.nd rfl (Or.inl rfl)) (pgs_cons (pg_name (i := 5) scGone.nd rfl (Or.inl rfl)) (pgs_cons (pg_name (i := 6) scGone.nd rfl (Or.inl rfl)) pgs_nil))))
      (pss_one (ps_asg (pv 6) (pg_sub (pv 3) (pv 4) set_list))))
    (pss_one (ps_ret (pe_callTy call_tuple_of rfl B.tuple b_tuple (pa_cons (pv 3) pa_nil))))))), ?_⟩
    refine ⟨_, rfl, _, rfl, _, rfl, x, y, p, xs, n, ws, hs, L, rfl, hi, hw, fun H1 s1 => ?_⟩
    have hi1 := hi.same s1
    obtain ⟨c0, rfl, hc0⟩ := den_tints.mp hi1.1.2.2.1
    have hxl := denAll_length hi.2.2.1
    rw [List.length_map] at hxl
    refine ⟨_, rfl, c0, _, rfl, .inr hc0, fun bh hbh => ?_⟩
    have s2 := Same.new (o := .lst (hs.map V.int)) hbh
    have e2 : upd H1 bh (.lst (hs.map V.int)) bh = some (.lst (hs.map V.int)) := upd_same
    generalize upd H1 bh (.lst (hs.map V.int)) = H2 at s2 e2 ⊢
    refine ⟨_, rfl, p, rfl, ⟨_, (hi1.same s2).2.1⟩, for_list (K := K) (a := p) (xs := xs) (fun i σ H3 => ∃ v4 v5 v6, σ = [some x, some (.ref c0), some (.ref p), some (.ref bh), v4, v5, v6] ∧ Same H1 H3 ∧ H3 bh = some (.lst ((goneL hs (L.take i)).map V.int))) ⟨_, _, _, rfl, s2, e2⟩ (fun i σ H3 _ ⟨_, _, _, _, s3, _⟩ => (hi1.same s3).2.1) ?_ ?_⟩
    · rintro i u σ H3 hu ⟨v4, v5, v6, rfl, s3, e3⟩
      obtain ⟨c, kk, gg, tt, rfl, el, hc, hst⟩ := (hi1.same s3).nth hw hu
      obtain ⟨k0, k1, _⟩ := stepB_parts hst
      refine ⟨c, _, rfl, hc, rfl, _, _, rfl, _, _, rfl, _, _, rfl, rfl, ?_⟩
      refine ⟨_, rfl, _, rfl, _, rfl, bh, _, kk, kk.toNat, rfl, rfl, e3, ixN_of k0 (by rw [List.length_map, goneL_len]; exact k1), ?_⟩
      refine ⟨_, _, _, rfl, s3.wr hbh, ?_⟩
      rw [upd_same, List.take_succ, el]
      show some (HO.lst _) = some (HO.lst ((goneL hs (L.take i ++ [[kk, gg, tt]])).map V.int))
      rw [goneL_snoc, List.map_set]
      rfl
    · rintro σ H3 ⟨v4, v5, v6, rfl, s3, e3⟩
      rw [hxl, List.take_of_length_le (Nat.le_refl _)] at e3
      refine ⟨_, rfl, bh, _, rfl, .inl ⟨SqL.of e3, fun q hq => k q _ ((s1.trans s3).trans (Same.new hq)) ((s1.trans s3).free hq) upd_same⟩⟩
def spBett (K : PySem.W.Frag) : Sp := fun vs H Q _ => ∃ x y p xs n ws hs L, vs = [x, y, .ref p] ∧ WIn K H x y p xs n ws hs L ∧ wayB ws hs L = true ∧ ∀ H', Same H H' → Q (.bl (bettB hs L)) H'
theorem scBetters : FnScope ["book", "deal", "some", "many"] ["book", "deal", "some"] (defScope sBetters) := ⟨rfl, rfl, rfl, by decide +kernel, rfl, by decide +kernel, by decide +kernel⟩
theorem loads_nat {n : Int} {hs : List Int} {h : Int} (h0 : 0 ≤ h) (h1 : h < n) : (loadsL n hs)[h.toNat]? = some ((hs.count h : Nat) : Int) := by
  unfold loadsL
  rw [List.getElem?_map, upto_get (show h.toNat < n.toNat by omega)]
  show some (((hs.count ((h.toNat : Nat) : Int) : Nat)) : Int) = _
  rw [show ((h.toNat : Nat) : Int) = h by omega]
theorem way_ends {H : Hp} {x y : V} {n : Int} {ws : List (List Int)} {hs : List Int} {kk gg tt : Int} (g : Good K H x y n ws hs) (h : stepB ws hs [kk, gg, tt] = true) : (0 ≤ gg ∧ gg < n) ∧ 0 ≤ tt ∧ tt < n := by
  obtain ⟨k0, k1, e, _, hm⟩ := stepB_parts h
  obtain ⟨_, _, _, hws⟩ := book_parts g.2.1
  obtain ⟨hdl, _⟩ := deal_parts g.2.2.2
  refine ⟨g.hand e, ?_⟩
  have hlt : kk.toNat < ws.length := by omega
  have e1 : ws.getD kk.toNat [] = ws[kk.toNat] := by rw [List.getD_eq_getElem?_getD, List.getElem?_eq_getElem hlt]; rfl
  rw [e1] at hm
  exact (work_parts (hws _ (List.getElem_mem hlt))).2.1 tt hm
theorem way_ne {ws : List (List Int)} {hs : List Int} {L : List (List Int)} (hw : wayB ws hs L = true) : L ≠ [] := fun z => by subst z; cases hw
theorem ok_betters {f fN : Addr} {fd dN : FuncData} (G : Fn K mg "betters" sBetters ["book", "deal", "some"] f fd) (B : Bl mg) (R : Pr K mg fW fH fK fB fNB fD fND fL dW dH dK dB dNB dD dND dL) (GNW : Fn K mg "need_way" sNeedW ["book", "deal", "some"] fN dN) (ONW : FnOk P w K mg base CX0 8 fN dN ["book", "deal", "some"] (spNeedW K)) : FnOk P w K mg base CX0 9 f fd ["book", "deal", "some"] (spBett K) := by
  have OL : FnOk P w K mg base CX0 7 fL dL ["book", "deal"] (spLoads K) := ok_loads B R
  refine G.fn.ok scBetters (fun vs H Q E h => ?_) (fun cdv A outer s H vs Q E hr h => ?_)
  · obtain ⟨x, y, p, xs, n, ws, hs, L, rfl, _⟩ := h
    rfl
  · obtain ⟨x, y, p, xs, n, ws, hs, L, rfl, hi, hw, k⟩ := h
    have r8 : Room 8 _ := hr
    have r7 : Room 7 _ := hr.mono (by decide)
    refine ⟨_, (pss_cons (ps_expr (pe_fn GNW ONW r8 rfl (pa_cons (pv 0) (pa_cons (pv 1) (pa_cons (pv 2) pa_nil)))))
    (pss_cons (ps_set (i := 3) scBetters.nd rfl (Or.inl rfl) (pe_fn R.L OL r7 rfl (pa_cons (pv 0) (pa_cons (pv 1) pa_nil))))
    (pss_one (ps_ret (pe_cmpR op_ge (pe_op op_sub (pe_ix ix_tup (pv 3) (pe_ix ix_tup (pe_ix ix_list (pv 2) pe_int (fun _ _ => rfl)) pe_int (fun _ _ => rfl)) (fun _ _ => rfl)) (pe_ix ix_tup (pv 3) (pe_ix ix_tup (pe_ix ix_list (pv 2) (pe_un un_neg pe_int) (fun _ _ => rfl)) pe_int (fun _ _ => rfl)) (fun _ _ => rfl))) pe_int (nomark _)))))), ?_⟩
    refine ⟨_, rfl, _, rfl, _, rfl, x, y, p, xs, n, ws, hs, L, rfl, hi, hw, fun H1 s1 => ?_⟩
    have hi1 := hi.same s1
    refine ⟨_, rfl, _, rfl, x, y, n, ws, hs, rfl, hi1.1, fun q H2 s2 e2 => ?_⟩
    have hi2 := hi1.same s2
    have hxl := denAll_length hi.2.2.1
    rw [List.length_map] at hxl
    have hne := way_ne hw
    have hpos := List.length_pos_iff.mpr hne
    obtain ⟨c, kk, gg, tt, eu, el, hc, hst⟩ := hi2.nth hw (List.getElem?_eq_getElem (l := xs) (i := 0) (by omega))
    obtain ⟨c', kk', gg', tt', eu', el', hc', hst'⟩ := hi2.nth hw (List.getElem?_eq_getElem (l := xs) (i := xs.length - 1) (by omega))
    obtain ⟨⟨g0, g1⟩, _⟩ := way_ends hi2.1 hst
    obtain ⟨_, t0, t1⟩ := way_ends hi2.1 hst'
    have eb : bettB hs L = decide (2 ≤ ((hs.count gg : Nat) : Int) - ((hs.count tt' : Nat) : Int)) := by
      have h1 : L.headD [] = [kk, gg, tt] := by
        cases L with
        | nil => exact absurd rfl hne
        | cons s r => exact Option.some.inj el
      have h2 : L.getLastD [] = [kk', gg', tt'] := by
        obtain ⟨z, z1, z2⟩ := getLast_at hne
        rw [hxl] at el'
        rw [el'] at z2
        rw [List.getLastD_eq_getLast?, z1, ← Option.some.inj z2]
        rfl
      unfold bettB
      rw [h1, h2]
      rfl
    rw [eb] at k
    refine ⟨_, rfl, _, rfl, p, xs, 0, .ref c, rfl, rfl, hi2.2.1, atI_nat (j := 0) (by rw [List.getElem?_eq_getElem (show 0 < xs.length by omega), eu]), c, _, 1, .int gg, rfl, rfl, hc, rfl, q, _, gg, _, rfl, rfl, SqT.of e2, atI_ints g0 (loads_nat g0 g1),
      _, rfl, _, rfl, 1, rfl, p, xs, _, .ref c', rfl, rfl, hi2.2.1, atI_neg1 (by rw [List.getElem?_eq_getElem (by omega), eu']), c', _, 2, .int tt', rfl, rfl, hc', rfl, q, _, tt', _, rfl, rfl, SqT.of e2, atI_ints t0 (loads_nat t0 t1), _, _, rfl, rfl, _, _, rfl, rfl, ?_⟩
    exact k H2 (s1.trans s2)
end
end Ab
set_option Elab.async false
set_option linter.all false
set_option maxRecDepth 100000
namespace L2
open PySem PySem.Spec PyProof.Rows
section
variable {P : Program} {w : World} {K : PySem.W.Frag} {mg : Str → Option Value} {base : Heap} {k : Nat} {f : Addr} {fd : FuncData} {ps : List Str} {sp sp' : Sp} {CX : CXT}
def spOr (a b : Sp) : Sp := fun vs H Q E => a vs H Q E ∨ b vs H Q E
theorem FnOk.or (F : FnOk P w K mg base CX k f fd ps sp) (F' : FnOk P w K mg base CX k f fd ps sp') : FnOk P w K mg base CX k f fd ps (spOr sp sp') :=
  ⟨fun vs H Q E h => h.elim (F.len vs H Q E) (F'.len vs H Q E), fun A outer s H args us vs Q E hr he hb hv hs => hs.elim (F.run A outer s H args us vs Q E hr he hb hv) (F'.run A outer s H args us vs Q E hr he hb hv)⟩
end
theorem pe_fn1 {X : Cx} {x : Str} {st : Stmt} {ps : List Str} {f : Addr} {fd : FuncData} {k : Nat} {sp : Sp} {E : XK} {p pos : Pos} {e : Expr} {es : List Expr} {t : TA} (G : Fn X.K X.mg x st ps f fd) (ok : FnOk X.prog X.w X.K X.mg X.base (CX1 X.prog X.w) k f fd ps sp) (hr : Room k X.A) (hg : Gl X x) (hp : Passes (CX1 X.prog X.w) X E) (ha : PA X (e :: es) t)
    (hdb : (x == ("__debug__" : Str)) = false := by decide) (he : starEach (e :: es) X.env = (false, eval e X.env) :: starEach es X.env := by rfl) (hpl : (backTo pos (starEach es X.env)).any (·.1) = false := by rfl) :
    PE X (.Call (.Name x p) (e :: es) [] pos) (tCall sp [] E t) := pe_call ok hr hg G.mgx G.kp G.bd .nil hp ha hdb he hpl
end L2
namespace Ab
open PySem L2
section
variable {P : Program} {w : World} {K : PySem.W.Frag} {mg : Str → Option Value} {base : Heap}
variable {cE : Addr} {c : Nat → Addr}
theorem ok_gonex {f fN : Addr} {fd dN : FuncData} {CW : Addr} (G : Fn K mg "gone" sGone ["book", "deal", "some"] f fd) (GNW : Fn K mg "need_way" sNeedW ["book", "deal", "some"] fN dN) (ONW : FnOk P w K mg base (CX1 P w) 8 fN dN ["book", "deal", "some"] (spNeedWx K CW)) : FnOk P w K mg base (CX1 P w) 9 f fd ["book", "deal", "some"] (spNeedWx K CW) := by
  refine G.fn.okX scGone (fun vs H Q E h => ?_) (fun cdv A outer s H vs Q E hr h => ?_)
  · obtain ⟨x, y, p, xs, n, ws, hs, L, rfl, _⟩ := h
    rfl
  · obtain ⟨x, y, p, xs, n, ws, hs, L, rfl, hi, hw, k⟩ := h
    refine ⟨_, pss_cons (ps_expr (pe_fn1 GNW ONW hr rfl pass1 (pa_cons (pv 0) (pa_cons (pv 1) (pa_cons (pv 2) pa_nil))))) pss_never, ?_⟩
    exact ⟨_, rfl, _, rfl, _, rfl, x, y, p, xs, n, ws, hs, L, rfl, hi, hw, k⟩
theorem ok_bettersx {f fN : Addr} {fd dN : FuncData} {CW : Addr} (G : Fn K mg "betters" sBetters ["book", "deal", "some"] f fd) (GNW : Fn K mg "need_way" sNeedW ["book", "deal", "some"] fN dN) (ONW : FnOk P w K mg base (CX1 P w) 8 fN dN ["book", "deal", "some"] (spNeedWx K CW)) : FnOk P w K mg base (CX1 P w) 9 f fd ["book", "deal", "some"] (spNeedWx K CW) := by
  refine G.fn.okX scBetters (fun vs H Q E h => ?_) (fun cdv A outer s H vs Q E hr h => ?_)
  · obtain ⟨x, y, p, xs, n, ws, hs, L, rfl, _⟩ := h
    rfl
  · obtain ⟨x, y, p, xs, n, ws, hs, L, rfl, hi, hw, k⟩ := h
    refine ⟨_, pss_cons (ps_expr (pe_fn1 GNW ONW hr rfl pass1 (pa_cons (pv 0) (pa_cons (pv 1) (pa_cons (pv 2) pa_nil))))) pss_never, ?_⟩
    exact ⟨_, rfl, _, rfl, _, rfl, x, y, p, xs, n, ws, hs, L, rfl, hi, hw, k⟩
def spAsked (K : PySem.W.Frag) : Sp := fun vs H Q _ => ∃ way x y p xs n ws hs L, vs = [.int way, x, y, .ref p] ∧ WIn K H x y p xs n ws hs L ∧ wayB ws hs L = false ∧ ∀ q v H', Same H H' → H' q = some (.tup [.str "way", v]) → Q (.ref q) H'
theorem scAsked : FnScope ["way", "book", "deal", "some", "caught", "told", "e"] ["way", "book", "deal", "some"] (defScope sAsked) := ⟨rfl, rfl, rfl, by decide +kernel, rfl, by decide +kernel, by decide +kernel⟩
theorem ok_asked {f fG fB fO fI : Addr} {fd dG dB dO dI : FuncData} (G : Fn K mg "_law_b_asked" sAsked ["way", "book", "deal", "some"] f fd) (GG : Fn K mg "gone" sGone ["book", "deal", "some"] fG dG) (GBe : Fn K mg "betters" sBetters ["book", "deal", "some"] fB dB) (GO : Fn K mg "_law_b_word" sWord ["e"] fO dO) (GI : Fn K mg "_law_b_kinds" sKinds ["e"] fI dI) (B : Bl mg) (Z : Cl K mg cE c)
    (OG : FnOk P w K mg base (CX1 P w) 9 fG dG ["book", "deal", "some"] (spNeedWx K (c 7))) (OB : FnOk P w K mg base (CX1 P w) 9 fB dB ["book", "deal", "some"] (spNeedWx K (c 7))) : FnOk P w K mg base CX0 10 f fd ["way", "book", "deal", "some"] (spAsked K) := by
  have OO : FnOk P w K mg base CX0 2 fO dO ["e"] (spWord c) := ok_word GO GI B Z
  refine G.fn.ok scAsked (fun vs H Q E h => ?_) (fun cdv A outer s H vs Q E hr h => ?_)
  · obtain ⟨way, x, y, p, xs, n, ws, hs, L, rfl, _⟩ := h
    rfl
  · obtain ⟨way, x, y, p, xs, n, ws, hs, L, rfl, hi, hw, k⟩ := h
    have h2 : Room 2 _ := hr.mono (by decide)
    refine ⟨_, pss_cons (ps_set (i := 4) scAsked.nd rfl (Or.inl rfl) pe_non) (pss_cons (ps_set (i := 5) scAsked.nd rfl (Or.inl rfl) pe_non)
      (pss_cons (ps_try (i := 4) (j := 6) (pb_if (pt_cmpR op_eq (pv 0) pe_int (nomark _))
          (pb_set (i := 5) OG hr rfl GG.mgx GG.kp GG.bd .nil (pa_cons (pv 1) (pa_cons (pv 2) (pa_cons (pv 3) pa_nil))) scAsked.nd rfl (Or.inl rfl))
          (pb_set (i := 5) OB hr rfl GBe.mgx GBe.kp GBe.bd .nil (pa_cons (pv 1) (pa_cons (pv 2) (pa_cons (pv 3) pa_nil))) scAsked.nd rfl (Or.inl rfl))) rfl rfl rfl rfl Z.mE Z.eE scAsked.nd rfl rfl (by decide) rfl rfl)
      (pss_one (ps_ret (pe_tup (pa_cons (pe_fn GO OO h2 rfl (pa_cons (pv 4) pa_nil)) (pa_cons (pv 5) pa_nil))))))), ?_⟩
    refine ⟨_, rfl, rfl, _, rfl, ?_⟩
    refine ite2 (fun _ => ?_) (fun _ => ?_)
    · exact ⟨_, rfl, _, rfl, _, rfl, x, y, p, xs, n, ws, hs, L, rfl, hi, hw, fun H' s1 => ⟨c 7, _, rfl, Z.ec 7 (by decide), Z.up, fun a ha => ⟨_, rfl, .inr ⟨a, 7, "way", rfl, upd_same, by decide, rfl, fun H2 s2 => ⟨_, rfl, sz2 _ _, fun q hq => k q _ _ (s1.trans ((Same.new ha).trans (s2.trans (Same.new hq)))) upd_same⟩⟩⟩⟩⟩
    · exact ⟨_, rfl, _, rfl, _, rfl, x, y, p, xs, n, ws, hs, L, rfl, hi, hw, fun H' s1 => ⟨c 7, _, rfl, Z.ec 7 (by decide), Z.up, fun a ha => ⟨_, rfl, .inr ⟨a, 7, "way", rfl, upd_same, by decide, rfl, fun H2 s2 => ⟨_, rfl, sz2 _ _, fun q hq => k q _ _ (s1.trans ((Same.new ha).trans (s2.trans (Same.new hq)))) upd_same⟩⟩⟩⟩⟩
end
end Ab
set_option Elab.async false
set_option linter.all false
set_option maxRecDepth 100000
namespace Ab
open PySem L2
section
variable {P : Program} {w : World} {K : PySem.W.Frag} {mg : Str → Option Value} {base : Heap}
def spRight (K : PySem.W.Frag) : Sp := fun vs H Q _ => ∃ x y p xs n ws hs L, vs = [x, y, .ref p] ∧ WIn K H x y p xs n ws hs L ∧ ∀ H', Same H H' → Q (.bl true) H'
theorem scRight : FnScope ["book", "deal", "some", "due", "work", "giver", "taker", "heaps", "found"] ["book", "deal", "some"] (defScope sRight) := ⟨rfl, rfl, rfl, by decide +kernel, rfl, by decide +kernel, by decide +kernel⟩
theorem den_ways {H : Hp} {l : Addr} (h : H l = some (.lst [.str "way", .str "way"])) : Den K H (.list [.str "way", .str "way"]) (.ref l) := den_list.mpr ⟨l, _, rfl, SqL.of h, denAll_cons.mpr ⟨_, _, rfl, den_str.mpr rfl, denAll_cons.mpr ⟨_, _, rfl, den_str.mpr rfl, denAll_nil.mpr rfl⟩⟩⟩
set_option maxHeartbeats 1000000 in
theorem ok_right {f fIW fAs fH fSm fG fB : Addr} {fd dIW dAs dH dSm dG dB : FuncData} (G : Fn K mg "_law_b_right" sRight ["book", "deal", "some"] f fd) (B : Bl mg) (GIW : Fn K mg "_law_b_is_way" sIsWay ["book", "deal", "some"] fIW dIW) (GAs : Fn K mg "_law_b_asked" sAsked ["way", "book", "deal", "some"] fAs dAs) (GH : Fn K mg "_law_b_heaps" sHeaps ["book", "deal"] fH dH) (GSm : Fn K mg "_law_b_same" sSame ["found", "due"] fSm dSm)
    (GG : Fn K mg "gone" sGone ["book", "deal", "some"] fG dG) (GBe : Fn K mg "betters" sBetters ["book", "deal", "some"] fB dB)
    (OIW : FnOk P w K mg base CX0 2 fIW dIW ["book", "deal", "some"] (spIsWay K)) (OAs : FnOk P w K mg base CX0 10 fAs dAs ["way", "book", "deal", "some"] (spAsked K)) (OG : FnOk P w K mg base CX0 9 fG dG ["book", "deal", "some"] (spGone K)) (OBe : FnOk P w K mg base CX0 9 fB dB ["book", "deal", "some"] (spBett K)) : FnOk P w K mg base CX0 11 f fd ["book", "deal", "some"] (spRight K) := by
  have OH : FnOk P w K mg base CX0 1 fH dH ["book", "deal"] (spHeaps K) := ok_heaps GH B
  have OSm : FnOk P w K mg base CX0 2 fSm dSm ["found", "due"] (spSame1 K) := ok_same1 GSm B
  refine G.fn.ok scRight (fun vs H Q E h => ?_) (fun cdv A outer s H vs Q E hr h => ?_)
  · obtain ⟨x, y, p, xs, n, ws, hs, L, rfl, _⟩ := h
    rfl
  · obtain ⟨x, y, p, xs, n, ws, hs, L, rfl, hi, k⟩ := h
    have r1 : Room 1 _ := hr.mono (by decide)
    have r2 : Room 2 _ := hr.mono (by decide)
    have r9 : Room 9 _ := hr.mono (by decide)
    have r10 : Room 10 _ := hr
    refine ⟨_, (pss_cons (ps_if (pt_not (pt_val (pe_fn GIW OIW r2 rfl (pa_cons (pv 0) (pa_cons (pv 1) (pa_cons (pv 2) pa_nil))))))
      (pss_one (ps_ret (pe_cmpR (op_eqD hr.u64) (pe_comp (own := ["way"]) (fr := [0, 1, 2]) (frn := ["book", "deal", "some"]) (compOk_of (defScope sRight) ["book", "deal", "some", "due", "work", "giver", "taker", "heaps", "found"] rfl rfl (by decide +kernel)) rfl (pi_range1 rfl B.range (pa_cons pe_int pa_nil))
        (fun _ _ _ _ => (pg_name (i := 0) (show (["way", "book", "deal", "some"] : List Str).Nodup by decide +kernel) rfl (Or.inl rfl))) (fun _ _ _ _ => pf_nil)
        (fun _ _ _ _ => (pe_ix (ix_tupK (K := K) rfl) (pe_fn GAs OAs r10 rfl (pa_cons (pv 0) (pa_cons (pv 1) (pa_cons (pv 2) (pa_cons (pv 3) pa_nil))))) pe_int (fun _ _ => rfl)))) (pe_lst (pa_cons pe_str (pa_cons pe_str pa_nil))) (nomark _))))
      pss_nil)
    (pss_cons (ps_set (i := 3) scRight.nd rfl (Or.inl rfl) (pe_callTy call_list_of rfl B.list b_list (pa_cons (pv 1) pa_nil)))
    (pss_cons (ps_for PassesOwn.never rfl (pi_list (pv 2)) (pg_tup rfl (pgs_cons (pg_name (i := 4) scRight.nd rfl (Or.inl rfl)) (pgs_cons (pg_name (i := 5) scRight.nd rfl (Or.inl rfl)) (pgs_cons (pg_name (i := 6) scRight.nd rfl (Or.inl rfl)) pgs_nil))))
      (pss_one (ps_asg (pv 6) (pg_sub (pv 3) (pv 4) set_list))))
    (pss_cons (ps_set (i := 7) scRight.nd rfl (Or.inl rfl) (pe_fn GH OH r1 rfl (pa_cons (pv 0) (pa_cons (pv 1) pa_nil))))
    (pss_cons (ps_if (pt_not (pt_val (pe_fn GSm OSm r2 rfl (pa_cons (pe_fn GG OG r9 rfl (pa_cons (pv 0) (pa_cons (pv 1) (pa_cons (pv 2) pa_nil)))) (pa_cons (pe_callTy call_tuple_of rfl B.tuple b_tuple (pa_cons (pv 3) pa_nil)) pa_nil)))))
      (pss_one (ps_ret pe_bl))
      pss_nil)
    (pss_cons (ps_set (i := 8) scRight.nd rfl (Or.inl rfl) (pe_fn GBe OBe r9 rfl (pa_cons (pv 0) (pa_cons (pv 1) (pa_cons (pv 2) pa_nil)))))
    (pss_one (ps_ret (pe_and (pe_callB call_isi_bool rfl B.isinstance b_isi (pa_cons (pv 8) (pa_cons (pe_bltn (v := .ty "bool") rfl B.bool b_bool rfl) pa_nil))) (pe_one (pe_cmpR op_eq (pv 8) (pe_cmpR op_gt (pe_op op_sub (pe_ix ix_list (pv 7) (pe_ix ix_tup (pe_ix ix_list (pv 2) pe_int (fun _ _ => rfl)) pe_int (fun _ _ => rfl)) (fun _ _ => rfl)) (pe_ix ix_list (pv 7) (pe_ix ix_tup (pe_ix ix_list (pv 2) (pe_un un_neg pe_int) (fun _ _ => rfl)) pe_int (fun _ _ => rfl)) (fun _ _ => rfl))) pe_int (nomark _)) (nomark _)))))))))))), ?_⟩
    refine ⟨_, rfl, _, rfl, _, rfl, x, y, p, xs, n, ws, hs, L, rfl, hi.1, hi.2.1, hi.2.2.1, hi.2.2.2.1, fun H1 s1 => ⟨_, rfl, ?_⟩⟩
    have hi1 := hi.same s1
    cases hw : wayB ws hs L with
    | false =>
      refine iteT ?_
      refine ⟨2, rfl, by decide, by decide, comp_fnR (lo := 0) (n := 2) (vs := [.str "way", .str "way"]) (fun σ => ∃ v, σ = [v, some x, some y, some (.ref p)]) (by decide) rfl ⟨none, rfl⟩ ?_ ?_⟩
      · rintro i v σ H2 hlt hv ⟨v0, rfl⟩ s2 Q' k'
        have ev : v = .str "way" := by
          have hm := List.mem_of_getElem? hv
          simp only [List.mem_cons, List.not_mem_nil, or_false, or_self] at hm
          exact hm
        subst ev
        exact ⟨_, rfl, _, rfl, _, rfl, _, rfl, _, x, y, p, xs, n, ws, hs, L, rfl, hi1.same s2, hw, fun q v H3 s3 e3 => ⟨q, _, 0, .str "way", rfl, rfl, SqT.of e3, rfl, k' _ H3 ⟨_, rfl⟩ s3⟩⟩
      · intro H2 s2 l1 hl1
        refine ⟨sz2 _ _, fun l2 hl2 => ?_⟩
        have s3 := Same.new (o := .lst [.str "way", .str "way"]) hl1
        have s4 := Same.new (o := .lst [.str "way", .str "way"]) hl2
        refine ⟨.list [.str "way", .str "way"], .list [.str "way", .str "way"], den_ways (s4 _ _ upd_same), den_ways upd_same, by decide +kernel, by decide +kernel, by decide +kernel, by decide +kernel, ?_⟩
        rw [show PyData.eqv (.list [.str "way", .str "way"]) (.list [.str "way", .str "way"]) = true by decide +kernel]
        exact k _ (((s1.trans s2).trans s3).trans s4)
    | true =>
      refine iteF ?_
      obtain ⟨c0, rfl, hc0⟩ := den_tints.mp hi1.1.2.2.1
      have hxl := denAll_length hi.2.2.1
      rw [List.length_map] at hxl
      refine ⟨_, rfl, c0, _, rfl, .inr hc0, fun bh hbh => ?_⟩
      have s2 := Same.new (o := .lst (hs.map V.int)) hbh
      have e2 : upd H1 bh (.lst (hs.map V.int)) bh = some (.lst (hs.map V.int)) := upd_same
      generalize upd H1 bh (.lst (hs.map V.int)) = H2 at s2 e2 ⊢
      refine ⟨_, rfl, p, rfl, ⟨_, (hi1.same s2).2.1⟩, for_list (K := K) (a := p) (xs := xs) (fun i σ H3 => ∃ v4 v5 v6, σ = [some x, some (.ref c0), some (.ref p), some (.ref bh), v4, v5, v6, none, none] ∧ Same H1 H3 ∧ H3 bh = some (.lst ((goneL hs (L.take i)).map V.int))) ⟨_, _, _, rfl, s2, e2⟩ (fun i σ H3 _ ⟨_, _, _, _, s3, _⟩ => (hi1.same s3).2.1) ?_ ?_⟩
      · rintro i u σ H3 hu ⟨v4, v5, v6, rfl, s3, e3⟩
        obtain ⟨c, kk, gg, tt, rfl, el, hc, hst⟩ := (hi1.same s3).nth hw hu
        obtain ⟨k0, k1, _⟩ := stepB_parts hst
        refine ⟨c, _, rfl, hc, rfl, _, _, rfl, _, _, rfl, _, _, rfl, rfl, ?_⟩
        refine ⟨_, rfl, _, rfl, _, rfl, bh, _, kk, kk.toNat, rfl, rfl, e3, ixN_of k0 (by rw [List.length_map, goneL_len]; exact k1), ?_⟩
        refine ⟨_, _, _, rfl, s3.wr hbh, ?_⟩
        rw [upd_same, List.take_succ, el]
        show some (HO.lst _) = some (HO.lst ((goneL hs (L.take i ++ [[kk, gg, tt]])).map V.int))
        rw [goneL_snoc, List.map_set]
        rfl
      · rintro σ H3 ⟨v4, v5, v6, rfl, s3, e3⟩
        rw [hxl, List.take_of_length_le (Nat.le_refl _)] at e3
        have hi3 := hi1.same s3
        refine ⟨_, rfl, _, rfl, x, .ref c0, n, ws, hs, rfl, hi3.1, fun hp H4 s4 hhp e4 => ?_⟩
        have hi4 := hi3.same s4
        refine ⟨_, rfl, _, rfl, _, rfl, x, .ref c0, p, xs, n, ws, hs, L, rfl, hi4, hw, fun q H5 s5 hq e5 => ?_⟩
        refine ⟨_, rfl, bh, _, rfl, .inl ⟨SqL.of (s5 _ _ (s4 _ _ e3)), fun q2 hq2 => ?_⟩⟩
        have s6 := Same.new (o := .tup ((goneL hs L).map V.int)) hq2
        have hl12 := hi.1.len.1
        refine ⟨goneL hs L, .ref q, .ref q2, false, rfl, by rw [goneL_len]; omega, ⟨_, rfl, den_tints.mpr ⟨q, rfl, SqT.of (s6 _ _ e5)⟩, den_tints.mpr ⟨q2, rfl, SqT.of upd_same⟩⟩, fun H7 s7 => ⟨_, rfl, ?_⟩⟩
        refine iteF ?_
        have s47 := s5.trans (s6.trans s7)
        have hi7 := hi4.same s47
        refine ⟨_, rfl, _, rfl, _, rfl, x, .ref c0, p, xs, n, ws, hs, L, rfl, hi7, hw, fun H8 s8 => ?_⟩
        have hi8 := hi7.same s8
        have hne := way_ne hw
        have hpos := List.length_pos_iff.mpr hne
        have h8 := s8 _ _ (s47 _ _ e4)
        obtain ⟨c, kk, gg, tt, eu, el, hc, hst⟩ := hi8.nth hw (List.getElem?_eq_getElem (l := xs) (i := 0) (by omega))
        obtain ⟨c', kk', gg', tt', eu', el', hc', hst'⟩ := hi8.nth hw (List.getElem?_eq_getElem (l := xs) (i := xs.length - 1) (by omega))
        obtain ⟨⟨g0, g1⟩, _⟩ := way_ends hi8.1 hst
        obtain ⟨_, t0, t1⟩ := way_ends hi8.1 hst'
        have eb : bettB hs L = decide (1 < ((hs.count gg : Nat) : Int) - ((hs.count tt' : Nat) : Int)) := by
          have h1 : L.headD [] = [kk, gg, tt] := by
            cases L with
            | nil => exact absurd rfl hne
            | cons s r => exact Option.some.inj el
          have h2 : L.getLastD [] = [kk', gg', tt'] := by
            obtain ⟨z, z1, z2⟩ := getLast_at hne
            rw [hxl] at el'
            rw [el'] at z2
            rw [List.getLastD_eq_getLast?, z1, ← Option.some.inj z2]
            rfl
          unfold bettB
          rw [h1, h2]
          rw [Bool.eq_iff_iff, decide_eq_true_iff, decide_eq_true_iff]
          show 2 ≤ ((hs.count gg : Nat) : Int) - ((hs.count tt' : Nat) : Int) ↔ _
          omega
        refine ⟨_, rfl, .bl _, .bl, rfl, rfl, true, rfl, ?_⟩
        refine iteT ?_
        refine ⟨_, rfl, _, rfl, _, rfl, p, xs, 0, .ref c, rfl, rfl, hi8.2.1, atI_nat (j := 0) (by rw [List.getElem?_eq_getElem (show 0 < xs.length by omega), eu]), c, _, 1, .int gg, rfl, rfl, hc, rfl, hp, _, gg, _, rfl, rfl, SqL.of h8, atI_ints g0 (loads_nat g0 g1),
          _, rfl, _, rfl, 1, rfl, p, xs, _, .ref c', rfl, rfl, hi8.2.1, atI_neg1 (by rw [List.getElem?_eq_getElem (by omega), eu']), c', _, 2, .int tt', rfl, rfl, hc', rfl, hp, _, tt', _, rfl, rfl, SqL.of h8, atI_ints t0 (loads_nat t0 t1), _, _, rfl, rfl, _, _, rfl, rfl, rfl, ?_⟩
        rw [eb, decide_eq_true rfl]
        exact k H8 ((s1.trans s3).trans ((s4.trans s47).trans s8))
end
end Ab
set_option Elab.async false
set_option linter.all false
set_option maxRecDepth 100000
namespace Ab
open PySem L2
theorem text_len : ∀ (ts : List Str) (k : Nat) (acc : Str), (textFrom k acc ts).length ≤ acc.length + piled ts
  | [], _, acc => by show acc.length ≤ acc.length + 0; exact Nat.le_refl _
  | t :: r, k, acc => by
    have ih := text_len r (k + 1) (acc ++ (if k > 0 then ", " else "" : String) ++ t)
    have e : (acc ++ (if k > 0 then ", " else "" : String) ++ t).length ≤ acc.length + 2 + t.length := by
      rw [Str.length_append, Str.length_append]
      have : (((if k > 0 then ", " else "" : String) : Str)).length ≤ 2 := by split <;> decide
      omega
    show (textFrom (k + 1) _ r).length ≤ _
    rw [piled_cons]
    omega
theorem list_len (ts : List Str) : (listText ts).length ≤ 2 + piled ts := by
  unfold listText
  rw [Str.length_append]
  have h := text_len ts 0 "["
  have e1 : ((("[" : String) : Str)).length = 1 := rfl
  have e2 : ((("]" : String) : Str)).length = 1 := rfl
  omega
theorem tuple_len (ts : List Str) : (tupleText ts).length ≤ 3 + piled ts := by
  unfold tupleText
  rw [Str.length_append, Str.length_append]
  have e1 : ((("(" : String) : Str)).length = 1 := rfl
  have e3 : (((if ts.length == 1 then ",)" else ")" : String) : Str)).length ≤ 2 := by split <;> decide
  have e4 : (Str.join ", " ts).length ≤ piled ts := by
    cases ts with
    | nil => decide
    | cons x r => have := join_length_add (x :: r) (by simp); omega
  omega
theorem shownAll_map {α : Type} (f : α → PyData) : ∀ l : List α, PyData.shownAll (l.map f) = l.map fun x => (f x).shown
  | [] => by rw [List.map_nil, PyData.shownAll]; rfl
  | x :: r => by rw [List.map_cons, PyData.shownAll, shownAll_map f r]; rfl
theorem piled_map {α : Type} (f : α → Str) (k : Nat) : ∀ l : List α, (∀ x ∈ l, (f x).length ≤ k) → piled (l.map f) ≤ (k + 2) * l.length
  | [], _ => by rw [List.map_nil, piled_nil]; exact Nat.zero_le _
  | x :: r, h => by
    rw [List.map_cons, piled_cons, List.length_cons, Nat.mul_succ]
    have h1 := h x (List.mem_cons_self ..)
    have h2 := piled_map f k r (fun y hy => h y (List.mem_cons_of_mem _ hy))
    omega
theorem canLay_work (l : List Int) : (workD l).canLay0 = true := canLay_tints l
theorem canLay_book (n : Int) (ws : List (List Int)) : (bookD n ws).canLay0 = true := by
  have h : (PyData.tuple (ws.map workD)).canLay0 = true := by unfold PyData.canLay0; exact canLay_map _ canLay_work ws
  unfold bookD
  rw [PyData.canLay0, PyData.canLayAll0, PyData.canLayAll0, canLay_int, h, PyData.canLayAll0]
  rfl
theorem depth_work (l : List Int) : (workD l).depth ≤ 1 := depth_tints l
theorem depth_book (n : Int) (ws : List (List Int)) : (bookD n ws).depth ≤ 3 := by
  have h : (PyData.tuple (ws.map workD)).depth ≤ 2 := by unfold PyData.depth; exact Nat.succ_le_succ (depth_map _ depth_work ws)
  have h2 := depth_int n
  unfold bookD
  rw [PyData.depth, PyData.depthAll, PyData.depthAll, PyData.depthAll]
  omega
mutual
theorem noDict_of : ∀ d : PyData, d.canLay0 = true → noDict d = true
  | .none, _ => by unfold noDict; rfl
  | .bool _, _ => by unfold noDict; rfl
  | .int _, _ => by unfold noDict; rfl
  | .str _, _ => by unfold noDict; rfl
  | .list ds, h => by unfold noDict; rw [PyData.canLay0] at h; exact noDicts_of ds h
  | .tuple ds, h => by unfold noDict; rw [PyData.canLay0] at h; exact noDicts_of ds h
  | .dict _, h => by rw [PyData.canLay0] at h; cases h
theorem noDicts_of : ∀ ds : List PyData, PyData.canLayAll0 ds = true → noDicts ds = true
  | [], _ => by unfold noDicts; rfl
  | d :: ds, h => by
    rw [PyData.canLayAll0, Bool.and_eq_true] at h
    unfold noDicts
    rw [noDict_of d h.1, noDicts_of ds h.2]
    rfl
end
theorem showable_map {α : Type} (f : α → PyData) : ∀ l : List α, (∀ x ∈ l, (f x).showable = true) → PyData.showableAll (l.map f) = true
  | [], _ => by rw [List.map_nil, PyData.showableAll]
  | x :: r, h => by rw [List.map_cons, PyData.showableAll, h x (List.mem_cons_self ..), showable_map f r (fun y hy => h y (List.mem_cons_of_mem _ hy))]; rfl
end Ab
set_option Elab.async false
set_option linter.all false
set_option maxRecDepth 100000
namespace Ab
open PySem L2
theorem big_int {i : Int} (h : i.natAbs < 10 ^ 38) : (PyData.int i).showable = true ∧ (PyData.int i).shown.length ≤ 40 := by
  refine ⟨?_, ?_⟩
  · unfold PyData.showable
    refine decide_eq_true ?_
    by_cases z : i.natAbs = 0
    · rw [z]; decide
    · have : i.natAbs.log2 < 128 := (Nat.log2_lt z).mpr (Nat.lt_of_lt_of_le h (by decide))
      omega
  · have e := int_text_length_le10 (a := i) (k := 38) (by decide) h
    rw [PyData.shown]
    show (Str.ofString (toString i)).length ≤ _
    rw [ofString_length]
    omega
def d3 (n : Int) (ws : List (List Int)) (hs : List Int) (L : List (List Int)) : PyData := .list [bookD n ws, dealD hs, .list (L.map workD)]
theorem row_big {l : List Int} (hl : l.length ≤ 15) (h : ∀ i ∈ l, i.natAbs < 10 ^ 38) : (workD l).showable = true ∧ (workD l).shown.length ≤ 640 := by
  unfold workD
  refine ⟨?_, ?_⟩
  · rw [PyData.showable]; exact showable_map _ l fun x hx => (big_int (h x hx)).1
  · rw [PyData.shown, shownAll_map]
    have h1 := tuple_len (l.map fun x => (PyData.int x).shown)
    have h2 := piled_map (fun x : Int => (PyData.int x).shown) 40 l (fun x hx => (big_int (h x hx)).2)
    omega
theorem rows_tup {ws : List (List Int)} (hw : ws.length ≤ 30) (h : ∀ l ∈ ws, l.length ≤ 15 ∧ ∀ i ∈ l, i.natAbs < 10 ^ 38) : (PyData.tuple (ws.map workD)).showable = true ∧ (PyData.tuple (ws.map workD)).shown.length ≤ 20000 := by
  refine ⟨?_, ?_⟩
  · rw [PyData.showable]; exact showable_map _ ws fun l hl => (row_big (h l hl).1 (h l hl).2).1
  · rw [PyData.shown, shownAll_map]
    have h1 := tuple_len (ws.map fun x => (workD x).shown)
    have h2 := piled_map (fun x => (workD x).shown) 640 ws (fun l hl => (row_big (h l hl).1 (h l hl).2).2)
    omega
theorem rows_lst {ws : List (List Int)} (hw : ws.length ≤ 30) (h : ∀ l ∈ ws, l.length ≤ 15 ∧ ∀ i ∈ l, i.natAbs < 10 ^ 38) : (PyData.list (ws.map workD)).showable = true ∧ (PyData.list (ws.map workD)).shown.length ≤ 20000 := by
  refine ⟨?_, ?_⟩
  · rw [PyData.showable]; exact showable_map _ ws fun l hl => (row_big (h l hl).1 (h l hl).2).1
  · rw [PyData.shown, shownAll_map]
    have h1 := list_len (ws.map fun x => (workD x).shown)
    have h2 := piled_map (fun x => (workD x).shown) 640 ws (fun l hl => (row_big (h l hl).1 (h l hl).2).2)
    omega
theorem canLay_d3 (n : Int) (ws : List (List Int)) (hs : List Int) (L : List (List Int)) : (d3 n ws hs L).canLay0 = true := by
  have h : (PyData.list (L.map workD)).canLay0 = true := by unfold PyData.canLay0; exact canLay_map _ canLay_work L
  have h2 : (dealD hs).canLay0 = true := canLay_tints hs
  unfold d3
  rw [PyData.canLay0, PyData.canLayAll0, PyData.canLayAll0, PyData.canLayAll0, canLay_book, h, h2, PyData.canLayAll0]
  rfl
theorem depth_d3 (n : Int) (ws : List (List Int)) (hs : List Int) (L : List (List Int)) : (d3 n ws hs L).depth ≤ 60 := by
  have h : (PyData.list (L.map workD)).depth ≤ 2 := by unfold PyData.depth; exact Nat.succ_le_succ (depth_map _ depth_work L)
  have h1 : (dealD hs).depth ≤ 1 := depth_tints hs
  have h2 := depth_book n ws
  unfold d3
  rw [PyData.depth, PyData.depthAll, PyData.depthAll, PyData.depthAll, PyData.depthAll]
  omega
theorem ok_d3 {n : Int} {ws : List (List Int)} {hs : List Int} {L : List (List Int)} (hb : isBook (bookD n ws) = true) (hd : dealP ws (dealD hs) = true) (hL : L.length ≤ 30) (h : ∀ l ∈ L, l.length ≤ 10 ∧ ∀ i ∈ l, i.natAbs < 10 ^ 38) : (d3 n ws hs L).showable = true ∧ (d3 n ws hs L).shown.length ≤ sizeLine := by
  obtain ⟨hn1, hn6, h12, hw⟩ := book_parts hb
  obtain ⟨d1, d2⟩ := deal_parts hd
  have hwk : ∀ l ∈ ws, l.length ≤ 15 ∧ ∀ i ∈ l, i.natAbs < 10 ^ 38 := fun l hl => by
    obtain ⟨_, w2, w3⟩ := work_parts (hw l hl)
    have h1 := work_short (by omega) w2 w3
    exact ⟨by omega, fun i hi => by have := w2 i hi; omega⟩
  have hhs : ∀ i ∈ hs, i.natAbs < 10 ^ 38 := fun x hx => by
    obtain ⟨i, hi⟩ := List.mem_iff_getElem?.mp hx
    have hlt : i < ws.length := by rw [← d1]; exact (List.getElem?_eq_some_iff.mp hi).1
    have hm := d2 i x ws[i] hi (List.getElem?_eq_getElem hlt)
    have := (work_parts (hw _ (List.getElem_mem hlt))).2.1 x hm
    omega
  obtain ⟨a1, a2⟩ := rows_tup (ws := ws) (by omega) hwk
  obtain ⟨b1, b2⟩ := row_big (l := hs) (by omega) hhs
  obtain ⟨c1, c2⟩ := rows_lst (ws := L) hL (fun l hl => ⟨by have := (h l hl).1; omega, (h l hl).2⟩)
  obtain ⟨i1, i2⟩ := big_int (i := n) (by omega)
  have e1 : (bookD n ws).showable = true := by
    unfold bookD
    rw [PyData.showable, PyData.showableAll, PyData.showableAll, PyData.showableAll, i1, a1]
    rfl
  have e3 : (bookD n ws).shown.length ≤ 20100 := by
    have e : (bookD n ws).shown = tupleText [(PyData.int n).shown, (PyData.tuple (ws.map workD)).shown] := by
      simp only [bookD, PyData.shown, PyData.shownAll]
    rw [e]
    have h1 := tuple_len [(PyData.int n).shown, (PyData.tuple (ws.map workD)).shown]
    rw [piled_cons, piled_cons, piled_nil] at h1
    omega
  refine ⟨?_, ?_⟩
  · unfold d3
    have b1' : (dealD hs).showable = true := b1
    rw [PyData.showable, PyData.showableAll, PyData.showableAll, PyData.showableAll, PyData.showableAll, e1, b1', c1]
    rfl
  · have e4 : (d3 n ws hs L).shown = listText [(bookD n ws).shown, (dealD hs).shown, (PyData.list (L.map workD)).shown] := by
      simp only [d3, PyData.shown, PyData.shownAll]
    rw [e4]
    have h1 := list_len [(bookD n ws).shown, (dealD hs).shown, (PyData.list (L.map workD)).shown]
    have b2' : (dealD hs).shown.length ≤ 640 := b2
    rw [piled_cons, piled_cons, piled_cons, piled_nil] at h1
    rw [sizeLine_eq]
    omega
end Ab
set_option Elab.async false
set_option linter.all false
set_option maxRecDepth 100000
namespace L2
open PySem
theorem Vw.un {q t : Addr} {H : Hp} : Same (Vw [q, t] H) (Vw [t] H) := fun b o h => by
  by_cases z : b ∈ [q, t]
  · unfold Vw at h; rw [if_pos z] at h; cases h
  · rw [Vw.out z] at h
    have n : b ∉ [t] := fun w => z (by simp at w; simp [w])
    rw [Vw.out n]; exact h
end L2
namespace Ab
open PySem L2
section
variable {P : Program} {w : World} {K : PySem.W.Frag} {mg : Str → Option Value} {base : Heap}
def AskOk (K : PySem.W.Frag) (H : Hp) (u : V) : Prop := ∃ q pg wh n ws hs, u = .ref q ∧ SqT K H q [pg, wh] ∧ Good K H pg wh n ws hs
theorem AskOk.same {H H' : Hp} {u : V} (h : AskOk K H u) (s : Same H H') : AskOk K H' u := let ⟨q, pg, wh, n, ws, hs, e, h1, h2⟩ := h; ⟨q, pg, wh, n, ws, hs, e, s.seqT h1, h2.same s⟩
theorem den_d3 {H : Hp} {bp dp p lp : Addr} {xs : List V} {n : Int} {ws : List (List Int)} {hs : List Int} {L : List (List Int)} (g : Good K H (.ref bp) (.ref dp) n ws hs) (hp : H p = some (.lst xs)) (d : DenAll K H (L.map workD) xs) (h : H lp = some (.lst [.ref bp, .ref dp, .ref p])) : Den K H (d3 n ws hs L) (.ref lp) :=
  den_list.mpr ⟨lp, _, rfl, SqL.of h, denAll_cons.mpr ⟨_, _, rfl, g.1, denAll_cons.mpr ⟨_, _, rfl, g.2.2.1, denAll_cons.mpr ⟨_, _, rfl, den_steps (SqL.of hp) d, denAll_nil.mpr rfl⟩⟩⟩⟩
def spLaw (K : PySem.W.Frag) : Sp := fun vs H Q _ => ∃ (a : Addr) (ns : List Int), vs = [.ref a] ∧ SqL K H a (ns.map V.int) ∧ ∀ H', Q (.bl true) H'
theorem scLaw : FnScope ["script", "tape", "k", "book", "deal", "again", "steps", "rows", "bents", "some", "kept", "twin", "page", "where"] ["script"] (defScope sLaw) := ⟨rfl, rfl, rfl, by decide +kernel, rfl, by decide +kernel, by decide +kernel⟩
set_option maxHeartbeats 4000000 in
theorem ok_law {f fB fE fBt fWk fTn fTw fR fD : Addr} {fd dB dE dBt dWk dTn dTw dR dD : FuncData} (G : Fn K mg "law" sLaw ["script"] f fd) (B : Bl mg) (GB : Fn K mg "_law_b_book" sBook ["tape", "hands", "works"] fB dB) (GE : Fn K mg "_law_b_deal" sDeal ["tape", "book"] fE dE) (GD : Fn K mg "_law_b_digit" sDigit ["tape", "many"] fD dD)
    (GBt : Fn K mg "_law_b_bent" sBent ["tape", "book", "deal", "some"] fBt dBt) (GWk : Fn K mg "_law_b_walked" sWalked ["tape", "book", "deal"] fWk dWk) (GTn : Fn K mg "_law_b_twin" sTwin ["tape", "book", "deal"] fTn dTn) (GTw : Fn K mg "_law_b_twice" sTwice ["tape", "book", "some"] fTw dTw) (GR : Fn K mg "_law_b_right" sRight ["book", "deal", "some"] fR dR)
    (OB : FnOk P w K mg base CX0 4 fB dB ["tape", "hands", "works"] (spBook K)) (OE : FnOk P w K mg base CX0 3 fE dE ["tape", "book"] (spDeal K)) (OD : FnOk P w K mg base CX0 2 fD dD ["tape", "many"] (spDigit K)) (OBt : FnOk P w K mg base CX0 4 fBt dBt ["tape", "book", "deal", "some"] (spBent K)) (OWk : FnOk P w K mg base CX0 3 fWk dWk ["tape", "book", "deal"] (spWalked K))
    (OTn : FnOk P w K mg base CX0 3 fTn dTn ["tape", "book", "deal"] (spTwin K)) (OTw : FnOk P w K mg base CX0 3 fTw dTw ["tape", "book", "some"] (spTwice K)) (OR : FnOk P w K mg base CX0 11 fR dR ["book", "deal", "some"] (spRight K)) : FnOk P w K mg base CX0 12 f fd ["script"] (spLaw K) := by
  refine G.fn.ok scLaw (fun vs H Q E h => ?_) (fun cdv A outer s H vs Q E hr h => ?_)
  · obtain ⟨a, ns, rfl, _⟩ := h
    rfl
  · obtain ⟨a, ns, rfl, hns, k⟩ := h
    have r2 : Room 2 _ := hr.mono (by decide)
    have r3 : Room 3 _ := hr.mono (by decide)
    have r4 : Room 4 _ := hr.mono (by decide)
    refine ⟨_, (pss_cons (ps_set (i := 1) scLaw.nd rfl (Or.inr rfl) (pe_lst (pa_cons (pv 0) (pa_cons pe_int (pa_cons pe_int pa_nil)))))
    (pss_cons (ps_for PassesOwn.never rfl (pi_range1 rfl B.range (pa_cons pe_int pa_nil)) (pg_name (i := 2) scLaw.nd rfl (Or.inl rfl))
      (pss_cons (ps_if (PW.pt (pw_and (pt_cmpR op_gt (pv 2) pe_int (nomark _)) (pw_and1 (pt_cmpR op_ge (pe_ix ix_list (pv 1) pe_int (fun _ _ => rfl)) (pe_callB call_len_seq rfl B.len b_len (pa_cons (pv 0) pa_nil)) (nomark _)))))
      (pss_one ps_break)
      pss_nil)
    (pss_cons (ps_set (i := 3) scLaw.nd rfl (Or.inl rfl) (pe_fn GB OB r4 rfl (pa_cons (pv 1) (pa_cons pe_int (pa_cons pe_int pa_nil)))))
    (pss_cons (ps_set (i := 4) scLaw.nd rfl (Or.inl rfl) (pe_fn GE OE r3 rfl (pa_cons (pv 1) (pa_cons (pv 3) pa_nil))))
    (pss_one (ps_for PassesOwn.never rfl (pi_range1 rfl B.range (pa_cons pe_int pa_nil)) (pg_name (i := 5) scLaw.nd rfl (Or.inl rfl))
      (pss_cons (ps_set (i := 6) scLaw.nd rfl (Or.inl rfl) (pe_fn GWk OWk r3 rfl (pa_cons (pv 1) (pa_cons (pv 3) (pa_cons (pv 4) pa_nil)))))
    (pss_cons (ps_set (i := 7) scLaw.nd rfl (Or.inl rfl) (pe_lst (pa_cons (pv 6) (pa_cons (pe_revL (pv 6) (pe_un un_neg pe_int)) (pa_cons (pe_slice sl_list (pv 6) (po_some pe_int) po_none) (pa_cons (pe_slice sl_list (pv 6) po_none (po_some pe_int)) (pa_cons (pe_op op_cat (pv 6) (pe_slice sl_list (pv 6) po_none (po_some pe_int))) (pa_cons (pe_lst pa_nil) pa_nil))))))))
    (pss_cons (ps_set (i := 8) scLaw.nd rfl (Or.inr rfl) (pe_fn GBt OBt r4 rfl (pa_cons (pv 1) (pa_cons (pv 3) (pa_cons (pv 4) (pa_cons (pv 6) pa_nil))))))
    (pss_cons (ps_set (i := 8) scLaw.nd rfl (Or.inr rfl) (pe_comp (own := ["turn"]) (fr := [8, 1]) (frn := ["bents", "tape"]) (compOk_of (defScope sLaw) ["script", "tape", "k", "book", "deal", "again", "steps", "rows", "bents", "some", "kept", "twin", "page", "where"] rfl rfl (by decide +kernel)) rfl (pi_range1 rfl B.range (pa_cons pe_int pa_nil))
        (fun _ _ _ _ => (pg_name (i := 0) (show (["turn", "bents", "tape"] : List Str).Nodup by decide +kernel) rfl (Or.inl rfl))) (fun _ _ _ _ => pf_nil)
        (fun _ _ _ _ => (pe_ix (ix_listK (K := K) rfl) (pv 1) (pe_fn GD OD r2 rfl (pa_cons (pv 2) (pa_cons (pe_callB (call_len_seqK (K := K) rfl) rfl B.len b_len (pa_cons (pv 1) pa_nil)) pa_nil))) (fun _ _ => rfl)))))
    (pss_one (ps_for PassesOwn.never rfl (pi_list (pe_mid (pe_op op_cat (pe_op op_cat (pv 7) (pe_lst (pa_cons (pe_fn GTw OTw r3 rfl (pa_cons (pv 1) (pa_cons (pv 3) (pa_cons (pv 6) pa_nil)))) pa_nil))) (pv 8)))) (pg_name (i := 9) scLaw.nd rfl (Or.inl rfl))
      (pss_cons (ps_set (i := 10) scLaw.nd rfl (Or.inl rfl) (pe_callB (call_repr hr.gd hr.u64) rfl B.repr b_repr (pa_cons (pe_lst (pa_cons (pv 3) (pa_cons (pv 4) (pa_cons (pv 9) pa_nil)))) pa_nil)))
    (pss_cons (ps_set (i := 11) scLaw.nd rfl (Or.inl rfl) (pe_fn GTn OTn r3 rfl (pa_cons (pv 1) (pa_cons (pv 3) (pa_cons (pv 4) pa_nil)))))
    (pss_one (ps_for PassesOwn.never rfl (pi_list (pe_mid (pe_lst (pa_cons (pe_tup (pa_cons (pv 3) (pa_cons (pv 4) pa_nil))) (pa_cons (pe_tup (pa_cons (pv 11) (pa_cons (pv 4) pa_nil))) (pa_cons (pe_tup (pa_cons (pv 3) (pa_cons (pe_fn GE OE r3 rfl (pa_cons (pv 1) (pa_cons (pv 3) pa_nil))) pa_nil))) pa_nil)))))) (pg_tup rfl (pgs_cons (pg_name (i := 12) scLaw.nd rfl (Or.inl rfl)) (pgs_cons (pg_name (i := 13) scLaw.nd rfl (Or.inl rfl)) pgs_nil)))
      (pss_one (ps_if (PW.pt (pw_or (pt_not (pt_val (pe_fn GR OR hr rfl (pa_cons (pv 12) (pa_cons (pv 13) (pa_cons (pv 9) pa_nil)))))) (pw_or1 (pt_cmpR op_ne (pe_callB (call_repr hr.gd hr.u64) rfl B.repr b_repr (pa_cons (pe_lst (pa_cons (pv 3) (pa_cons (pv 4) (pa_cons (pv 9) pa_nil)))) pa_nil)) (pv 10) (nomark _)))))
      (pss_one (ps_ret pe_bl))
      pss_nil))))))))))))))))))
    (pss_one (ps_ret pe_bl)))), ?_⟩
    refine ⟨_, rfl, size1 (show 3 ≤ 1000 by decide), fun t ht => ?_⟩
    have hTape : Tape K (upd H t (.lst [.ref a, .int 0, .int 0])) t a ns := ⟨⟨0, 0, by decide, upd_same⟩, (Same.new ht).seqL hns⟩
    generalize upd H t (.lst [.ref a, .int 0, .int 0]) = H1 at hTape ⊢
    refine ⟨3, rfl, by decide, by decide, for_range (lo := 0) (n := 3) (fun i σ H2 => (∃ v2 v3 v4 v5 v6 v7 v8 v9 v10 v11 v12 v13, σ = [some (.ref a), some (.ref t), v2, v3, v4, v5, v6, v7, v8, v9, v10, v11, v12, v13]) ∧ Tape K H2 t a ns) ⟨⟨none, none, none, none, none, none, none, none, none, none, none, none, rfl⟩, hTape⟩ ?_ ?_⟩
    · rintro i σ H2 hi ⟨⟨v2, v3, v4, v5, v6, v7, v8, v9, v10, v11, v12, v13, rfl⟩, T2⟩
      obtain ⟨⟨p2, q2, hp2, ht2⟩, hns2⟩ := id T2
      refine tAnd_any (fun R hR => ⟨_, rfl, _, _, rfl, rfl, _, rfl, hR _⟩) (fun R hR => ⟨_, rfl, t, _, 1, .int p2, rfl, rfl, SqL.of ht2, rfl, _, rfl, a, _, rfl, .inl hns2, _, _, rfl, rfl, _, rfl, hR _⟩) (fun b => ?_)
      refine ite2 (fun _ => ?_) (fun _ => ?_)
      · exact k _
      refine ⟨_, rfl, t, a, ns, rfl, T2, fun n ws bp H3 hb b3 T3 hbk => ?_⟩
      refine ⟨_, rfl, _, rfl, t, a, ns, .ref bp, n, ws, rfl, T3, hbk, hb, fun hs dp H4 hd b4 T4 hdl => ?_⟩
      have g4 : Good K H4 (.ref bp) (.ref dp) n ws hs := ⟨T3.den b4 (noList_book n ws) hbk, hb, hdl, hd⟩
      obtain ⟨hdlen, hdg⟩ := deal_parts hd
      refine ⟨4, rfl, by decide, by decide, for_range (lo := 0) (n := 4) (fun j σ H7 => (∃ v5 v6 v7 v8 v9 v10 v11 v12 v13, σ = [some (.ref a), some (.ref t), some (.int (0 + (i : Int))), some (.ref bp), some (.ref dp), v5, v6, v7, v8, v9, v10, v11, v12, v13]) ∧ Tape K H7 t a ns ∧ Good K H7 (.ref bp) (.ref dp) n ws hs) ⟨⟨_, _, _, _, _, _, _, _, _, rfl⟩, T4, g4⟩ ?_ ?_⟩
      · rintro j σ H7 hj ⟨⟨v5, v6, v7, v8, v9, v10, v11, v12, v13, rfl⟩, T7, g7⟩
        refine ⟨_, rfl, _, rfl, _, rfl, t, a, ns, .ref bp, .ref dp, n, ws, hs, rfl, T7, g7, fun p xs L H8 b8 T8 hp8 hpp8 d8 hL8 h38 => ?_⟩
        have g8 := T7.good b8 g7
        have npt : p ≠ t := T7.ne hp8
        have hxl := denAll_length d8
        rw [List.length_map] at hxl
        have F8 := T8.fx
        have hl12 := g8.len.1
        have s38 : S3 K [t] p xs H8 := ⟨by rw [Vw.out (by simpa using npt)]; exact hpp8, fun y hy => by
          obtain ⟨i, hi⟩ := List.mem_iff_getElem?.mp hy
          have hlt : i < L.length := by have := (List.getElem?_eq_some_iff.mp hi).1; omega
          obtain ⟨kk, gg, tt, e3, k0, k1, g01, t01⟩ := h38 _ (List.getElem_mem hlt)
          obtain ⟨c, e1, e2⟩ := denAll_nth d8 (List.getElem?_eq_getElem hlt)
          rw [hi] at e1
          rw [e3] at e2
          exact ⟨c, kk, gg, tt, Option.some.inj e1, F8.seqT e2, by omega, by omega, by omega⟩⟩
        have sm8 := s38.sl (by omega)
        dsimp only [gName]
        refine set_go (lst_goE (E := SL K [t] 30) F8 (alE_cons (al_SLm (al_var (R := SL K [t] 7) rfl sm8)) (alE_cons (al_SLm (alE_revL (al_var rfl sm8) al_neg1)) (alE_cons (al_SLm (alE_sliceL (al_var rfl sm8) (alO_some al_int) alO_none)) (alE_cons (al_SLm (alE_sliceL (al_var rfl sm8) alO_none (alO_some al_int)))
          (alE_cons (al_SLm (alE_catL (al_var rfl sm8) (alE_sliceL (al_var rfl sm8) alO_none (alO_some al_int)))) (alE_cons (al_SLm (al_SL1 (k := 0) alE_nil)) alE_nil)))))) fun rl vs H9 s9 hrl hlen hv => ?_)
        have s10 := Same.new (o := .lst vs) hrl
        have s810 := s9.trans s10
        have T10' := T8.same s810
        have g10 := g8.same s810
        have nrt : rl ≠ t := (T8.same s9).ne hrl
        have e10 : upd H9 rl (.lst vs) rl = some (.lst vs) := upd_same
        have it10 : ∀ v ∈ vs, SL K [t] 30 (upd H9 rl (.lst vs)) v := fun v hv' => SL.move (Vw.same s10) (hv v hv')
        generalize upd H9 rl (.lst vs) = H10 at s10 s810 T10' g10 e10 it10 ⊢
        refine ⟨_, rfl, _, rfl, _, rfl, _, rfl, t, a, ns, .ref bp, .ref dp, n, ws, hs, p, xs, L, rfl, T10', g10, s810 _ _ hpp8, s810.denAll _ _ d8, hL8, h38, fun q H11 B11 => ?_⟩
        obtain ⟨it11, hit11, hil11, hiv11⟩ := B11.it
        have hiv11' : ∀ v ∈ it11, SL K [t] 30 H11 v := fun v hv' => SL.move Vw.un (hiv11 v hv')
        refine ⟨4, rfl, by decide, by decide, comp_range (lo := 0) (n := 4) (fun σ => ∃ v, σ = [v, some (.ref q), some (.ref t)]) (fun i ys H' => But t H11 H' ∧ Tape K H' t a ns ∧ ys.length ≤ i ∧ ∀ v ∈ ys, v ∈ it11) (le1000 (by decide)) ⟨none, rfl⟩ ⟨But.refl _ _, B11.T, Nat.zero_le _, fun v h => (List.not_mem_nil h).elim⟩
          (fun i ys H' p => p.2.2.1) ?_ ?_⟩
        · rintro i2 ys σ H12 hi2 ⟨v, rfl⟩ ⟨b12, T12, hyl, hym⟩ hz
          have q12 := b12 _ _ B11.ft hit11
          refine nameAll2 ?_
          refine ⟨_, rfl, _, rfl, _, rfl, q, _, rfl, .inl (SqL.of q12), t, a, ns, _, rfl, T12, by omega, by omega, fun r H13 r0 r1 b13 T13 => ?_⟩
          have er : it11[r.toNat]? = some it11[r.toNat] := List.getElem?_eq_getElem (by omega)
          refine ⟨q, _, r, _, rfl, rfl, SqL.of (b13 _ _ B11.ft q12), atI_vs r0 er, hz, ⟨_, rfl⟩, b12.trans b13, T13, by rw [List.length_append]; simp; omega, fun v hv' => ?_⟩
          rcases List.mem_append.mp hv' with h | h
          · exact hym v h
          · rw [List.mem_singleton.mp h]; exact List.mem_of_getElem? er
        rintro ys H12 ⟨b12, T12, hyl, hym⟩ bl hbl
        have s13 := Same.new (o := .lst ys) hbl
        have T13 := T12.same s13
        have nbt : bl ≠ t := T12.ne hbl
        have e13 : upd H12 bl (.lst ys) bl = some (.lst ys) := upd_same
        have b1013 : But t H10 (upd H12 bl (.lst ys)) := (B11.but.trans b12).trans (But.of s13)
        have b1113 : But t H11 (upd H12 bl (.lst ys)) := b12.trans (But.of s13)
        generalize upd H12 bl (.lst ys) = H13 at s13 T13 e13 b1013 b1113 ⊢
        have g13 := T10'.good b1013 g10
        have hp13 := b1013 _ _ npt (s810 _ _ hpp8)
        have d13 := T10'.denS b1013 (s810.denAll _ _ d8)
        refine ⟨fun v H20 => ∃ l3 items, v = .ref l3 ∧ H20 l3 = some (.lst items) ∧ l3 ≠ t ∧ (∀ u ∈ items, SL K [t] 30 H20 u) ∧ Tape K H20 t a ns ∧ Good K H20 (.ref bp) (.ref dp) n ws hs, ?_, ?_⟩
        · refine ⟨_, rfl, _, rfl, _, rfl, _, rfl, t, a, ns, .ref bp, n, ws, p, xs, L, rfl, T13, g13.1, hb, hp13, d13, (by rw [← hdlen]; exact h38), fun q2 H14 b14 T14 hq2 hsl => ?_⟩
          refine ⟨sz1 _, fun l1 hl1 => ?_⟩
          have s15 := Same.new (o := .lst [.ref q2]) hl1
          have e15 : upd H14 l1 (.lst [.ref q2]) l1 = some (.lst [.ref q2]) := upd_same
          have r15 := s15 _ _ (b14 _ _ nrt (b1013 _ _ nrt e10))
          generalize upd H14 l1 (.lst [.ref q2]) = H15 at s15 e15 r15 ⊢
          refine ⟨rl, l1, vs, [.ref q2], rfl, rfl, r15, e15, le1000 (by rw [hlen]; show 7 ≤ 1000; decide), fun l2 hl2 => ?_⟩
          have s16 := Same.new (o := .lst (vs ++ [.ref q2])) hl2
          have e16 : upd H15 l2 (.lst (vs ++ [.ref q2])) l2 = some (.lst (vs ++ [.ref q2])) := upd_same
          have z16 := s16 _ _ (s15 _ _ (b14 _ _ nbt e13))
          generalize upd H15 l2 (.lst (vs ++ [.ref q2])) = H16 at s16 e16 z16 ⊢
          refine ⟨_, rfl, l2, bl, _, ys, rfl, rfl, e16, z16, le1000 (by rw [List.length_append, hlen]; simp; omega), fun l3 hl3 => ?_⟩
          have s17 := Same.new (o := .lst (vs ++ [.ref q2] ++ ys)) hl3
          have s1417 := (s15.trans s16).trans s17
          have m1017 : Same (Vw [t] H10) (Vw [t] (upd H16 l3 (.lst (vs ++ [.ref q2] ++ ys)))) := ((b1013.vw (by simp)).trans (b14.vw (by simp))).trans (Vw.same s1417)
          have m1117 : Same (Vw [t] H11) (Vw [t] (upd H16 l3 (.lst (vs ++ [.ref q2] ++ ys)))) := ((b1113.vw (by simp)).trans (b14.vw (by simp))).trans (Vw.same s1417)
          refine ⟨l3, _, rfl, upd_same, (T14.same (s15.trans s16)).ne hl3, fun u hu => ?_, T14.same s1417, (T13.good b14 g13).same s1417⟩
          rcases List.mem_append.mp hu with hu | hu
          · rcases List.mem_append.mp hu with hu | hu
            · exact SL.move m1017 (it10 u hu)
            · rw [List.mem_singleton.mp hu]
              exact SL.mono (SL.move (Vw.same s1417) hsl) (by decide)
          · exact SL.move m1117 (hiv11' u (hym u hu))
        rintro _ H20 ⟨l3, items, rfl, e20, n3t, it20, T20, g20⟩
        refine ⟨l3, rfl, ⟨_, SqL.of e20⟩, for_list (K := K) (a := l3) (xs := items) (fun _ σ H21 => (∃ v9 v10 v11 v12 v13, σ = [some (.ref a), some (.ref t), some (.int (0 + (i : Int))), some (.ref bp), some (.ref dp), some (.int (0 + (j : Int))), some (.ref p), some (.ref rl), some (.ref bl), v9, v10, v11, v12, v13]) ∧ But t H20 H21 ∧ Tape K H21 t a ns ∧ Good K H21 (.ref bp) (.ref dp) n ws hs) ⟨⟨_, _, _, _, _, rfl⟩, But.refl _ _, T20, g20⟩ (fun _ σ H21 _ ⟨_, b21, _⟩ => SqL.of (b21 _ _ n3t e20)) ?_ ?_⟩
        · rintro m u σ H21 hu ⟨⟨v9, v10, v11, v12, v13, rfl⟩, b21, T21, g21⟩
          have hsu := SL.move (b21.vw (by simp)) (it20 u (List.mem_of_getElem? hu))
          obtain ⟨pu, _, eu, hvu, _⟩ := id hsu
          subst eu
          have nput : pu ≠ t := fun z => by
            unfold Vw at hvu; rw [if_pos (by simp [z])] at hvu; cases hvu
          obtain ⟨xu, Lu, hpu, du, hlu, hx30, hl10⟩ := den_notnil hsu
          obtain ⟨sh, sl⟩ := ok_d3 (n := n) (ws := ws) (hs := hs) (L := Lu) hb hd (by omega) hl10
          have hcl := canLay_d3 n ws hs Lu
          refine ⟨_, rfl, _, rfl, _, rfl, le1000 (show 3 ≤ 1000 by decide), fun lp hlp => ?_⟩
          have s22 := Same.new (o := .lst [.ref bp, .ref dp, .ref pu]) hlp
          refine ⟨d3 n ws hs Lu, lp, rfl, den_d3 (g21.same s22) (s22 _ _ hpu) (s22.denAll _ _ du) upd_same, noDict_of _ hcl, PyData.hasDict_of_canLay _ hcl, sh, depth_d3 _ _ _ _, sl, ?_⟩
          have T22 := T21.same s22
          have g22 := g21.same s22
          have hpu22 := s22 _ _ hpu
          have du22 := s22.denAll _ _ du
          generalize upd H21 lp (.lst [.ref bp, .ref dp, .ref pu]) = H22 at s22 T22 g22 hpu22 du22 ⊢
          refine ⟨_, rfl, _, rfl, _, rfl, t, a, ns, .ref bp, .ref dp, n, ws, hs, rfl, T22, g22, fun tp n' ws' H23 b23 T23 g23' => ?_⟩
          have g23 := T22.good b23 g22
          refine ⟨fun v H30 => ∃ al us, v = .ref al ∧ H30 al = some (.lst us) ∧ (∀ u ∈ us, AskOk K H30 u) ∧ But t H23 H30 ∧ Tape K H30 t a ns, ?_, ?_⟩
          · refine ⟨_, rfl, _, rfl, sz2 _ _, fun q1 hq1 => ?_⟩
            have s24 := Same.new (o := .tup [.ref bp, .ref dp]) hq1
            have u24 : upd H23 q1 (.tup [.ref bp, .ref dp]) q1 = some (.tup [.ref bp, .ref dp]) := upd_same
            generalize upd H23 q1 (.tup [.ref bp, .ref dp]) = H24 at s24 u24 ⊢
            refine ⟨_, rfl, _, rfl, sz2 _ _, fun q2 hq2 => ?_⟩
            have s25 := Same.new (o := .tup [.ref tp, .ref dp]) hq2
            have u25 : upd H24 q2 (.tup [.ref tp, .ref dp]) q2 = some (.tup [.ref tp, .ref dp]) := upd_same
            generalize upd H24 q2 (.tup [.ref tp, .ref dp]) = H25 at s25 u25 ⊢
            have s2325 := s24.trans s25
            have T25 := T23.same s2325
            have g25 := g23.same s2325
            refine ⟨_, rfl, _, rfl, _, rfl, t, a, ns, .ref bp, n, ws, rfl, T25, g25.1, hb, fun hs2 dp2 H26 hd2 b26 T26 hdl2 => ?_⟩
            have g26 := T25.good b26 g25
            refine ⟨sz2 _ _, fun q3 hq3 => ?_⟩
            have s27 := Same.new (o := .tup [.ref bp, .ref dp2]) hq3
            have u27 : upd H26 q3 (.tup [.ref bp, .ref dp2]) q3 = some (.tup [.ref bp, .ref dp2]) := upd_same
            generalize upd H26 q3 (.tup [.ref bp, .ref dp2]) = H27 at s27 u27 ⊢
            refine ⟨le1000 (show 3 ≤ 1000 by decide), fun al hal => ?_⟩
            have s28 := Same.new (o := .lst [.ref q1, .ref q2, .ref q3]) hal
            have s2628 := s27.trans s28
            refine ⟨al, _, rfl, upd_same, fun u hu => ?_, ((But.of s2325).trans b26).trans (But.of s2628), T26.same s2628⟩
            simp only [List.mem_cons, List.not_mem_nil, or_false] at hu
            rcases hu with rfl | rfl | rfl
            · exact ⟨q1, _, _, n, ws, hs, rfl, s2628.seqT (T25.seqT b26 (s25.seqT (SqT.of u24))), g26.same s2628⟩
            · exact ⟨q2, _, _, n', ws', hs, rfl, s2628.seqT (T25.seqT b26 (SqT.of u25)), (T25.good b26 (g23'.same s2325)).same s2628⟩
            · exact ⟨q3, _, _, n, ws, hs2, rfl, s28.seqT (SqT.of u27), (show Good K H26 (.ref bp) (.ref dp2) n ws hs2 from ⟨g26.1, hb, hdl2, hd2⟩).same s2628⟩
          rintro _ H30 ⟨al, us, rfl, e30, asks, b30, T30⟩
          have g30 := T23.good b30 g23
          have b2230 := b23.trans b30
          have hpu30 := b2230 _ _ nput hpu22
          have du30 := T22.denS b2230 du22
          refine ⟨al, rfl, ⟨_, SqL.of e30⟩, for_list (K := K) (a := al) (xs := us) (fun _ σ H31 => (∃ v12 v13, σ = [some (.ref a), some (.ref t), some (.int (0 + (i : Int))), some (.ref bp), some (.ref dp), some (.int (0 + (j : Int))), some (.ref p), some (.ref rl), some (.ref bl), some (.ref pu), some (.str (d3 n ws hs Lu).shown), some (.ref tp), v12, v13]) ∧ Same H30 H31) ⟨⟨_, _, rfl⟩, Same.refl _⟩ (fun _ σ H31 _ ⟨_, s31⟩ => SqL.of (s31 _ _ e30)) ?_ ?_⟩
          · rintro m2 u σ H31 hu2 ⟨⟨v12, v13, rfl⟩, s31⟩
            obtain ⟨q, pg, wh, n1, ws1, hs1, rfl, hq, gq⟩ := (asks u (List.mem_of_getElem? hu2)).same s31
            refine ⟨q, _, rfl, hq, rfl, _, _, rfl, _, _, rfl, rfl, ?_⟩
            refine ⟨_, rfl, _, rfl, _, rfl, pg, wh, pu, xu, n1, ws1, hs1, Lu, rfl, ⟨gq, SqL.of (s31 _ _ hpu30), s31.denAll _ _ du30, by omega, fun l hl => Nat.le_trans (hl10 l hl).1 (by decide)⟩, fun H32 s32 => ⟨_, rfl, ?_⟩⟩
            refine iteF ?_
            have s3032 := s31.trans s32
            refine ⟨_, rfl, _, rfl, _, rfl, le1000 (show 3 ≤ 1000 by decide), fun lp2 hlp2 => ?_⟩
            have s33 := Same.new (o := .lst [.ref bp, .ref dp, .ref pu]) hlp2
            have s3033 := s3032.trans s33
            refine ⟨d3 n ws hs Lu, lp2, rfl, den_d3 (g30.same s3033) (s3033 _ _ hpu30) (s3033.denAll _ _ du30) upd_same, noDict_of _ hcl, PyData.hasDict_of_canLay _ hcl, sh, depth_d3 _ _ _ _, sl, _, rfl, rfl, _, rfl, ?_⟩
            rw [show ∀ v : V, (!decide (v = v)) = false from fun v => by simp]
            refine iteF ?_
            exact ⟨⟨_, _, rfl⟩, s3033⟩
          · rintro σ H31 ⟨⟨v12, v13, rfl⟩, s31⟩
            exact ⟨⟨_, _, _, _, _, rfl⟩, (b21.trans (But.of s22)).trans (b2230.trans (But.of s31)), T30.same s31, g30.same s31⟩
        · rintro σ H21 ⟨⟨v9, v10, v11, v12, v13, rfl⟩, b21, T21, g21⟩
          exact ⟨⟨_, _, _, _, _, _, _, _, _, rfl⟩, T21, g21⟩
      · rintro σ H7 ⟨⟨v5, v6, v7, v8, v9, v10, v11, v12, v13, rfl⟩, T7, g7⟩
        exact ⟨⟨_, _, _, _, _, _, _, _, _, _, _, _, rfl⟩, T7⟩
    · rintro σ H2 _
      exact k _
end
end Ab
set_option Elab.async false
set_option linter.all false
set_option maxRecDepth 100000
namespace Ab
open PySem L2 PyProof.Rows
theorem fn_mk {K : PySem.W.Frag} {h : Heap} {mg : Str → Option Value} (X : K.In h) (G : h.Ns mainGlobals mg) {x : Str} {st : Stmt} {ps : List Str} {f : Addr} {oc : Value} {od an : Option Addr} {osl : Array (Option Value)} {kV doc pm cdv ct : Value}
    (hb : ∀ (kV doc pm : Value) (an : Option Addr) (cdv ct : Value) (us : List Value), us.length = ps.length → bindArgs (PySem.W.fnOf x x (defArgs st) (defBody st) (defScope st) .none kV doc pm an cdv ct) ⟨us, []⟩ = pure (ps.zip us))
    (a : PySem.W.nsIn K mainGlobals x = some (some (.ref f))) (l : K.lookup f = some ⟨oc, od, .func (PySem.W.fnOf x x (defArgs st) (defBody st) (defScope st) .none kV doc pm an cdv ct), osl⟩) (c : PySem.W.codeIn K cdv x = true) (k : PySem.W.keepIn K (.ref f) = true) :
    ∃ f fd, Fn K mg x st ps f fd := by
  have F := fun_mk (st := st) l c k
  exact ⟨f, _, F, PySem.W.mg_of X G a, k, F.binds hb⟩
theorem bl_mk {K : PySem.W.Frag} {h : Heap} {mg : Str → Option Value} (X : K.In h) (G : h.Ns mainGlobals mg) {t6 t12 : Tok}
    (z0 : PySem.W.nsIn K mainGlobals "isinstance" = some none)
    (z1 : PySem.W.nsIn K mainGlobals "int" = some none)
    (z2 : PySem.W.nsIn K mainGlobals "bool" = some none)
    (z3 : PySem.W.nsIn K mainGlobals "tuple" = some none)
    (z4 : PySem.W.nsIn K mainGlobals "list" = some none)
    (z5 : PySem.W.nsIn K mainGlobals "len" = some none)
    (z6 : PySem.W.nsIn K mainGlobals "all" = some none)
    (z7 : PySem.W.nsIn K mainGlobals "zip" = some none)
    (z8 : PySem.W.nsIn K mainGlobals "range" = some none)
    (z9 : PySem.W.nsIn K mainGlobals "sorted" = some none)
    (z10 : PySem.W.nsIn K mainGlobals "set" = some none)
    (z11 : PySem.W.nsIn K mainGlobals "sum" = some none)
    (z12 : PySem.W.nsIn K mainGlobals "repr" = some none)
    (z13 : PySem.W.nsIn K mainGlobals "enumerate" = some none)
    (z14 : PySem.W.nsIn K mainGlobals "min" = some none)
    (z15 : PySem.W.nsIn K mainGlobals "ValueError" = some none)
    (zA : PySem.W.nsIn K mainGlobals "MOST_HANDS" = some (some (.int 6 t6))) (zB : PySem.W.nsIn K mainGlobals "MOST_WORKS" = some (some (.int 12 t12))) : Bl mg :=
  ⟨PySem.W.mg_none_of X G z0, PySem.W.mg_none_of X G z1, PySem.W.mg_none_of X G z2, PySem.W.mg_none_of X G z3, PySem.W.mg_none_of X G z4, PySem.W.mg_none_of X G z5, PySem.W.mg_none_of X G z6, PySem.W.mg_none_of X G z7, PySem.W.mg_none_of X G z8, PySem.W.mg_none_of X G z9, PySem.W.mg_none_of X G z10, PySem.W.mg_none_of X G z11, PySem.W.mg_none_of X G z12, PySem.W.mg_none_of X G z13, PySem.W.mg_none_of X G z14, PySem.W.mg_none_of X G z15, ⟨_, PySem.W.mg_of X G zA⟩, ⟨_, PySem.W.mg_of X G zB⟩⟩
theorem cl_mk {K : PySem.W.Frag} {h : Heap} {mg : Str → Option Value} (X : K.In h) (G : h.Ns mainGlobals mg) {cE a0 a1 a2 a3 a4 a5 a6 a7 a8 a9 a10 : Addr} (zE : PySem.W.nsIn K mainGlobals "DealError" = some (some (.ref cE))) (qE : ecB K cE vbm = true)
    (z0 : PySem.W.nsIn K mainGlobals "NoBook" = some (some (.ref a0))) (q0 : ecB K a0 (.ref cE :: vbm) = true)
    (z1 : PySem.W.nsIn K mainGlobals "NoCosts" = some (some (.ref a1))) (q1 : ecB K a1 (.ref cE :: vbm) = true)
    (z2 : PySem.W.nsIn K mainGlobals "NoDeal" = some (some (.ref a2))) (q2 : ecB K a2 (.ref cE :: vbm) = true)
    (z3 : PySem.W.nsIn K mainGlobals "NoHand" = some (some (.ref a3))) (q3 : ecB K a3 (.ref cE :: vbm) = true)
    (z4 : PySem.W.nsIn K mainGlobals "NoRooms" = some (some (.ref a4))) (q4 : ecB K a4 (.ref cE :: vbm) = true)
    (z5 : PySem.W.nsIn K mainGlobals "NoRow" = some (some (.ref a5))) (q5 : ecB K a5 (.ref cE :: vbm) = true)
    (z6 : PySem.W.nsIn K mainGlobals "NoText" = some (some (.ref a6))) (q6 : ecB K a6 (.ref cE :: vbm) = true)
    (z7 : PySem.W.nsIn K mainGlobals "NoWay" = some (some (.ref a7))) (q7 : ecB K a7 (.ref cE :: vbm) = true)
    (z8 : PySem.W.nsIn K mainGlobals "NoWeights" = some (some (.ref a8))) (q8 : ecB K a8 (.ref cE :: vbm) = true)
    (z9 : PySem.W.nsIn K mainGlobals "NoWork" = some (some (.ref a9))) (q9 : ecB K a9 (.ref cE :: vbm) = true)
    (z10 : PySem.W.nsIn K mainGlobals "TooMany" = some (some (.ref a10))) (q10 : ecB K a10 (.ref cE :: vbm) = true)
    (nd : [cE, a0, a1, a2, a3, a4, a5, a6, a7, a8, a9, a10].Nodup) : ∃ cE c, Cl K mg cE c := by
  have hl : ∀ i, i < 11 → ∃ a, [a0, a1, a2, a3, a4, a5, a6, a7, a8, a9, a10][i]? = some a := fun i hi => ⟨_, List.getElem?_eq_getElem (l := [a0, a1, a2, a3, a4, a5, a6, a7, a8, a9, a10]) (i := i) hi⟩
  have hc : ∀ (i : Nat) (a : Addr), [a0, a1, a2, a3, a4, a5, a6, a7, a8, a9, a10][i]? = some a → (fun i : Nat => ([a0, a1, a2, a3, a4, a5, a6, a7, a8, a9, a10][i]?).getD 0) i = a := fun i a e => by show ([a0, a1, a2, a3, a4, a5, a6, a7, a8, a9, a10][i]?).getD 0 = a; rw [e]; rfl
  have ndA : [a0, a1, a2, a3, a4, a5, a6, a7, a8, a9, a10].Nodup := (List.nodup_cons.mp nd).2
  have neE : cE ∉ [a0, a1, a2, a3, a4, a5, a6, a7, a8, a9, a10] := (List.nodup_cons.mp nd).1
  refine ⟨cE, fun i => ([a0, a1, a2, a3, a4, a5, a6, a7, a8, a9, a10][i]?).getD 0, ⟨fun i n e => ?_, fun i hi => ?_, fun i j hi hj e => ?_, fun i hi e => ?_, PySem.W.mg_of X G zE, ecH_base qE⟩⟩
  · match i, e with
    | 0, e => injection e with e; subst e; exact PySem.W.mg_of X G z0
    | 1, e => injection e with e; subst e; exact PySem.W.mg_of X G z1
    | 2, e => injection e with e; subst e; exact PySem.W.mg_of X G z2
    | 3, e => injection e with e; subst e; exact PySem.W.mg_of X G z3
    | 4, e => injection e with e; subst e; exact PySem.W.mg_of X G z4
    | 5, e => injection e with e; subst e; exact PySem.W.mg_of X G z5
    | 6, e => injection e with e; subst e; exact PySem.W.mg_of X G z6
    | 7, e => injection e with e; subst e; exact PySem.W.mg_of X G z7
    | 8, e => injection e with e; subst e; exact PySem.W.mg_of X G z8
    | 9, e => injection e with e; subst e; exact PySem.W.mg_of X G z9
    | 10, e => injection e with e; subst e; exact PySem.W.mg_of X G z10
    | n + 11, e => exact absurd (List.getElem?_eq_some_iff.mp e).1 (by show ¬ n + 11 < 11; omega)
  · match i, hi with
    | 0, _ => exact ecH_own qE q0
    | 1, _ => exact ecH_own qE q1
    | 2, _ => exact ecH_own qE q2
    | 3, _ => exact ecH_own qE q3
    | 4, _ => exact ecH_own qE q4
    | 5, _ => exact ecH_own qE q5
    | 6, _ => exact ecH_own qE q6
    | 7, _ => exact ecH_own qE q7
    | 8, _ => exact ecH_own qE q8
    | 9, _ => exact ecH_own qE q9
    | 10, _ => exact ecH_own qE q10
    | n + 11, hi => omega
  · obtain ⟨a, ea⟩ := hl i hi
    obtain ⟨b, eb⟩ := hl j hj
    have e' : a = b := (hc i a ea).symm.trans (e.trans (hc j b eb))
    subst e'
    have hi' : i < [a0, a1, a2, a3, a4, a5, a6, a7, a8, a9, a10].length := hi
    exact (List.getElem?_inj hi' ndA).mp (ea.trans eb.symm)
  · obtain ⟨a, ea⟩ := hl i hi
    have e' : a = cE := (hc i a ea).symm.trans e
    subst e'
    exact neE (List.mem_of_getElem? ea)
theorem law_all {l : PySem.W.OpenLaw} {w : World} {K : PySem.W.Frag} {mg : Str → Option Value} {fa : Addr} (hfa : mg "law" = some (.ref fa)) (B : Bl mg) (hZ : ∃ cE c, Cl K mg cE c)
    (hW : ∃ f fd, Fn K mg "is_whole" sWhole ["thing"] f fd)
    (hH : ∃ f fd, Fn K mg "are_hands" sHands ["thing"] f fd)
    (hKw : ∃ f fd, Fn K mg "is_work" sWorkP ["hands", "thing"] f fd)
    (hBP : ∃ f fd, Fn K mg "is_book" sBookP ["thing"] f fd)
    (hDP : ∃ f fd, Fn K mg "is_deal" sDealP ["book", "thing"] f fd)
    (hNB : ∃ f fd, Fn K mg "need_book" sNeedB ["book"] f fd)
    (hND : ∃ f fd, Fn K mg "need_deal" sNeedD ["book", "deal"] f fd)
    (hC : ∃ f fd, Fn K mg "counted" sCounted ["hands", "deal"] f fd)
    (hL : ∃ f fd, Fn K mg "loads" sLoads ["book", "deal"] f fd)
    (hST : ∃ f fd, Fn K mg "is_step" sStep ["book", "deal", "step"] f fd)
    (hWY : ∃ f fd, Fn K mg "is_way" sWay ["book", "deal", "some"] f fd)
    (hNW : ∃ f fd, Fn K mg "need_way" sNeedW ["book", "deal", "some"] f fd)
    (hGO : ∃ f fd, Fn K mg "gone" sGone ["book", "deal", "some"] f fd)
    (hBE : ∃ f fd, Fn K mg "betters" sBetters ["book", "deal", "some"] f fd)
    (hS : ∃ f fd, Fn K mg "_law_b_stirred" sStir ["cell", "at"] f fd)
    (hD : ∃ f fd, Fn K mg "_law_b_digit" sDigit ["tape", "many"] f fd)
    (hWK : ∃ f fd, Fn K mg "_law_b_work" sWork ["tape", "hands", "kind"] f fd)
    (hBK : ∃ f fd, Fn K mg "_law_b_book" sBook ["tape", "hands", "works"] f fd)
    (hDL : ∃ f fd, Fn K mg "_law_b_deal" sDeal ["tape", "book"] f fd)
    (hHP : ∃ f fd, Fn K mg "_law_b_heaps" sHeaps ["book", "deal"] f fd)
    (hSM : ∃ f fd, Fn K mg "_law_b_same" sSame ["found", "due"] f fd)
    (hIS : ∃ f fd, Fn K mg "_law_b_is_step" sIsStep ["book", "deal", "step"] f fd)
    (hIW : ∃ f fd, Fn K mg "_law_b_is_way" sIsWay ["book", "deal", "some"] f fd)
    (hWD : ∃ f fd, Fn K mg "_law_b_walked" sWalked ["tape", "book", "deal"] f fd)
    (hKI : ∃ f fd, Fn K mg "_law_b_kinds" sKinds ["e"] f fd)
    (hWO : ∃ f fd, Fn K mg "_law_b_word" sWord ["e"] f fd)
    (hAS : ∃ f fd, Fn K mg "_law_b_asked" sAsked ["way", "book", "deal", "some"] f fd)
    (hRT : ∃ f fd, Fn K mg "_law_b_right" sRight ["book", "deal", "some"] f fd)
    (hTN : ∃ f fd, Fn K mg "_law_b_twin" sTwin ["tape", "book", "deal"] f fd)
    (hTC : ∃ f fd, Fn K mg "_law_b_twice" sTwice ["tape", "book", "some"] f fd)
    (hBT : ∃ f fd, Fn K mg "_law_b_bent" sBent ["tape", "book", "deal", "some"] f fd)
    (hLW : ∃ f fd, Fn K mg "law" sLaw ["script"] f fd)
    : ∃ fd : FuncData, (∀ (s : Shared) (v : Value), BindsTo s fd ⟨[v], []⟩ [("script", v)]) ∧ ∀ base : Heap, K.In base → base.Ns mainGlobals mg → FnOk l.prog w K mg base CX0 12 fa fd ["script"] (spLaw K) := by
  obtain ⟨fW, dW, W⟩ := hW
  obtain ⟨fH, dH, H⟩ := hH
  obtain ⟨fKw, dKw, Kw⟩ := hKw
  obtain ⟨fBP, dBP, BP⟩ := hBP
  obtain ⟨fDP, dDP, DP⟩ := hDP
  obtain ⟨fNB, dNB, NB⟩ := hNB
  obtain ⟨fND, dND, ND⟩ := hND
  obtain ⟨fC, dC, C⟩ := hC
  obtain ⟨fL, dL, L⟩ := hL
  obtain ⟨fST, dST, ST⟩ := hST
  obtain ⟨fWY, dWY, WY⟩ := hWY
  obtain ⟨fNW, dNW, NW⟩ := hNW
  obtain ⟨fGO, dGO, GO⟩ := hGO
  obtain ⟨fBE, dBE, BE⟩ := hBE
  obtain ⟨fS, dS, S⟩ := hS
  obtain ⟨fD, dD, D⟩ := hD
  obtain ⟨fWK, dWK, WK⟩ := hWK
  obtain ⟨fBK, dBK, BK⟩ := hBK
  obtain ⟨fDL, dDL, DL⟩ := hDL
  obtain ⟨fHP, dHP, HP⟩ := hHP
  obtain ⟨fSM, dSM, SM⟩ := hSM
  obtain ⟨fIS, dIS, IS⟩ := hIS
  obtain ⟨fIW, dIW, IW⟩ := hIW
  obtain ⟨fWD, dWD, WD⟩ := hWD
  obtain ⟨fKI, dKI, KI⟩ := hKI
  obtain ⟨fWO, dWO, WO⟩ := hWO
  obtain ⟨fAS, dAS, AS⟩ := hAS
  obtain ⟨fRT, dRT, RT⟩ := hRT
  obtain ⟨fTN, dTN, TN⟩ := hTN
  obtain ⟨fTC, dTC, TC⟩ := hTC
  obtain ⟨fBT, dBT, BT⟩ := hBT
  obtain ⟨fLW, dLW, LW⟩ := hLW
  have e := hfa.symm.trans LW.mgx
  cases e
  have R : Pr K mg fW fH fKw fBP fNB fDP fND fL dW dH dKw dBP dNB dDP dND dL := ⟨W, H, Kw, BP, NB, DP, ND, ⟨fC, dC, C⟩, L⟩
  refine ⟨dLW, fun s v => ?_, fun base _ _ => ?_⟩
  · obtain ⟨oc, od, kV, doc, pm, an, cdv, ct, osl, rfl, lk, hcd⟩ := LW.fn.ex
    exact .of_eq rfl
  · have OD : FnOk l.prog w K mg base CX0 2 fD dD ["tape", "many"] (spDigit K) := ok_digit D B S
    have OW : FnOk l.prog w K mg base CX0 3 fWK dWK ["tape", "hands", "kind"] (spWork K) := ok_work WK B D OD
    obtain ⟨cE, c, Z⟩ := hZ
    have ON : FnOk l.prog w K mg base CX0 8 fNW dNW ["book", "deal", "some"] (spNeedW K) := ok_needW NW B R WY ST
    have ONx : FnOk l.prog w K mg base (CX1 l.prog w) 8 fNW dNW ["book", "deal", "some"] (spNeedWx K (c 7)) := ok_needWx NW B R WY ST (Z.ec 7 (by decide)) (Z.mc 7 _ rfl)
    exact ok_law LW B BK DL D BT WD TN TC RT (ok_book BK B D OD WK OW) (ok_deal DL B D OD) OD (ok_bent BT B D OD TC) (ok_walked WD B D OD) (ok_twin TN B D OD) (ok_twice TC B D OD) (ok_right RT B IW AS HP SM GO BE (ok_isway IW B IS) (ok_asked AS GO BE WO KI B Z (ok_gonex GO NW ONx) (ok_bettersx BE NW ONx)) (ok_gone GO B NW ON) (ok_betters BE B R NW ON))
theorem walk {l : PySem.W.OpenLaw} {q : Program} {loose : List Str} {XP : (Str → Option Value) → Heap → Prop} {YP : World → Heap → Prop} {d : DefRec} {K : Params → PySem.W.Frag} (hn : l.most = some 63) (hdf : d.params.defaults = []) (hq : importsNone q = true)
    (hY : ∀ (w : World) (h : Heap), YP w h → (K w.params).In h)
    (F : ∀ (w : World) (mg : Str → Option Value) (fa : Addr) (h : Heap), (K w.params).In h → h.Ns mainGlobals mg → mg d.name = some (.ref fa) →
      ∃ fd : FuncData, (∀ (s : Shared) (u : Value), BindsTo s fd ⟨[u], []⟩ [("script", u)]) ∧ ∀ base : Heap, (K w.params).In base → base.Ns mainGlobals mg → FnOk l.prog w (K w.params) mg base CX0 12 fa fd ["script"] (spLaw (K w.params))) :
    PySem.W.WalkO q loose XP YP l.row.toRowW d [] (fun f vs => PySem.call f vs) :=
  L2.walk_of (n := 63) (k := 12) (x := "script") (CX := fun _ => CX0) (sp := fun w => spLaw (K w.params)) hn (by decide) hdf ⟨rfl, by decide, by decide, rfl⟩ hq hY F (fun _ _ a ns _ _ hS => ⟨a, ns, rfl, hS, fun _ => rfl⟩) fun _ _ _ _ _ z => z
end Ab
open PySem PySem.W PyProof.Rows
set_option maxRecDepth 100000 in
set_option maxHeartbeats 0 in
theorem PySem.Challenge.cw_ablehands_k07_ways_gone_holds : PySem.Challenge.rw_ablehands_k07_ways_gone.Holds := by
  w_on; o_law; k_head; (case hw => w_witness2)
  k_fill
  refine Ab.walk (l := PySem.Challenge.rw_ablehands_k07_ways_gone) rfl rfl (by decide +kernel) (fun w h Y => PySem.W.kIn_of Y) ?F
  case F =>
    intro w mg fa h KX G hmg
    refine' Ab.law_all hmg ?B ?Z ?hW ?hH ?hKw ?hBP ?hDP ?hNB ?hND ?hC ?hL ?hST ?hWY ?hNW ?hGO ?hBE ?hS ?hD ?hWK ?hBK ?hDL ?hHP ?hSM ?hIS ?hIW ?hWD ?hKI ?hWO ?hAS ?hRT ?hTN ?hTC ?hBT ?hLW
    case B =>
      refine' Ab.bl_mk KX G ?z0 ?z1 ?z2 ?z3 ?z4 ?z5 ?z6 ?z7 ?z8 ?z9 ?z10 ?z11 ?z12 ?z13 ?z14 ?z15 ?zA ?zB
      (case z0 => k_is)
      (case z1 => k_is)
      (case z2 => k_is)
      (case z3 => k_is)
      (case z4 => k_is)
      (case z5 => k_is)
      (case z6 => k_is)
      (case z7 => k_is)
      (case z8 => k_is)
      (case z9 => k_is)
      (case z10 => k_is)
      (case z11 => k_is)
      (case z12 => k_is)
      (case z13 => k_is)
      (case z14 => k_is)
      (case z15 => k_is)
      (case zA => k_is)
      (case zB => k_is)
    case Z =>
      refine' Ab.cl_mk KX G ?zE ?qE ?z0 ?q0 ?z1 ?q1 ?z2 ?q2 ?z3 ?q3 ?z4 ?q4 ?z5 ?q5 ?z6 ?q6 ?z7 ?q7 ?z8 ?q8 ?z9 ?q9 ?z10 ?q10 ?nd
      (case zE => k_is); (case qE => kernel_rfl)
      (case z0 => k_is); (case q0 => kernel_rfl)
      (case z1 => k_is); (case q1 => kernel_rfl)
      (case z2 => k_is); (case q2 => kernel_rfl)
      (case z3 => k_is); (case q3 => kernel_rfl)
      (case z4 => k_is); (case q4 => kernel_rfl)
      (case z5 => k_is); (case q5 => kernel_rfl)
      (case z6 => k_is); (case q6 => kernel_rfl)
      (case z7 => k_is); (case q7 => kernel_rfl)
      (case z8 => k_is); (case q8 => kernel_rfl)
      (case z9 => k_is); (case q9 => kernel_rfl)
      (case z10 => k_is); (case q10 => kernel_rfl)
      (case nd => decide)
    case hW =>
      refine' Ab.fn_mk KX G (fun _ _ _ _ _ _ us hl => match us, hl with | [_], _ => rfl) ?a ?l ?c ?k
      (case a => k_is); (case l => k_is); (case c => k_is); (case k => k_is)
    case hH =>
      refine' Ab.fn_mk KX G (fun _ _ _ _ _ _ us hl => match us, hl with | [_], _ => rfl) ?a ?l ?c ?k
      (case a => k_is); (case l => k_is); (case c => k_is); (case k => k_is)
    case hKw =>
      refine' Ab.fn_mk KX G (fun _ _ _ _ _ _ us hl => match us, hl with | [_, _], _ => rfl) ?a ?l ?c ?k
      (case a => k_is); (case l => k_is); (case c => k_is); (case k => k_is)
    case hBP =>
      refine' Ab.fn_mk KX G (fun _ _ _ _ _ _ us hl => match us, hl with | [_], _ => rfl) ?a ?l ?c ?k
      (case a => k_is); (case l => k_is); (case c => k_is); (case k => k_is)
    case hDP =>
      refine' Ab.fn_mk KX G (fun _ _ _ _ _ _ us hl => match us, hl with | [_, _], _ => rfl) ?a ?l ?c ?k
      (case a => k_is); (case l => k_is); (case c => k_is); (case k => k_is)
    case hNB =>
      refine' Ab.fn_mk KX G (fun _ _ _ _ _ _ us hl => match us, hl with | [_], _ => rfl) ?a ?l ?c ?k
      (case a => k_is); (case l => k_is); (case c => k_is); (case k => k_is)
    case hND =>
      refine' Ab.fn_mk KX G (fun _ _ _ _ _ _ us hl => match us, hl with | [_, _], _ => rfl) ?a ?l ?c ?k
      (case a => k_is); (case l => k_is); (case c => k_is); (case k => k_is)
    case hC =>
      refine' Ab.fn_mk KX G (fun _ _ _ _ _ _ us hl => match us, hl with | [_, _], _ => rfl) ?a ?l ?c ?k
      (case a => k_is); (case l => k_is); (case c => k_is); (case k => k_is)
    case hL =>
      refine' Ab.fn_mk KX G (fun _ _ _ _ _ _ us hl => match us, hl with | [_, _], _ => rfl) ?a ?l ?c ?k
      (case a => k_is); (case l => k_is); (case c => k_is); (case k => k_is)
    case hST =>
      refine' Ab.fn_mk KX G (fun _ _ _ _ _ _ us hl => match us, hl with | [_, _, _], _ => rfl) ?a ?l ?c ?k
      (case a => k_is); (case l => k_is); (case c => k_is); (case k => k_is)
    case hWY =>
      refine' Ab.fn_mk KX G (fun _ _ _ _ _ _ us hl => match us, hl with | [_, _, _], _ => rfl) ?a ?l ?c ?k
      (case a => k_is); (case l => k_is); (case c => k_is); (case k => k_is)
    case hNW =>
      refine' Ab.fn_mk KX G (fun _ _ _ _ _ _ us hl => match us, hl with | [_, _, _], _ => rfl) ?a ?l ?c ?k
      (case a => k_is); (case l => k_is); (case c => k_is); (case k => k_is)
    case hGO =>
      refine' Ab.fn_mk KX G (fun _ _ _ _ _ _ us hl => match us, hl with | [_, _, _], _ => rfl) ?a ?l ?c ?k
      (case a => k_is); (case l => k_is); (case c => k_is); (case k => k_is)
    case hBE =>
      refine' Ab.fn_mk KX G (fun _ _ _ _ _ _ us hl => match us, hl with | [_, _, _], _ => rfl) ?a ?l ?c ?k
      (case a => k_is); (case l => k_is); (case c => k_is); (case k => k_is)
    case hS =>
      refine' Ab.fn_mk KX G (fun _ _ _ _ _ _ us hl => match us, hl with | [_, _], _ => rfl) ?a ?l ?c ?k
      (case a => k_is); (case l => k_is); (case c => k_is); (case k => k_is)
    case hD =>
      refine' Ab.fn_mk KX G (fun _ _ _ _ _ _ us hl => match us, hl with | [_, _], _ => rfl) ?a ?l ?c ?k
      (case a => k_is); (case l => k_is); (case c => k_is); (case k => k_is)
    case hWK =>
      refine' Ab.fn_mk KX G (fun _ _ _ _ _ _ us hl => match us, hl with | [_, _, _], _ => rfl) ?a ?l ?c ?k
      (case a => k_is); (case l => k_is); (case c => k_is); (case k => k_is)
    case hBK =>
      refine' Ab.fn_mk KX G (fun _ _ _ _ _ _ us hl => match us, hl with | [_, _, _], _ => rfl) ?a ?l ?c ?k
      (case a => k_is); (case l => k_is); (case c => k_is); (case k => k_is)
    case hDL =>
      refine' Ab.fn_mk KX G (fun _ _ _ _ _ _ us hl => match us, hl with | [_, _], _ => rfl) ?a ?l ?c ?k
      (case a => k_is); (case l => k_is); (case c => k_is); (case k => k_is)
    case hHP =>
      refine' Ab.fn_mk KX G (fun _ _ _ _ _ _ us hl => match us, hl with | [_, _], _ => rfl) ?a ?l ?c ?k
      (case a => k_is); (case l => k_is); (case c => k_is); (case k => k_is)
    case hSM =>
      refine' Ab.fn_mk KX G (fun _ _ _ _ _ _ us hl => match us, hl with | [_, _], _ => rfl) ?a ?l ?c ?k
      (case a => k_is); (case l => k_is); (case c => k_is); (case k => k_is)
    case hIS =>
      refine' Ab.fn_mk KX G (fun _ _ _ _ _ _ us hl => match us, hl with | [_, _, _], _ => rfl) ?a ?l ?c ?k
      (case a => k_is); (case l => k_is); (case c => k_is); (case k => k_is)
    case hIW =>
      refine' Ab.fn_mk KX G (fun _ _ _ _ _ _ us hl => match us, hl with | [_, _, _], _ => rfl) ?a ?l ?c ?k
      (case a => k_is); (case l => k_is); (case c => k_is); (case k => k_is)
    case hWD =>
      refine' Ab.fn_mk KX G (fun _ _ _ _ _ _ us hl => match us, hl with | [_, _, _], _ => rfl) ?a ?l ?c ?k
      (case a => k_is); (case l => k_is); (case c => k_is); (case k => k_is)
    case hKI =>
      refine' Ab.fn_mk KX G (fun _ _ _ _ _ _ us hl => match us, hl with | [_], _ => rfl) ?a ?l ?c ?k
      (case a => k_is); (case l => k_is); (case c => k_is); (case k => k_is)
    case hWO =>
      refine' Ab.fn_mk KX G (fun _ _ _ _ _ _ us hl => match us, hl with | [_], _ => rfl) ?a ?l ?c ?k
      (case a => k_is); (case l => k_is); (case c => k_is); (case k => k_is)
    case hAS =>
      refine' Ab.fn_mk KX G (fun _ _ _ _ _ _ us hl => match us, hl with | [_, _, _, _], _ => rfl) ?a ?l ?c ?k
      (case a => k_is); (case l => k_is); (case c => k_is); (case k => k_is)
    case hRT =>
      refine' Ab.fn_mk KX G (fun _ _ _ _ _ _ us hl => match us, hl with | [_, _, _], _ => rfl) ?a ?l ?c ?k
      (case a => k_is); (case l => k_is); (case c => k_is); (case k => k_is)
    case hTN =>
      refine' Ab.fn_mk KX G (fun _ _ _ _ _ _ us hl => match us, hl with | [_, _, _], _ => rfl) ?a ?l ?c ?k
      (case a => k_is); (case l => k_is); (case c => k_is); (case k => k_is)
    case hTC =>
      refine' Ab.fn_mk KX G (fun _ _ _ _ _ _ us hl => match us, hl with | [_, _, _], _ => rfl) ?a ?l ?c ?k
      (case a => k_is); (case l => k_is); (case c => k_is); (case k => k_is)
    case hBT =>
      refine' Ab.fn_mk KX G (fun _ _ _ _ _ _ us hl => match us, hl with | [_, _, _, _], _ => rfl) ?a ?l ?c ?k
      (case a => k_is); (case l => k_is); (case c => k_is); (case k => k_is)
    case hLW =>
      refine' Ab.fn_mk KX G (fun _ _ _ _ _ _ us hl => match us, hl with | [_], _ => rfl) ?a ?l ?c ?k
      (case a => k_is); (case l => k_is); (case c => k_is); (case k => k_is)

