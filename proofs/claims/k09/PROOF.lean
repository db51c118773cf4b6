import PyProof.Rows.All
import Wide.All
import OpenK.AllK
import Wide.FinOn
import Lean
import PyProof.EqAt
import PyProof.EqKinds
import PyProof.TupleCall
import PySem.Challenge.RW_threadlathe_k09_nearest_pitch
set_option Elab.async false
set_option linter.all false
set_option maxRecDepth 100000
set_option maxHeartbeats 4000000

/-! plain mathematics: greatest divisors, least terms, sizes -/
namespace Mt
theorem gcd_step (a b : Int) : Int.gcd b (a % b) = Int.gcd a b := by
  have e : a % b = a - (a / b) * b := by
    have := Int.emod_add_mul_ediv a b
    rw [Int.mul_comm] at this
    omega
  rw [e, Int.gcd_sub_mul_right_right, Int.gcd_comm]
theorem gcd_end (a : Int) : (if a < 0 then -a else a) = ((Int.gcd a 0 : Nat) : Int) := by
  rw [Int.gcd_zero_right]
  split <;> omega
theorem gcd_abs (a b : Int) : Int.gcd (if a < 0 then -a else a) (if b < 0 then -b else b) = Int.gcd a b := by
  split <;> split <;> simp [Int.neg_gcd, Int.gcd_neg]
/-- the divisor with the bottom's sign -/
def sg (t b : Int) : Int := if b < 0 then -((Int.gcd t b : Nat) : Int) else ((Int.gcd t b : Nat) : Int)
def ltN (t b : Int) : Int := Int.fdiv t (sg t b)
def ltD (t b : Int) : Int := Int.fdiv b (sg t b)
theorem gpos {t b : Int} (h : b ≠ 0) : 0 < Int.gcd t b := Int.gcd_pos_iff.mpr (.inr h)
theorem sg_ne {t b : Int} (h : b ≠ 0) : sg t b ≠ 0 := by
  have := gpos (t := t) h
  unfold sg; split <;> omega
theorem sg_abs (t b : Int) : (sg t b).natAbs = Int.gcd t b := by
  unfold sg; split <;> omega
theorem sg_le {t b : Int} (h : b ≠ 0) : (sg t b).natAbs ≤ b.natAbs := by
  rw [sg_abs]
  exact Nat.le_of_dvd (by omega) (by have := Int.gcd_dvd_right t b; exact Int.ofNat_dvd_left.mp this)
theorem sg_dt (t b : Int) : sg t b ∣ t := by
  unfold sg; split
  · exact Int.neg_dvd.mpr (Int.gcd_dvd_left t b)
  · exact Int.gcd_dvd_left t b
theorem sg_db (t b : Int) : sg t b ∣ b := by
  unfold sg; split
  · exact Int.neg_dvd.mpr (Int.gcd_dvd_right t b)
  · exact Int.gcd_dvd_right t b
theorem ltN_mul (t b : Int) : sg t b * ltN t b = t := by
  unfold ltN; rw [Int.fdiv_eq_ediv_of_dvd (sg_dt t b), Int.mul_ediv_cancel' (sg_dt t b)]
theorem ltD_mul (t b : Int) : sg t b * ltD t b = b := by
  unfold ltD; rw [Int.fdiv_eq_ediv_of_dvd (sg_db t b), Int.mul_ediv_cancel' (sg_db t b)]
/-- least terms: the bottom is 1 or more, no divisor is shared, and the value is the same -/
structure LT (t b x y : Int) : Prop where
  pos : 1 ≤ y
  co : Int.gcd x y = 1
  eq : x * b = t * y
  nx : x.natAbs ≤ t.natAbs
  ny : y.natAbs ≤ b.natAbs
theorem lt_is {t b : Int} (h : b ≠ 0) : LT t b (ltN t b) (ltD t b) := by
  have hs := sg_ne (t := t) h
  have e1 := ltN_mul t b
  have e2 := ltD_mul t b
  have g0 := gpos (t := t) h
  have hp : 0 < ltD t b := by
    rcases Int.lt_trichotomy (ltD t b) 0 with l | l | l
    · exfalso
      by_cases hb : b < 0
      · have hs' : sg t b ≤ 0 := by unfold sg; rw [if_pos hb]; omega
        have := Int.mul_nonneg_of_nonpos_of_nonpos hs' (Int.le_of_lt l)
        omega
      · have hs' : 0 ≤ sg t b := by unfold sg; rw [if_neg hb]; omega
        have : sg t b * ltD t b ≤ 0 := Int.mul_nonpos_of_nonneg_of_nonpos hs' (Int.le_of_lt l)
        omega
    · rw [l, Int.mul_zero] at e2; omega
    · exact l
  refine ⟨hp, ?_, ?_, ?_, ?_⟩
  · have : Int.gcd (sg t b * ltN t b) (sg t b * ltD t b) = (sg t b).natAbs * Int.gcd (ltN t b) (ltD t b) := Int.gcd_mul_left _ _ _
    rw [e1, e2, sg_abs] at this
    exact Nat.eq_of_mul_eq_mul_left g0 (by rw [Nat.mul_one]; exact this.symm)
  · have a1 : ltN t b * b = ltN t b * (sg t b * ltD t b) := by rw [e2]
    have a2 : t * ltD t b = (sg t b * ltN t b) * ltD t b := by rw [e1]
    rw [a1, a2, ← Int.mul_assoc, Int.mul_comm (ltN t b)]
  · have := congrArg Int.natAbs e1
    rw [Int.natAbs_mul] at this
    rw [← this]
    exact Nat.le_mul_of_pos_left _ (by omega)
  · have := congrArg Int.natAbs e2
    rw [Int.natAbs_mul] at this
    have g : ltD t b ≠ 0 := by omega
    rw [← this]
    exact Nat.le_mul_of_pos_left _ (by omega)
/-- sizes -/
def Bd (n : Nat) (i : Int) : Prop := i.natAbs < 2 ^ n
theorem Bd.mono {m n : Nat} {i : Int} (h : Bd m i) (l : m ≤ n) : Bd n i := Nat.lt_of_lt_of_le h (Nat.pow_le_pow_right (by decide) l)
theorem Bd.mul {m n : Nat} {i j : Int} (h : Bd m i) (g : Bd n j) : Bd (m + n) (i * j) := by
  unfold Bd at *
  rw [Int.natAbs_mul i j, Nat.pow_add 2 m n]
  exact Nat.mul_lt_mul'' h g
theorem Bd.add {m n : Nat} {i j : Int} (h : Bd m i) (g : Bd n j) : Bd (max m n + 1) (i + j) := by
  have h' := h.mono (Nat.le_max_left m n)
  have g' := g.mono (Nat.le_max_right m n)
  have := Int.natAbs_add_le i j
  unfold Bd at *
  rw [Nat.pow_succ]
  omega
theorem Bd.neg {m : Nat} {i : Int} (h : Bd m i) : Bd m (-i) := by
  unfold Bd at *
  rw [Int.natAbs_neg]; exact h
theorem Bd.sub {m n : Nat} {i j : Int} (h : Bd m i) (g : Bd n j) : Bd (max m n + 1) (i - j) := by
  rw [Int.sub_eq_add_neg]
  exact h.add g.neg
theorem Bd.le {m : Nat} {i j : Int} (h : Bd m i) (g : j.natAbs ≤ i.natAbs) : Bd m j := Nat.lt_of_le_of_lt g h
theorem Bd.mod {m : Nat} {i j : Int} (h : Bd m j) (p : 0 < j) : Bd m (i % j) := by
  have h1 := Int.emod_nonneg i (Int.ne_of_gt p)
  have h2 := Int.emod_lt_of_pos i p
  exact h.le (by omega)
theorem Bd.log {m : Nat} {i : Int} (h : Bd m i) (p : 0 < m) : i.natAbs.log2 < m := by
  by_cases z : i.natAbs = 0
  · rw [z]; simpa using p
  · exact (Nat.log2_lt z).mpr h
/-- whole numbers up to 10 ** 60 -/
theorem Bd.of60 {i : Int} (h1 : -(10 ^ 60) ≤ i) (h2 : i ≤ 10 ^ 60) : Bd 200 i := by
  have : (10 : Nat) ^ 60 < 2 ^ 200 := by decide
  unfold Bd
  have e : ((10 : Int) ^ 60) = (((10 : Nat) ^ 60 : Nat) : Int) := by decide
  omega
end Mt

/-! THE HAND LAYER, for ints, bools, texts, own classes, LISTS and tuples (index, slices, in, append, pop ..), calls, loops. Paste it whole ahead of your own text; what your proof does not reach may be deleted. -/
namespace L2
open PySem PySem.Spec PyProof.Rows

/-- a key: an int or a str -/
abbrev Key := Sum Int Str
def keyIs : Key → Value → Bool
  | .inl k, v => Value.isInt k v
  | .inr x, v => Value.isStrOf x v
def keyH (w : World) : Key → Int
  | .inl k => hashInt k
  | .inr x => hashStr w x
theorem keyIs_shape : ∀ {k : Key} {v : Value}, keyIs k v = true → (∃ i t, k = Sum.inl i ∧ v = Value.int i t) ∨ (∃ x t, k = Sum.inr x ∧ v = Value.str x t)
  | .inl i, v, h => by
    obtain ⟨t, e⟩ := Value.isInt_shape (k := i) (v := v) h
    exact .inl ⟨i, t, rfl, e⟩
  | .inr x, v, h => by
    obtain ⟨t, e⟩ := Value.isStrOf_shape (x := x) (v := v) h
    exact .inr ⟨x, t, rfl, e⟩
theorem keyIs_int (i : Int) (t : Tok) : keyIs (.inl i) (.int i t) = true := by simp [keyIs, Value.isInt]
theorem keyIs_str (x : Str) (t : Tok) : keyIs (.inr x) (.str x t) = true := by simp [keyIs, Value.isStrOf]
theorem key_ll (a b : Int) : decide ((Sum.inl a : Key) = Sum.inl b) = (a == b) := by
  by_cases e : a = b
  · subst e; simp
  · have h : ¬ (Sum.inl a : Key) = Sum.inl b := fun q => e (Sum.inl.inj q)
    rw [decide_eq_false h]
    exact (beq_eq_false_iff_ne.mpr e).symm
theorem key_rr (a b : Str) : decide ((Sum.inr a : Key) = Sum.inr b) = decide (a = b) := by
  by_cases e : a = b
  · subst e; simp
  · have h : ¬ (Sum.inr a : Key) = Sum.inr b := fun q => e (Sum.inr.inj q)
    rw [decide_eq_false h, decide_eq_false e]
theorem key_lr (a : Int) (b : Str) : decide ((Sum.inl a : Key) = Sum.inr b) = false := decide_eq_false (fun q => nomatch q)
theorem key_rl (a : Str) (b : Int) : decide ((Sum.inr a : Key) = Sum.inl b) = false := decide_eq_false (fun q => nomatch q)

def mixKind (prog : Program) (w : World) : PySem.KeyKind prog w Key where
  is := keyIs
  hash := keyH w
  inj := fun v a b ha hb => by
    rcases keyIs_shape ha with ⟨i, t, rfl, rfl⟩ | ⟨x, t, rfl, rfl⟩
    · rcases keyIs_shape hb with ⟨j, u, rfl, e⟩ | ⟨y, u, rfl, e⟩
      · injection e with e1 _; rw [e1]
      · exact nomatch e
    · rcases keyIs_shape hb with ⟨j, u, rfl, e⟩ | ⟨y, u, rfl, e⟩
      · exact nomatch e
      · injection e with e1 _; rw [e1]
  byValue := fun k v h => by
    rcases keyIs_shape h with ⟨i, t, rfl, rfl⟩ | ⟨x, t, rfl, rfl⟩ <;> rfl
  pyHash := fun hv h => by
    rcases keyIs_shape hv with ⟨i, t, rfl, rfl⟩ | ⟨x, t, rfl, rfl⟩
    · exact wpAny_pyHash_int h
    · exact wpAny_pyHash_str h
  eqBool := fun hu hv h => by
    rcases keyIs_shape hu with ⟨i, t, rfl, rfl⟩ | ⟨x, t, rfl, rfl⟩
    · rcases keyIs_shape hv with ⟨j, u, rfl, rfl⟩ | ⟨y, u, rfl, rfl⟩
      · rw [key_ll] at h; exact wpAny_eqBool_int h
      · rw [key_lr] at h; exact SeqAt.EqAt.int_str i t y u _ _ _ _ h
    · rcases keyIs_shape hv with ⟨j, u, rfl, rfl⟩ | ⟨y, u, rfl, rfl⟩
      · rw [key_rl] at h; exact SeqAt.EqAt.str_int x t j u _ _ _ _ h
      · rw [key_rr] at h; exact wpAny_eqBool_str h
  «strs» := fun k x t v h => by
    rcases keyIs_shape h with ⟨i, u, rfl, e⟩ | ⟨y, u, rfl, e⟩
    · exact nomatch e
    · injection e with e1 _
      subst e1
      cases v <;> rfl

theorem mixKind_is (prog : Program) (w : World) (k : Key) (v : Value) : (mixKind prog w).is k v = keyIs k v := rfl
theorem mixKind_int (prog : Program) (w : World) (i : Int) (t : Tok) : (mixKind prog w).is (.inl i) (.int i t) = true := keyIs_int i t
theorem mixKind_str (prog : Program) (w : World) (x : Str) (t : Tok) : (mixKind prog w).is (.inr x) (.str x t) = true := keyIs_str x t
end L2

namespace L2
open PySem PySem.Spec PyProof.Rows

/-- a value, without the heap -/
inductive V where
  | non | bl (b : Bool) | int (i : Int) | str (x : Str) | byt (b : Array UInt8) | flt (b : UInt64) | ref (a : Addr) | ty (n : String)
  deriving DecidableEq

def RelV : V → Value → Prop
  | .non, u => u = Value.none
  | .bl b, u => u = Value.bool b
  | .int i, u => ∃ t, u = Value.int i t
  | .str x, u => ∃ t, u = Value.str x t
  | .byt b, u => ∃ t, u = Value.bytes b t
  | .flt b, u => ∃ t, u = Value.float b t
  | .ref a, u => u = Value.ref a
  | .ty n, u => u = Value.type n

abbrev Vals : List V → List Value → Prop := Paired RelV
theorem Vals.length {xs : List V} {us : List Value} (r : Vals xs us) : xs.length = us.length := Paired.length r
theorem Vals.get : ∀ {xs : List V} {us : List Value} {i : Nat} {x : V}, Vals xs us → xs[i]? = some x → ∃ u, us[i]? = some u ∧ RelV x u
  | _, _, _, _, .nil, e => by simp at e
  | _, _, 0, _, .cons r _, e => by simp at e; subst e; exact ⟨_, rfl, r⟩
  | _, _, i + 1, x, .cons _ t, e => by
    obtain ⟨u, h1, h2⟩ := Vals.get (i := i) (x := x) t (by simpa using e)
    exact ⟨u, by simpa using h1, h2⟩
theorem Vals.set {x : V} {u : Value} (r : RelV x u) : ∀ {xs : List V} {us : List Value} (i : Nat), Vals xs us → Vals (xs.set i x) (us.set i u)
  | _, _, _, .nil => .nil
  | _, _, 0, .cons _ t => .cons r t
  | _, _, i + 1, .cons q t => .cons q (Vals.set r i t)
theorem Vals.append : ∀ {xs ys : List V} {us ws : List Value}, Vals xs us → Vals ys ws → Vals (xs ++ ys) (us ++ ws)
  | _, _, _, _, .nil, s => s
  | _, _, _, _, .cons r t, s => .cons r (Vals.append t s)
theorem Vals.take : ∀ {xs : List V} {us : List Value} (n : Nat), Vals xs us → Vals (xs.take n) (us.take n)
  | _, _, 0, _ => .nil
  | _, _, _ + 1, .nil => .nil
  | _, _, n + 1, .cons r t => .cons r (Vals.take n t)
theorem Vals.drop : ∀ {xs : List V} {us : List Value} (n : Nat), Vals xs us → Vals (xs.drop n) (us.drop n)
  | _, _, 0, r => r
  | _, _, _ + 1, .nil => .nil
  | _, _, n + 1, .cons _ t => Vals.drop n t
theorem Vals.none_of : ∀ {xs : List V} {us : List Value} {i : Nat}, Vals xs us → xs[i]? = none → us[i]? = none := fun {xs us i} r e => by
  have h1 := r.length
  have h2 : xs.length ≤ i := List.getElem?_eq_none_iff.mp e
  exact List.getElem?_eq_none_iff.mpr (by omega)

def RelO : Option V → Option Value → Prop
  | some v, some u => RelV v u
  | none, none => True
  | _, _ => False
def KV {κ : Type} : List (κ × V) → List (κ × Value) → Prop := Paired fun (p : κ × V) (q : κ × Value) => p.1 = q.1 ∧ RelV p.2 q.2

/-- a key of a dict (00_mix): an int or a text -/
def kV : Key → V
  | .inl i => .int i
  | .inr x => .str x

/-- what stands at a tracked address -/
inductive HO where
  /-- a list -/
  | lst (xs : List V)
  /-- a tuple (never changes) -/
  | tup (xs : List V)
  /-- a dict whose keys are ints and texts; one whose keys are tuples of ints and texts (the empty one is both) -/
  | dK (kvs : List (Key × V)) | dT (kvs : List (List Key × V))
  /-- a set of ints: its members, its size -/
  | set (S : Int → Bool) (n : Nat)
  /-- an instance of the class at C, its dict at dx, its attributes -/
  | ins (C dx : Addr) (fs : List (Str × V))
  /-- the dict of the instance at x -/
  | own (x : Addr)
  /-- the dict of an exception -/
  | xd (fs : List (Str × V))
  /-- a bound method, f of x -/
  | met (f x : Addr)
  /-- a range object lo, lo + 1, .. below hi -/
  | rng (lo hi : Int)
  /-- a thing that is known to the object (the script; a dict while a loop walks it): read, never written while it is so -/
  | frz (o : Obj) (u : HO)
  /-- a code object's table -/
  | tbl (ps : Array Value)
  /-- any other thing, by what is true of its one object (a def of one's own: SetO a S n := HO.ext fun h => ..) -/
  | ext (φ : Heap → Prop)

abbrev Hp := Addr → Option HO
def upd (H : Hp) (a : Addr) (o : HO) : Hp := fun b => if b = a then some o else H b
theorem upd_same {H : Hp} {a : Addr} {o : HO} : upd H a o a = some o := by unfold upd; rw [if_pos rfl]
theorem upd_ne {H : Hp} {a b : Addr} {o : HO} (h : b ≠ a) : upd H a o b = H b := by unfold upd; rw [if_neg h]
theorem upd_upd {H : Hp} {a : Addr} {o u : HO} : upd (upd H a o) a u = upd H a u := by
  funext b; unfold upd; split <;> rfl
/-- two objects of different content stand apart -/
theorem ne_of {H : Hp} {a b : Addr} {o u : HO} (h : H a = some o) (h' : H b = some u) (d : o ≠ u) : a ≠ b := by
  intro e; subst e; rw [h] at h'; exact d (Option.some.inj h')
theorem ne_of_none {H : Hp} {a b : Addr} {o : HO} (h : H a = some o) (h' : H b = none) : a ≠ b := by
  intro e; subst e; rw [h] at h'; cases h'

section
variable (P : Program) (w : World)
def ObjOk (H : Hp) (h : Heap) (a : Addr) : HO → Prop
  | .lst xs => xs.length ≤ sizeLine ∧ ∃ (its : List Value) (n : Nat), Vals xs its ∧ h.get? a = some { cls := .type "list", data := .seq its.toArray n }
  | .tup xs => xs.length ≤ sizeLine ∧ ∃ its : List Value, Vals xs its ∧ IsTup h a its.toArray
  | .dK kvs => kvs.length ≤ sizeLine ∧ (a == sysModules) = false ∧ ∃ vs, KV kvs vs ∧ h.DictOf (mixKind P w) a vs
  | .dT kvs => kvs.length ≤ sizeLine ∧ (a == sysModules) = false ∧ ∃ xs : List (List Key × Addr × Value),
      Paired (fun (p : List Key × V) (q : List Key × Addr × Value) => p.1 = q.1 ∧ H q.2.1 = some (.tup (p.1.map kV)) ∧ RelV p.2 q.2.2) kvs xs ∧
      ∃ o es ep, h.get? a = some o ∧ o.ExactDict ∧ o.data = .dict es ep ∧ es.toList = xs.map (entryOfKey (tupleKind (mixKind P w))) ∧ (xs.map (·.1)).Nodup
  | .set S n => h.SetOf (intKind P w) a S n
  | .ins C dx fs => H dx = some (.own a) ∧ fs.length ≤ 1000 ∧ dx ≠ a ∧ h.get? a = some (PySem.W.instObj C dx) ∧
      ∃ mA, h.Ns1 dx mA ∧ (∀ f, RelO (fs.lookup f) (mA f)) ∧ PySem.Within mA (fs.map (·.1))
  | .own _ => ∃ o, h.get? a = some o
  | .xd fs => ∃ mA, h.Ns1 a mA ∧ ∀ f, RelO (fs.lookup f) (mA f)
  | .rng lo hi => ∃ t u v, h.get? a = some { cls := .type "range", data := .fields #[.int lo t, .int hi u, .int 1 v] }
  | .frz o u => h.get? a = some o ∧ ObjOk H h a u
  | .tbl ps => h.get? a = some { cls := .none, data := .fields ps }
  | .met f x => h.get? a = some (PySem.W.methodObj (.ref f) (.ref x))
  | .ext φ => φ h ∧ (∃ o, h.get? a = some o) ∧ ∀ h1 h2 : Heap, φ h1 → (∀ o, h1.get? a = some o → h2.get? a = some o) → φ h2
/-- the abstract heap is held -/
def HOk (H : Hp) (h : Heap) : Prop := ∀ a o, H a = some o → ObjOk P w H h a o
end

section
variable {P : Program} {w : World} {H H' : Hp} {h h' : Heap} {a : Addr} {o : HO}
theorem ObjOk.lt (x : ObjOk P w H h a o) : a < h.objs.size := by
  cases o with
  | lst xs => obtain ⟨_, _, _, _, e⟩ := x; exact Heap.lt_size e
  | tup xs => obtain ⟨_, _, _, p⟩ := x; exact p.lt
  | dK kvs => obtain ⟨_, _, _, _, o, _, _, e, _⟩ := x; exact Heap.lt_size e
  | dT kvs => obtain ⟨_, _, _, _, o, _, _, e, _⟩ := x; exact Heap.lt_size e
  | set S n => obtain ⟨o, _, _, _, e, _⟩ := x; exact Heap.lt_size e
  | ins C dx fs => obtain ⟨_, _, _, e, _⟩ := x; exact Heap.lt_size e
  | own y => obtain ⟨_, e⟩ := x; exact Heap.lt_size e
  | xd fs => obtain ⟨_, ⟨_, _, _, e, _⟩, _⟩ := x; exact Heap.lt_size e
  | rng lo hi => obtain ⟨_, _, _, e⟩ := x; exact Heap.lt_size e
  | frz ob u => obtain ⟨e, _⟩ := x; exact Heap.lt_size e
  | tbl ps => exact Heap.lt_size (show h.get? a = some _ from x)
  | met f y => exact Heap.lt_size (show h.get? a = some _ from x)
  | ext φ => obtain ⟨_, ⟨_, e⟩, _⟩ := x; exact Heap.lt_size e
theorem Paired.mapP {α β : Type} {F G : α → β → Prop} : ∀ {l₁ : List α} {l₂ : List β}, Paired F l₁ l₂ → (∀ a b, F a b → G a b) → Paired G l₁ l₂
  | _, _, .nil, _ => .nil
  | _, _, .cons r t, f => .cons (f _ _ r) (Paired.mapP t f)
theorem Paired.imp' {α β : Type} {F G : α → β → Prop} (f : ∀ a b, F a b → G a b) {l₁ : List α} {l₂ : List β} (r : Paired F l₁ l₂) : Paired G l₁ l₂ := Paired.mapP r f
/-- what an object's description leans on: its own object, its own dict, the tuples -/
theorem ObjOk.stay (x : ObjOk P w H h a o) (k : ∀ b u, (b = a ∨ H b = some (.own a)) → h.get? b = some u → h'.get? b = some u)
    (ho : ∀ b, H b = some (.own a) → H' b = some (.own a)) (ht : ∀ b xs, H b = some (.tup xs) → H' b = some (.tup xs)) : ObjOk P w H' h' a o := by
  induction o with
  | lst xs => obtain ⟨z, its, n, r, e⟩ := x; exact ⟨z, its, n, r, k _ _ (.inl rfl) e⟩
  | tup xs => obtain ⟨z, its, r, ob, e, c⟩ := x; exact ⟨z, its, r, ob, k _ _ (.inl rfl) e, c⟩
  | dK kvs => obtain ⟨z, y, vs, r, ob, es, ep, e, c⟩ := x; exact ⟨z, y, vs, r, ob, es, ep, k _ _ (.inl rfl) e, c⟩
  | dT kvs =>
    obtain ⟨z, y, xs, r, ob, es, ep, e, c⟩ := x
    exact ⟨z, y, xs, Paired.mapP r fun p q z => ⟨z.1, ht _ _ z.2.1, z.2.2⟩, ob, es, ep, k _ _ (.inl rfl) e, c⟩
  | set S n => obtain ⟨ob, es, ep, t, e, c⟩ := x; exact ⟨ob, es, ep, t, k _ _ (.inl rfl) e, c⟩
  | ins C dx fs =>
    obtain ⟨d, z, ne, e, mA, ⟨od, es, ep, e2, c⟩, r⟩ := x
    exact ⟨ho _ d, z, ne, k _ _ (.inl rfl) e, mA, ⟨od, es, ep, k _ _ (.inr d) e2, c⟩, r⟩
  | own y => obtain ⟨ob, e⟩ := x; exact ⟨ob, k _ _ (.inl rfl) e⟩
  | xd fs => obtain ⟨mA, ⟨od, es, ep, e, c⟩, r⟩ := x; exact ⟨mA, ⟨od, es, ep, k _ _ (.inl rfl) e, c⟩, r⟩
  | rng lo hi => obtain ⟨t, u, v, e⟩ := x; exact ⟨t, u, v, k _ _ (.inl rfl) e⟩
  | frz ob u ih => obtain ⟨e, q⟩ := x; exact ⟨k _ _ (.inl rfl) e, ih q⟩
  | tbl ps =>
    have e : h.get? a = some { cls := .none, data := .fields ps } := x
    show h'.get? a = some { cls := .none, data := .fields ps }
    exact k a _ (.inl rfl) e
  | met f y =>
    have e : h.get? a = some (PySem.W.methodObj (.ref f) (.ref y)) := x
    show h'.get? a = some (PySem.W.methodObj (.ref f) (.ref y))
    exact k a _ (.inl rfl) e
  | ext φ => obtain ⟨p, ⟨o, e⟩, st⟩ := x; exact ⟨st _ _ p fun o q => k _ _ (.inl rfl) q, ⟨o, k _ _ (.inl rfl) e⟩, st⟩
theorem HOk.lt (x : HOk P w H h) (e : H a = some o) : a < h.objs.size := (x a o e).lt
theorem HOk.fresh (x : HOk P w H h) (e : h.objs.size ≤ a) : H a = none := by
  cases q : H a with
  | none => rfl
  | some u => exact absurd (Nat.lt_of_lt_of_le (x.lt q) e) (Nat.lt_irrefl _)
/-- every object of the heap is kept -/
theorem HOk.kept (x : HOk P w H h) (k : ∀ b u, h.get? b = some u → h'.get? b = some u) : HOk P w H h' := fun a o e =>
  (x a o e).stay (fun b u _ q => k b u q) (fun _ q => q) fun _ _ q => q
/-- a new object is laid and tracked -/
theorem HOk.laid (x : HOk P w H h) (k : ∀ b u, h.get? b = some u → h'.get? b = some u) (hp : h.objs.size ≤ a) (new : ObjOk P w (upd H a o) h' a o) : HOk P w (upd H a o) h' := fun b u e => by
  have hn := x.fresh hp
  by_cases hb : b = a
  · subst hb; rw [upd_same] at e; cases e; exact new
  · rw [upd_ne hb] at e
    exact (x b u e).stay (fun c v _ q => k c v q) (fun c q => by rw [upd_ne (ne_of_none q hn)]; exact q) fun c xs q => by rw [upd_ne (ne_of_none q hn)]; exact q
end

/-- what may be read as u: it is u, or a known u -/
def Rd (H : Hp) (a : Addr) (u : HO) : Prop := H a = some u ∨ ∃ o, H a = some (.frz o u)
theorem Rd.of {H : Hp} {a : Addr} {u : HO} (h : H a = some u) : Rd H a u := .inl h
theorem Rd.ok {P : Program} {w : World} {H : Hp} {h : Heap} {a : Addr} {u : HO} (r : Rd H a u) (x : HOk P w H h) : ObjOk P w H h a u := by
  rcases r with r | ⟨o, r⟩
  · exact x a u r
  · obtain ⟨_, q⟩ := x a _ r
    exact q
/-- what may be written -/
def Mut : Option HO → Prop
  | some (.lst _) => True
  | some (.dK _) => True
  | some (.dT _) => True
  | some (.set _ _) => True
  | some (.ins _ _ _) => True
  | some (.ext _) => True
  | _ => False
section
variable {P : Program} {w : World} {H : Hp} {h h' : Heap} {x e : Addr} {o' : HO}
/-- the object at e is changed: x itself, or the dict of the instance x -/
theorem HOk.write (ok : HOk P w H h) (mu : Mut (H x)) (he : e = x ∨ H e = some (.own x)) (k : ∀ b u, b ≠ e → h.get? b = some u → h'.get? b = some u) (heo : ∃ u, h'.get? e = some u)
    (new : ObjOk P w (upd H x o') h' x o') : HOk P w (upd H x o') h' := fun b u q => by
  have nown : ∀ c y, H c = some (.own y) → c ≠ x := fun c y r z => by subst z; rw [r] at mu; exact mu
  have ntup : ∀ c xs, H c = some (.tup xs) → c ≠ x := fun c xs r z => by subst z; rw [r] at mu; exact mu
  by_cases hb : b = x
  · subst hb; rw [upd_same] at q; cases q; exact new
  · rw [upd_ne hb] at q
    by_cases hbe : b = e
    · have q' : H b = some (.own x) := by
        rcases he with z | z
        · exact absurd (hbe.trans z) hb
        · rw [hbe]; exact z
      rw [q] at q'; cases q'
      obtain ⟨v, hv⟩ := heo
      exact ⟨v, by rw [hbe]; exact hv⟩
    · refine (ok b u q).stay (fun c v hc r => k c v ?_ r) (fun c r => by rw [upd_ne (nown c b r)]; exact r) fun c xs r => by rw [upd_ne (ntup c xs r)]; exact r
      rcases hc with rfl | hc
      · exact hbe
      · rintro rfl
        rcases he with z | z
        · exact nown c b hc z
        · rw [hc] at z; cases z; exact hb rfl
end

/-! ### kept unless tracked; of the frames at fs (the callers') the slots may change (an exception that passes writes there); of the records at ex (iterators) nothing is said -/
structure Un (fs ex : List Addr) (H H' : Hp) (h h' : Heap) : Prop where
  keep : ∀ b o, h.get? b = some o → H b = none → b ∉ fs → b ∉ ex → h'.get? b = some o
  slot : ∀ b o, h.get? b = some o → H b = none → b ∈ fs → b ∉ ex → ∃ sl, h'.get? b = some { o with slots := sl }
  free : ∀ b o, h.get? b = some o → H b = none → b ∉ ex → H' b = none
  there : ∀ b o, h.get? b = some o → b ∉ ex → ∃ o', h'.get? b = some o'
  tups : ∀ b xs, H b = some (.tup xs) → H' b = some (.tup xs)
  frzs : ∀ b o u, H b = some (.frz o u) → H' b = some (.frz o u)
  tbls : ∀ b ps, H b = some (.tbl ps) → ∃ more, H' b = some (.tbl (ps ++ more))
section
variable {fs fs' ex ex' : List Addr} {H H1 H2 : Hp} {h h1 h2 h' : Heap} {a x e : Addr} {o : HO}
theorem Un.any (u : Un fs ex H H1 h h1) {b : Addr} {ob : Obj} (q : h.get? b = some ob) (n : H b = none) (hx : b ∉ ex) : ∃ sl, h1.get? b = some { ob with slots := sl } := by
  by_cases hb : b ∈ fs
  · exact u.slot b ob q n hb hx
  · exact ⟨ob.slots, u.keep b ob q n hb hx⟩
theorem Un.trans (a : Un fs ex H H1 h h1) (b : Un fs ex H1 H2 h1 h2) : Un fs ex H H2 h h2 where
  keep := fun c ob q n hc hx => b.keep c ob (a.keep c ob q n hc hx) (a.free c ob q n hx) hc hx
  slot := fun c ob q n hc hx => by
    obtain ⟨sl, e1⟩ := a.slot c ob q n hc hx
    obtain ⟨sl', e2⟩ := b.slot c _ e1 (a.free c ob q n hx) hc hx
    exact ⟨sl', e2⟩
  free := fun c ob q n hx => by
    obtain ⟨o', e1⟩ := a.there c ob q hx
    exact b.free c o' e1 (a.free c ob q n hx) hx
  there := fun c ob q hx => by
    obtain ⟨o', e1⟩ := a.there c ob q hx
    exact b.there c o' e1 hx
  tups := fun c xs q => b.tups c xs (a.tups c xs q)
  frzs := fun c ob xs q => b.frzs c ob xs (a.frzs c ob xs q)
  tbls := fun c ps q => by
    obtain ⟨m1, e1⟩ := a.tbls c ps q
    obtain ⟨m2, e2⟩ := b.tbls c _ e1
    exact ⟨m1 ++ m2, by rw [e2, Array.append_assoc]⟩
theorem Un.kept (k : ∀ b u, h.get? b = some u → h'.get? b = some u) : Un fs ex H H h h' :=
  ⟨fun b ob q _ _ _ => k b ob q, fun b ob q _ _ _ => ⟨ob.slots, k b ob q⟩, fun _ _ _ n _ => n, fun b ob q _ => ⟨ob, k b ob q⟩, fun _ _ q => q, fun _ _ _ q => q, fun _ ps q => ⟨#[], by rw [q]; simp⟩⟩
theorem Un.refl : Un fs ex H H h h := Un.kept fun _ _ q => q
theorem Un.laid (k : ∀ b u, h.get? b = some u → h'.get? b = some u) (hp : h.objs.size ≤ a) (hn : H a = none) : Un fs ex H (upd H a o) h h' where
  keep := fun b u q _ _ _ => k b u q
  slot := fun b u q _ _ _ => ⟨u.slots, k b u q⟩
  free := fun b u q n _ => by rw [upd_ne (Nat.ne_of_lt (Nat.lt_of_lt_of_le (Heap.lt_size q) hp))]; exact n
  there := fun b u q _ => ⟨u, k b u q⟩
  tups := fun b xs q => by rw [upd_ne (ne_of_none q hn)]; exact q
  frzs := fun b u xs q => by rw [upd_ne (ne_of_none q hn)]; exact q
  tbls := fun b ps q => ⟨#[], by rw [upd_ne (ne_of_none q hn), q]; simp⟩
theorem Un.write (mu : Mut (H x)) (he : e = x ∨ H e = some (.own x)) (k : ∀ b u, b ≠ e → h.get? b = some u → h'.get? b = some u) (heo : ∃ u, h'.get? e = some u) : Un fs ex H (upd H x o) h h' := by
  have hx : ∀ b, H b = none → b ≠ x := fun b n z => by subst z; rw [n] at mu; exact mu
  have hb : ∀ b, H b = none → b ≠ e := fun b n z => by
    subst z
    rcases he with r | r
    · exact hx b n r
    · rw [n] at r; cases r
  have hm : ∀ b u, H b = some u → ¬ Mut (some u) → b ≠ x := fun b u q nm z => by subst z; rw [q] at mu; exact nm mu
  refine ⟨fun b u q n _ _ => k b u (hb b n) q, fun b u q n _ _ => ⟨u.slots, k b u (hb b n) q⟩, fun b u q n _ => by rw [upd_ne (hx b n)]; exact n, fun b u q _ => ?_,
    fun b xs q => by rw [upd_ne (hm b _ q fun z => z)]; exact q, fun b u xs q => by rw [upd_ne (hm b _ q fun z => z)]; exact q, fun b ps q => ⟨#[], by rw [upd_ne (hm b _ q fun z => z), q]; simp⟩⟩
  by_cases hbe : b = e
  · subst hbe; exact heo
  · exact ⟨u, k b u hbe q⟩
theorem Un.mono (u : Un fs ex H H1 h h1) (hs : ∀ b ∈ fs, b ∈ fs') (hx : ∀ b ∈ ex, b ∈ ex') : Un fs' ex' H H1 h h1 :=
  ⟨fun b ob q n hb he => u.keep b ob q n (fun z => hb (hs b z)) fun z => he (hx b z), fun _ _ q n _ he => u.any q n fun z => he (hx _ z), fun b ob q n he => u.free b ob q n fun z => he (hx b z), fun b ob q he => u.there b ob q fun z => he (hx b z), u.tups, u.frzs, u.tbls⟩
end

/-! ### the heap without what is tracked -/
def trk (h : Heap) (H : Hp) : List Addr := (List.range h.objs.size).filter fun a => (H a).isSome
def hidT (h : Heap) (H : Hp) : Heap := PySem.W.hideAll h (trk h H)
theorem hidT_size (h : Heap) (H : Hp) : (hidT h H).objs.size = h.objs.size := PySem.W.hideAll_size _ _
theorem hidT_get {h : Heap} {H : Hp} {b : Addr} {o : Obj} (e : h.get? b = some o) (n : H b = none) : (hidT h H).get? b = some o :=
  PySem.W.hideAll_get _ e fun hm => by
    have q : (H b).isSome = true := (List.mem_filter.mp hm).2
    rw [n] at q; simp at q
theorem of_hidT {h : Heap} {H : Hp} {b : Addr} {o : Obj} (e : (hidT h H).get? b = some o) : h.get? b = some o ∧ H b = none := by
  have e' : h.get? b = some o := PySem.W.of_hideAll (trk h H) e
  refine ⟨e', ?_⟩
  cases q : H b with
  | none => rfl
  | some x =>
    have hm : b ∈ trk h H := List.mem_filter.mpr ⟨List.mem_range.mpr (Heap.lt_size e'), by simp [q]⟩
    have z : (hidT h H).get? b = none := PySem.W.hideAll_none (trk h H) hm
    rw [z] at e; cases e

/-! ### OpenK's ledger, filled with every new object but one -/
def allNews (g h : Heap) (L : Addr) : List (Addr × Obj) := (List.range h.objs.size).filterMap fun a => if a = L ∨ (g.get? a).isSome = true then none else (h.get? a).map fun o => (a, o)
theorem mem_allNews {g h : Heap} {L a : Addr} {o : Obj} (h1 : a ≠ L) (h2 : g.get? a = none) (h3 : h.get? a = some o) : (a, o) ∈ allNews g h L :=
  List.mem_filterMap.mpr ⟨a, List.mem_range.mpr (Heap.lt_size h3), by simp [h1, h2, h3]⟩
theorem of_mem_allNews {g h : Heap} {L : Addr} {p : Addr × Obj} (hp : p ∈ allNews g h L) : p.1 ≠ L ∧ g.get? p.1 = none ∧ h.get? p.1 = some p.2 := by
  obtain ⟨b, _, e⟩ := List.mem_filterMap.mp hp
  split at e
  · cases e
  · rename_i hn
    cases q : h.get? b with
    | none => rw [q] at e; simp at e
    | some u =>
      rw [q] at e
      simp only [Option.map_some, Option.some.injEq] at e
      subst e
      refine ⟨fun z => hn (.inl z), ?_, q⟩
      show g.get? b = none
      cases r : g.get? b with
      | none => rfl
      | some v => exact (hn (.inr (by simp [r]))).elim
def rest (g h : Heap) (L d : Addr) : List (Addr × Obj) := (allNews g h L).filter fun p => decide (p.1 ≠ d)
theorem rest_ne {g h : Heap} {L d : Addr} : ∀ p ∈ rest g h L d, p.1 ≠ d := fun p hp => of_decide_eq_true (List.mem_filter.mp hp).2
theorem mem_rest {g h : Heap} {L d a : Addr} {o : Obj} (h1 : a ≠ L) (h2 : g.get? a = none) (h3 : h.get? a = some o) (h4 : a ≠ d) : (a, o) ∈ rest g h L d :=
  List.mem_filter.mpr ⟨mem_allNews h1 h2 h3, decide_eq_true h4⟩
theorem news_all {g h : Heap} {L : Addr} : News g L h (allNews g h L) := fun p hp => let ⟨a, b, c⟩ := of_mem_allNews hp; ⟨c, a, b⟩
theorem news_at {g h : Heap} {L d : Addr} {o : Obj} (h1 : d ≠ L) (h2 : g.get? d = none) (h3 : h.get? d = some o) : News g L h ((d, o) :: rest g h L d) := fun p hp => by
  rcases List.mem_cons.mp hp with rfl | hp
  · exact ⟨h3, h1, h2⟩
  · exact news_all p (List.mem_filter.mp hp).1
/-- behind a rule that changed d alone: all else but the frame is kept -/
theorem kept_of_news {g h h' : Heap} {L d : Addr} {m : Str → Option Value} (k : ∀ b o, g.get? b = some o → h.get? b = some o) (F : Fr g L h' m) (N : News g L h' (rest g h L d)) :
    ∀ b o, b ≠ L → b ≠ d → h.get? b = some o → h'.get? b = some o := fun b o h1 h2 e => by
  cases q : g.get? b with
  | some u =>
    have := k b u q
    rw [e] at this; cases this
    exact F.keep b _ q
  | none => exact (N (b, o) (mem_rest h1 q e h2)).1
end L2

namespace L2
open PySem PySem.Spec PyProof.Rows

/-- the module's facts, over the base: the heap at the law's entry without what is tracked there -/
structure Mod (K : PySem.W.Frag) (mg : Str → Option Value) (base : Heap) : Prop where
  kin : K.In base
  glob : base.Ns mainGlobals mg
  blt : ∃ mb, base.Ns builtinsNs mb ∧ ∀ x : Str, x ≠ "__name__" → mb x = bootBuiltins x
  nolimit : base.NoLimit

/-- the context: a def's body (or a comprehension's block) running. base: fixed through the whole law; s₀, H₀: the entry; outer: the frames whose slots others may change (a def's callers); stack: all frames that run;
   ex: iterators that were made ahead of the entry and are walked here (a comprehension's); fn: the names whose cells were made at the entry (a def: all; a comprehension's block: its own); calm: not within an except suite; pn: pins that every state bears; xe: what is wanted of an exception that leaves the code -/
structure Cx where
  prog : Program
  w : World
  K : PySem.W.Frag
  mg : Str → Option Value
  base : Heap
  A : Around
  N : List Str
  s₀ : Shared
  H₀ : Hp
  env : Env
  outer : List Env
  stack : List Env
  ex : List Addr
  fn : Str → Bool
  calm : Bool
  pn : List (Addr × Obj)
  xe : Value → Shared → Prop
/-- the callers' frames -/
def frs (l : List Env) : List Addr := l.filterMap (·.frame)
abbrev Cx.fs (X : Cx) : List Addr := frs X.outer

def Vis (sc : Scope) (x : Str) : Prop := sc.names.lookup x = some .local ∨ sc.names.lookup x = some .cell ∨ sc.names.lookup x = some .free
def Loc (sc : Scope) (x : Str) : Prop := sc.names.lookup x = some .local ∨ sc.names.lookup x = some .cell
def Look (env : Env) (h : Heap) (m : Str → Option Value) (x : Str) (u : Value) : Prop :=
  (env.kindOf x = some .local ∧ m x = some u) ∨ ((env.kindOf x = some .cell ∨ env.kindOf x = some .free) ∧ ∃ c, env.cells.lookup x = some c ∧ h.IsCell c (some u))

structure Cx.Ok (X : Cx) : Prop where
  mod : Mod X.K X.mg X.base
  kind : X.env.scope.kind = .function
  glob : X.env.globals = mainGlobals
  blt : X.env.builtins = builtinsNs
  above : X.s₀.heap.objs.size ≤ X.env.locals
  inj : ∀ x y c, X.env.cells.lookup x = some c → X.env.cells.lookup y = some c → x = y
  has : ∀ x, (X.env.kindOf x = some .cell ∨ X.env.kindOf x = some .free) → ∃ c, X.env.cells.lookup x = some c
  cab : ∀ x c, X.fn x = true → X.env.cells.lookup x = some c → X.s₀.heap.objs.size ≤ c
  hd : X.calm = true → X.A.handled = none
  frames : X.A.frames = some X.stack
  stk : X.stack = X.outer ∨ (X.stack = X.env :: X.outer ∧ X.env.frame = some X.env.locals)
  exf : ∀ b ∈ X.ex, b ≠ X.env.locals ∧ ∀ x c, X.env.cells.lookup x = some c → c ≠ b
  bs : ∀ b o, X.base.get? b = some o → X.s₀.heap.get? b = some o ∧ X.H₀ b = none
  bsz : X.base.objs.size ≤ X.s₀.heap.objs.size
  noex : ∀ b o, X.base.get? b = some o → b ∉ X.ex
  exfs : ∀ b ∈ X.ex, b ∉ X.fs
  funs : X.s₀.heap.FunFrames X.base X.outer
  frf : ∀ b ∈ X.fs, X.H₀ b = none

structure Inv (X : Cx) (pins : List (Addr × Obj)) (σ : List (Option V)) (H : Hp) (s : Shared) : Prop where
  ok : X.Ok
  os : s.os = X.s₀.os
  bare : AllBare s.gens
  base : Un X.fs X.ex X.H₀ H X.s₀.heap s.heap
  loc : ∃ m, s.heap.Ns X.env.locals m ∧ ∀ (i : Nat) (x : Str) (v : V), X.N[i]? = some x → σ[i]? = some (some v) → Vis X.env.scope x → ∃ u, RelV v u ∧ Look X.env s.heap m x u
  cell : ∀ x c, X.env.cells.lookup x = some c → ∃ v, s.heap.IsCell c v
  free : H X.env.locals = none
  freeC : ∀ x c, X.env.cells.lookup x = some c → H c = none
  pin : ∀ p ∈ X.pn ++ pins, s.heap.get? p.1 = some p.2 ∧ H p.1 = none ∧ p.1 ≠ X.env.locals ∧ p.1 ∉ X.fs ∧ ∀ v, p.2.data ≠ .cell v
  hok : HOk X.prog X.w H s.heap
  len : σ.length = X.N.length

section
variable {X : Cx} {pins : List (Addr × Obj)} {σ : List (Option V)} {H H' : Hp} {s : Shared} {h' : Heap}

theorem Cx.Ok.nofr (ok : X.Ok) {b : Addr} {o : Obj} (e : X.base.get? b = some o) : b ∉ X.fs := fun hb => by
  have := (ok.funs.mem hb).1
  rw [e] at this; cases this
theorem Inv.bs (I : Inv X pins σ H s) : ∀ b o, X.base.get? b = some o → s.heap.get? b = some o ∧ H b = none := fun b o e =>
  ⟨I.base.keep b o (I.ok.bs b o e).1 (I.ok.bs b o e).2 (I.ok.nofr e) (I.ok.noex b o e), I.base.free b o (I.ok.bs b o e).1 (I.ok.bs b o e).2 (I.ok.noex b o e)⟩
theorem Inv.bk (I : Inv X pins σ H s) : ∀ b o, X.base.get? b = some o → s.heap.get? b = some o := fun b o e => (I.bs b o e).1
theorem Inv.mod (I : Inv X pins σ H s) : Mod X.K X.mg X.base := I.ok.mod
theorem Inv.kIn (I : Inv X pins σ H s) : X.K.In s.heap := I.ok.mod.kin.keeps I.bk
theorem Inv.nolimit (I : Inv X pins σ H s) : s.heap.NoLimit := I.ok.mod.nolimit.keeps I.bk
/-- the frame over the base: for OpenK's rules (K.In X.base is I.mod.kin) -/
theorem Inv.fr (I : Inv X pins σ H s) : ∃ m, Fr X.base X.env.locals s.heap m :=
  let ⟨m, hn, _⟩ := I.loc
  ⟨m, hn, I.bk, Nat.le_trans I.ok.bsz I.ok.above⟩
theorem Inv.lt (I : Inv X pins σ H s) : X.env.locals < s.heap.objs.size := let ⟨_, hn, _⟩ := I.loc; hn.lt
theorem Inv.sz (I : Inv X pins σ H s) : X.s₀.heap.objs.size ≤ s.heap.objs.size := Nat.le_trans I.ok.above (Nat.le_of_lt I.lt)
theorem Inv.nofs (I : Inv X pins σ H s) {a : Addr} (h : s.heap.objs.size ≤ a) : a ∉ X.fs := fun hb => by
  obtain ⟨_, o, ho, _⟩ := I.ok.funs.mem hb
  exact absurd (Nat.lt_of_lt_of_le (Heap.lt_size ho) (Nat.le_trans I.sz h)) (Nat.lt_irrefl _)
theorem Inv.cne (I : Inv X pins σ H s) : ∀ x c, X.env.cells.lookup x = some c → c ≠ X.env.locals := fun x c e z => by
  obtain ⟨v, o, ho, hd⟩ := I.cell x c e
  obtain ⟨m, ⟨o', es, ep, ho', hd', _⟩, _⟩ := I.loc
  rw [z, ho'] at ho; cases ho; rw [hd'] at hd; cases hd
theorem Inv.funs (I : Inv X pins σ H s) : s.heap.FunFrames X.base X.outer := by
  have all : ∀ (l : List Env), (∀ b ∈ frs l, b ∈ X.fs) → X.s₀.heap.FunFrames X.base l → s.heap.FunFrames X.base l := by
    intro l
    induction l with
    | nil => intro _ _; trivial
    | cons env r ih =>
      intro hs hl
      obtain ⟨hk, ⟨L, o, hf, hn, ho, hd⟩, hr⟩ := hl
      have hL : L ∈ X.fs := hs L (by unfold frs; rw [List.filterMap_cons, hf]; exact List.mem_cons_self)
      obtain ⟨sl, e⟩ := I.base.slot L o ho (I.ok.frf L hL) hL fun z => I.ok.exfs L z hL
      exact ⟨hk, ⟨L, _, hf, hn, e, hd⟩, ih (fun b hb => hs b (by unfold frs; rw [List.filterMap_cons, hf]; exact List.mem_cons_of_mem _ hb)) hr⟩
  exact all X.outer (fun _ hb => hb) I.ok.funs

/-- the frames that run, for a call -/
theorem Inv.stack (I : Inv X pins σ H s) : s.heap.FunFrames X.base X.stack := by
  rcases I.ok.stk with e | ⟨e, hf⟩
  · rw [e]; exact I.funs
  · rw [e]
    obtain ⟨m, hn, _⟩ := I.loc
    refine .cons (by rw [I.ok.kind]; decide) hf hn ?_ I.funs
    exact Heap.get?_none_of_le (Nat.le_trans I.ok.bsz I.ok.above)
theorem Inv.stkSub (I : Inv X pins σ H s) : ∀ b ∈ frs X.stack, b ∈ X.env.locals :: X.fs := fun b hb => by
  rcases I.ok.stk with e | ⟨e, hf⟩
  · rw [e] at hb; exact List.mem_cons_of_mem _ hb
  · rw [e] at hb
    unfold frs at hb
    rw [List.filterMap_cons, hf] at hb
    exact hb
theorem Inv.stkFree (I : Inv X pins σ H s) : ∀ b ∈ frs X.stack, H b = none := fun b hb => by
  rcases List.mem_cons.mp (I.stkSub b hb) with e | hb
  · rw [e]; exact I.free
  · obtain ⟨_, o, ho, _⟩ := I.ok.funs.mem hb
    exact I.base.free b o ho (I.ok.frf b hb) fun z => I.ok.exfs b z hb

/-- THE STEP: the untracked objects but the frame and the records at ch are kept (the callers' frames up to slots), the frame's map is kept, the new abstract heap is held -/
theorem Inv.step {g' : Array GenState} {t' : Nat} {d' : Drawn} {ch : List Addr} (I : Inv X pins σ H s)
    (hch : ∀ b ∈ ch, (b ∈ X.ex ∨ X.s₀.heap.objs.size ≤ b) ∧ b ≠ X.env.locals ∧ (∀ x c, X.env.cells.lookup x = some c → c ≠ b) ∧ ∀ p ∈ X.pn ++ pins, p.1 ≠ b)
    (keep : ∀ b o, b ≠ X.env.locals → b ∉ X.fs → b ∉ ch → s.heap.get? b = some o → H b = none → h'.get? b = some o)
    (slot : ∀ b o, b ≠ X.env.locals → b ∈ X.fs → b ∉ ch → s.heap.get? b = some o → H b = none → ∃ sl, h'.get? b = some { o with slots := sl }) (free : ∀ b o, b ∉ ch → s.heap.get? b = some o → H b = none → H' b = none)
    (there : ∀ b o, b ∉ ch → s.heap.get? b = some o → ∃ o', h'.get? b = some o')
    (tups : ∀ b xs, H b = some (.tup xs) → H' b = some (.tup xs)) (frzs : ∀ b o u, H b = some (.frz o u) → H' b = some (.frz o u)) (tbls : ∀ b ps, H b = some (.tbl ps) → ∃ more, H' b = some (.tbl (ps ++ more)))
    (ns : ∀ m, s.heap.Ns X.env.locals m → h'.Ns X.env.locals m) (hok : HOk X.prog X.w H' h') (hg : AllBare g') :
    Inv X pins σ H' { s with heap := h', gens := g', drawn := d', toks := t' } := by
  have neL : ∀ b o, X.s₀.heap.get? b = some o → b ≠ X.env.locals := fun b o e => Nat.ne_of_lt (Nat.lt_of_lt_of_le (Heap.lt_size e) I.ok.above)
  have neC : ∀ b o, X.s₀.heap.get? b = some o → b ∉ X.ex → b ∉ ch := fun b o e hx hb => by
    rcases (hch b hb).1 with z | z
    · exact hx z
    · exact absurd (Nat.lt_of_lt_of_le (Heap.lt_size e) z) (Nat.lt_irrefl _)
  have cellK : ∀ x c, X.env.cells.lookup x = some c → ∀ v, s.heap.IsCell c v → h'.IsCell c v := fun x c e v ⟨o, ho, hd⟩ => by
    have nch : c ∉ ch := fun z => (hch c z).2.2.1 x c e rfl
    by_cases hc : c ∈ X.fs
    · obtain ⟨sl, q⟩ := slot c o (I.cne x c e) hc nch ho (I.freeC x c e)
      exact ⟨_, q, hd⟩
    · exact ⟨o, keep c o (I.cne x c e) hc nch ho (I.freeC x c e), hd⟩
  refine ⟨I.ok, I.os, hg, ⟨fun b o e n hb hx => ?_, fun b o e n hb hx => ?_, fun b o e n hx => ?_, fun b o e hx => ?_, fun b xs e => tups b xs (I.base.tups b xs e), fun b o xs e => frzs b o xs (I.base.frzs b o xs e), fun b ps e => ?_⟩, ?_, fun x c e => ?_, ?_, fun x c e => ?_, fun p hp => ?_, hok, I.len⟩
  · exact keep b o (neL b o e) hb (neC b o e hx) (I.base.keep b o e n hb hx) (I.base.free b o e n hx)
  · obtain ⟨sl, e1⟩ := I.base.slot b o e n hb hx
    obtain ⟨sl', e2⟩ := slot b _ (neL b o e) hb (neC b o e hx) e1 (I.base.free b o e n hx)
    exact ⟨sl', e2⟩
  · obtain ⟨o', e1⟩ := I.base.there b o e hx
    exact free b o' (neC b o e hx) e1 (I.base.free b o e n hx)
  · obtain ⟨o', e1⟩ := I.base.there b o e hx
    exact there b o' (neC b o e hx) e1
  · obtain ⟨m1, e1⟩ := I.base.tbls b ps e
    obtain ⟨m2, e2⟩ := tbls b _ e1
    exact ⟨m1 ++ m2, by rw [e2, Array.append_assoc]⟩
  · obtain ⟨m, hn, hl⟩ := I.loc
    refine ⟨m, ns m hn, fun i x v e1 e2 e3 => ?_⟩
    obtain ⟨u, r, l⟩ := hl i x v e1 e2 e3
    refine ⟨u, r, ?_⟩
    rcases l with l | ⟨k, c, e, z⟩
    · exact .inl l
    · exact .inr ⟨k, c, e, cellK x c e _ z⟩
  · obtain ⟨v, z⟩ := I.cell x c e
    exact ⟨v, cellK x c e v z⟩
  · obtain ⟨m, ⟨o, _, _, ho, _⟩, _⟩ := I.loc
    exact free _ o (fun z => (hch _ z).2.1 rfl) ho I.free
  · obtain ⟨v, o, ho, hd⟩ := I.cell x c e
    exact free c o (fun z => (hch c z).2.2.1 x c e rfl) ho (I.freeC x c e)
  · obtain ⟨e, n, ne, nf, d⟩ := I.pin p hp
    have nch : p.1 ∉ ch := fun z => (hch p.1 z).2.2.2 p hp rfl
    exact ⟨keep p.1 p.2 ne nf nch e n, free p.1 p.2 nch e n, ne, nf, d⟩
/-- .. where the frame's own object is kept too -/
theorem Inv.un {t' : Nat} (I : Inv X pins σ H s) (u : Un X.fs [] H H' s.heap h') (hok : HOk X.prog X.w H' h') : Inv X pins σ H' { s with heap := h', toks := t' } := by
  obtain ⟨m, ⟨o, es, ep, ho, r⟩, _⟩ := id I.loc
  obtain ⟨sl, hL⟩ := u.any ho I.free (by simp)
  exact I.step (g' := s.gens) (d' := s.drawn) (ch := []) (fun _ z => nomatch z) (fun b o _ hb _ e n => u.keep b o e n hb (by simp)) (fun b o _ hb _ e n => u.slot b o e n hb (by simp)) (fun b o _ e n => u.free b o e n (by simp)) (fun b o _ e => u.there b o e (by simp)) u.tups u.frzs u.tbls (fun m' hm => by
    obtain ⟨o', es', ep', ho', r'⟩ := hm
    rw [ho] at ho'; cases ho'
    exact ⟨_, es', ep', hL, r'⟩) hok I.bare
/-- behind a call (or a comprehension's block): the slots of this frame may have changed too, the records at ch may have turned -/
theorem Inv.call {g' : Array GenState} {t' : Nat} {d' : Drawn} {ch : List Addr} (I : Inv X pins σ H s) (u : Un (frs X.stack) ch H H' s.heap h') (hok : HOk X.prog X.w H' h') (hg : AllBare g')
    (hch : ∀ b ∈ ch, (b ∈ X.ex ∨ X.s₀.heap.objs.size ≤ b) ∧ b ≠ X.env.locals ∧ (∀ x c, X.env.cells.lookup x = some c → c ≠ b) ∧ ∀ p ∈ X.pn ++ pins, p.1 ≠ b) :
    Inv X pins σ H' { s with heap := h', gens := g', drawn := d', toks := t' } := by
  obtain ⟨m, ⟨o, es, ep, ho, r⟩, _⟩ := id I.loc
  obtain ⟨sl, hL⟩ := u.any ho I.free fun z => (hch _ z).2.1 rfl
  exact I.step (ch := ch) hch (fun b o hL hb hc e n => u.keep b o e n (fun z => (List.mem_cons.mp (I.stkSub b z)).elim hL hb) hc) (fun b o _ _ hc e n => u.any e n hc) (fun b o hc e n => u.free b o e n hc) (fun b o hc e => u.there b o e hc) u.tups u.frzs u.tbls (fun m' hm => by
    obtain ⟨o', es', ep', ho', r'⟩ := hm
    rw [ho] at ho'; cases ho'
    exact ⟨_, es', ep', hL, r'⟩) hok hg
/-- an untracked record of ours (an iterator) has turned -/
theorem Inv.turned {t' : Nat} {it : Addr} (I : Inv X pins σ H s) (k : ∀ b o, b ≠ it → s.heap.get? b = some o → h'.get? b = some o) (hn : H it = none) (hL : it ≠ X.env.locals)
    (h1 : it ∈ X.ex ∨ X.s₀.heap.objs.size ≤ it) (h2 : ∀ x c, X.env.cells.lookup x = some c → c ≠ it) (h3 : ∀ p ∈ X.pn ++ pins, p.1 ≠ it) : Inv X pins σ H { s with heap := h', toks := t' } := by
  have nit : ∀ b u, H b = some u → b ≠ it := fun b u e z => by rw [z, hn] at e; cases e
  refine I.step (g' := s.gens) (d' := s.drawn) (ch := [it]) (fun b hb => ?_) (fun b o _ _ hc e _ => k b o (fun z => hc (by simp [z])) e) (fun b o _ _ hc e _ => ⟨o.slots, k b o (fun z => hc (by simp [z])) e⟩) (fun _ _ _ _ n => n)
    (fun b o hc e => ⟨o, k b o (fun z => hc (by simp [z])) e⟩) (fun _ _ e => e) (fun _ _ _ e => e) (fun b ps e => ⟨#[], by rw [e]; simp⟩) (fun m hm => ?_) (fun b u e => ?_) I.bare
  · have e : b = it := by simpa using hb
    subst e
    exact ⟨h1, hL, h2, h3⟩
  · obtain ⟨o, es, ep, ho, r⟩ := hm
    exact ⟨o, es, ep, k _ o (Ne.symm hL) ho, r⟩
  · refine (I.hok b u e).stay (fun c v hc q => k c v ?_ q) (fun _ q => q) fun _ _ q => q
    rcases hc with z | z
    · rw [z]; exact nit b u e
    · exact nit c _ z
theorem Inv.tok (I : Inv X pins σ H s) (t : Nat) : Inv X pins σ H { s with toks := t } := I.un (h' := s.heap) (t' := t) Un.refl I.hok
/-- all objects kept -/
theorem Inv.kept {t' : Nat} (I : Inv X pins σ H s) (k : ∀ b u, s.heap.get? b = some u → h'.get? b = some u) : Inv X pins σ H { s with heap := h', toks := t' } := I.un (Un.kept k) (I.hok.kept k)
/-- a new object laid and tracked -/
theorem Inv.laid {a : Addr} {o : HO} {t' : Nat} (I : Inv X pins σ H s) (k : ∀ b u, s.heap.get? b = some u → h'.get? b = some u) (hp : s.heap.objs.size ≤ a) (new : ObjOk X.prog X.w (upd H a o) h' a o) :
    Inv X pins σ (upd H a o) { s with heap := h', toks := t' } := I.un (Un.laid k hp (I.hok.fresh hp)) (I.hok.laid k hp new)
/-- an object written -/
theorem Inv.write {x e : Addr} {o : HO} {t' : Nat} (I : Inv X pins σ H s) (mu : Mut (H x)) (he : e = x ∨ H e = some (.own x)) (k : ∀ b u, b ≠ e → s.heap.get? b = some u → h'.get? b = some u) (heo : ∃ u, h'.get? e = some u)
    (new : ObjOk X.prog X.w (upd H x o) h' x o) : Inv X pins σ (upd H x o) { s with heap := h', toks := t' } := I.un (Un.write mu he k heo) (I.hok.write mu he k heo new)
/-- forgetting slots, pins -/
theorem Inv.weak {σ' : List (Option V)} (I : Inv X pins σ H s) (hl : σ'.length = σ.length) (w : ∀ (i : Nat) v, σ'[i]? = some (some v) → σ[i]? = some (some v)) : Inv X pins σ' H s :=
  ⟨I.ok, I.os, I.bare, I.base, let ⟨m, hn, hl'⟩ := I.loc; ⟨m, hn, fun i x v e1 e2 e3 => hl' i x v e1 (w i v e2) e3⟩, I.cell, I.free, I.freeC, I.pin, I.hok, hl.trans I.len⟩
theorem Inv.pins_of {pins' : List (Addr × Obj)} (I : Inv X pins σ H s) (h : ∀ p ∈ pins', s.heap.get? p.1 = some p.2 ∧ H p.1 = none ∧ p.1 ≠ X.env.locals ∧ p.1 ∉ X.fs ∧ ∀ v, p.2.data ≠ .cell v) : Inv X pins' σ H s :=
  ⟨I.ok, I.os, I.bare, I.base, I.loc, I.cell, I.free, I.freeC, fun p hp => (List.mem_append.mp hp).elim (fun z => I.pin p (List.mem_append_left _ z)) (h p), I.hok, I.len⟩

theorem nodup_ix {N : List Str} (hN : N.Nodup) {i j : Nat} {x : Str} (a : N[i]? = some x) (b : N[j]? = some x) : i = j := by
  obtain ⟨h1, e1⟩ := List.getElem?_eq_some_iff.mp a
  obtain ⟨h2, e2⟩ := List.getElem?_eq_some_iff.mp b
  exact (List.getElem_inj hN).mp (e1.trans e2.symm)

/-- a name is stored; what changed -/
theorem store_ok2 {M : Model} {A : Around} {E : Value → Shared → Prop} {i : Nat} {x : Str} {v : V} {u : Value} {Q : Unit → Shared → Prop} (I : Inv X pins σ H s) (hN : X.N.Nodup) (hi : X.N[i]? = some x) (hx : Loc X.env.scope x) (r : RelV v u)
    (h : ∀ s', Inv X pins (σ.set i (some v)) H s' → (∃ a, Heap.SameBut a s.heap s'.heap ∧ (a = X.env.locals ∨ X.env.cells.lookup x = some a)) → Q () s') (hf : X.fn x = true ∨ X.env.scope.names.lookup x = some .local := by first | exact .inl rfl | exact .inr rfl | assumption) : wpAny M A (storeName X.env x u) Q E s := by
  obtain ⟨m, hn, hl⟩ := id I.loc
  have hcls : (X.env.scope.kind == .class || (X.env.scope.kind == .module && X.env.locals != X.env.globals)) = false := by rw [I.ok.kind]; rfl
  have hiσ : i < σ.length := by rw [I.len]; exact (List.getElem?_eq_some_iff.mp hi).1
  have cne := I.cne
  have tracked : ∀ {a : Addr} {h' : Heap}, (∃ o, s.heap.get? a = some o ∧ H a = none) → Heap.SameBut a s.heap h' → HOk X.prog X.w H h' := fun {a h'} ha hs b ob e => by
    obtain ⟨_, _, hfree⟩ := ha
    refine (I.hok b ob e).stay (fun c w' hc q => (hs.2 c ?_).trans q) (fun _ q => q) fun _ _ q => q
    rintro rfl
    rcases hc with rfl | hc
    · rw [hfree] at e; cases e
    · rw [hfree] at hc; cases hc
  rcases hx with hk | hk
  · refine wpAny_storeName_local hk hn (fun h' hn' hs => ?_) hcls
    obtain ⟨oL, _, _, hoL, _⟩ := id hn
    refine h _ ⟨I.ok, I.os, I.bare, ⟨fun b o e n hb hx => ?_, fun b o e n hb hx => ?_, I.base.free, fun b o e hx => ?_, I.base.tups, I.base.frzs, I.base.tbls⟩, ⟨_, hn', fun j y v' e1 e2 e3 => ?_⟩, fun y c e => ?_, I.free, I.freeC, fun p hp => ?_, tracked ⟨oL, hoL, I.free⟩ hs, by simpa using I.len⟩ ⟨_, hs, .inl rfl⟩
    · exact (hs.2 b (Nat.ne_of_lt (Nat.lt_of_lt_of_le (Heap.lt_size e) I.ok.above))).trans (I.base.keep b o e n hb hx)
    · obtain ⟨sl, e1⟩ := I.base.slot b o e n hb hx
      exact ⟨sl, (hs.2 b (Nat.ne_of_lt (Nat.lt_of_lt_of_le (Heap.lt_size e) I.ok.above))).trans e1⟩
    · obtain ⟨o', e1⟩ := I.base.there b o e hx
      exact ⟨o', (hs.2 b (Nat.ne_of_lt (Nat.lt_of_lt_of_le (Heap.lt_size e) I.ok.above))).trans e1⟩
    · by_cases hj : j = i
      · subst hj
        rw [hi] at e1; cases e1
        rw [List.getElem?_set_self hiσ] at e2
        cases e2
        exact ⟨u, r, .inl ⟨hk, by simp⟩⟩
      · rw [List.getElem?_set_ne (Ne.symm hj)] at e2
        obtain ⟨u', r', q⟩ := hl j y v' e1 e2 e3
        refine ⟨u', r', ?_⟩
        rcases q with ⟨k, e⟩ | ⟨k, c, e, z⟩
        · refine .inl ⟨k, ?_⟩
          have : y ≠ x := fun e => hj (nodup_ix hN e1 (e ▸ hi))
          simp [this, e]
        · exact .inr ⟨k, c, e, z.sameBut hs (cne y c e)⟩
    · obtain ⟨w', z⟩ := I.cell y c e
      exact ⟨w', z.sameBut hs (cne y c e)⟩
    · obtain ⟨e, n, ne, nf, d⟩ := I.pin p hp
      exact ⟨(hs.2 p.1 ne).trans e, n, ne, nf, d⟩
  · have hfn : X.fn x = true := by
      rcases hf with z | z
      · exact z
      · rw [z] at hk; cases hk
    obtain ⟨c, hc⟩ := I.ok.has x (.inl hk)
    obtain ⟨w', z⟩ := I.cell x c hc
    refine wpAny_storeName_cell I.ok.kind hk hc z (fun h' hc' hs => ?_)
    obtain ⟨oc, hoc, hocd⟩ := id z
    refine h { s with heap := h' } ⟨I.ok, I.os, I.bare, ⟨fun b o e n hb hx => ?_, fun b o e n hb hx => ?_, I.base.free, fun b o e hx => ?_, I.base.tups, I.base.frzs, I.base.tbls⟩, ⟨m, hn.sameBut hs (Ne.symm (cne x c hc)), fun j y v' e1 e2 e3 => ?_⟩, fun y c' e => ?_, I.free, I.freeC, fun p hp => ?_, tracked ⟨oc, hoc, I.freeC x c hc⟩ hs, by simpa using I.len⟩ ⟨c, hs, .inr hc⟩
    · exact (hs.2 b (Nat.ne_of_lt (Nat.lt_of_lt_of_le (Heap.lt_size e) (I.ok.cab x c hfn hc)))).trans (I.base.keep b o e n hb hx)
    · obtain ⟨sl, e1⟩ := I.base.slot b o e n hb hx
      exact ⟨sl, (hs.2 b (Nat.ne_of_lt (Nat.lt_of_lt_of_le (Heap.lt_size e) (I.ok.cab x c hfn hc)))).trans e1⟩
    · obtain ⟨o', e1⟩ := I.base.there b o e hx
      exact ⟨o', (hs.2 b (Nat.ne_of_lt (Nat.lt_of_lt_of_le (Heap.lt_size e) (I.ok.cab x c hfn hc)))).trans e1⟩
    · by_cases hj : j = i
      · subst hj
        rw [hi] at e1; cases e1
        rw [List.getElem?_set_self hiσ] at e2
        cases e2
        exact ⟨u, r, .inr ⟨.inl hk, c, hc, hc'⟩⟩
      · rw [List.getElem?_set_ne (Ne.symm hj)] at e2
        obtain ⟨u', r', q⟩ := hl j y v' e1 e2 e3
        refine ⟨u', r', ?_⟩
        rcases q with q | ⟨k, c', e, z'⟩
        · exact .inl q
        · refine .inr ⟨k, c', e, z'.sameBut hs ?_⟩
          rintro rfl
          exact hj (nodup_ix hN e1 (I.ok.inj _ _ _ e hc ▸ hi))
    · by_cases hcc : c' = c
      · subst hcc; exact ⟨_, hc'⟩
      · obtain ⟨w2, z2⟩ := I.cell y c' e
        exact ⟨w2, z2.sameBut hs hcc⟩
    · obtain ⟨e, n, ne, nf, d⟩ := I.pin p hp
      refine ⟨(hs.2 p.1 ?_).trans e, n, ne, nf, d⟩
      intro q
      rw [q, hoc] at e
      have q' : oc = p.2 := Option.some.inj e
      exact d w' (by rw [← q']; exact hocd)
theorem store_ok {M : Model} {A : Around} {E : Value → Shared → Prop} {i : Nat} {x : Str} {v : V} {u : Value} {Q : Unit → Shared → Prop} (I : Inv X pins σ H s) (hN : X.N.Nodup) (hi : X.N[i]? = some x) (hx : Loc X.env.scope x) (r : RelV v u)
    (h : ∀ s', Inv X pins (σ.set i (some v)) H s' → Q () s') (hf : X.fn x = true ∨ X.env.scope.names.lookup x = some .local := by first | exact .inl rfl | exact .inr rfl | assumption) : wpAny M A (storeName X.env x u) Q E s :=
  store_ok2 I hN hi hx r (fun s' I' _ => h s' I') hf
/-- behind a call or a block, the state as it is -/
theorem Inv.call' {s' : Shared} {ch : List Addr} (I : Inv X pins σ H s) (ho : s'.os = s.os) (u : Un (frs X.stack) ch H H' s.heap s'.heap) (hok : HOk X.prog X.w H' s'.heap) (hg : AllBare s'.gens)
    (hch : ∀ b ∈ ch, (b ∈ X.ex ∨ X.s₀.heap.objs.size ≤ b) ∧ b ≠ X.env.locals ∧ (∀ x c, X.env.cells.lookup x = some c → c ≠ b) ∧ ∀ p ∈ X.pn ++ pins, p.1 ≠ b) : Inv X pins σ H' s' := by
  obtain ⟨h', g', d', t', o'⟩ := s'
  have e : o' = s.os := ho
  subst e
  exact I.call (g' := g') (t' := t') (d' := d') u hok hg hch
end

/-! ### the judgements -/
/-- an exception: its class, its own dict's address (where it has one), the abstract heap behind it -/
abbrev XK := Value → Option Addr → Hp → Prop
abbrev St := List (Option V)
abbrev VK := V → Hp → Prop
/-- an expression's reading; a test's; an argument list's -/
abbrev TE := St → Hp → VK → Prop
abbrev TT := St → Hp → (Bool → Hp → Prop) → Prop
abbrev TA := St → Hp → (List V → Hp → Prop) → Prop
/-- what is wanted behind a statement -/
structure Ends where
  nx : St → Hp → Prop
  rt : VK
  bk : St → Hp → Prop := fun _ _ => False
  ct : St → Hp → Prop := fun _ _ => False
abbrev TS := Ends → St → Hp → Prop

def EP (X : Cx) (pins : List (Addr × Obj)) (σ : St) (Q : VK) (u : Value) (s' : Shared) : Prop := ∃ v H', Inv X pins σ H' s' ∧ RelV v u ∧ Q v H'
def TP (X : Cx) (pins : List (Addr × Obj)) (σ : St) (Q : Bool → Hp → Prop) (b : Bool) (s' : Shared) : Prop := ∃ H', Inv X pins σ H' s' ∧ Q b H'
def AP (X : Cx) (pins : List (Addr × Obj)) (σ : St) (Q : List V → Hp → Prop) (us : List Value) (s' : Shared) : Prop := ∃ vs H', Inv X pins σ H' s' ∧ Vals vs us ∧ Q vs H'
def SP (X : Cx) (pins : List (Addr × Obj)) (D : Ends) (f : Flow) (s' : Shared) : Prop :=
  match f with
  | .next => ∃ σ' H', Inv X pins σ' H' s' ∧ D.nx σ' H'
  | .brk => ∃ σ' H', Inv X pins σ' H' s' ∧ D.bk σ' H'
  | .cont => ∃ σ' H', Inv X pins σ' H' s' ∧ D.ct σ' H'
  | .ret u => ∃ v σ' H', Inv X pins σ' H' s' ∧ RelV v u ∧ D.rt v H'

def PE (X : Cx) (e : Expr) (t : TE) : Prop :=
  ∀ (pins : List (Addr × Obj)) (s : Shared) (σ : St) (H : Hp) (Q : VK), Inv X pins σ H s → t σ H Q → wpAny (model X.prog X.w) X.A (eval e X.env) (EP X pins σ Q) X.xe s
def PT (X : Cx) (e : Expr) (t : TT) : Prop :=
  ∀ (pins : List (Addr × Obj)) (s : Shared) (σ : St) (H : Hp) (Q : Bool → Hp → Prop), Inv X pins σ H s → t σ H Q → wpAny (model X.prog X.w) X.A (isTrue e X.env (eval e X.env)) (TP X pins σ Q) X.xe s
/-- a test whatever its 'whole' is (and, or) -/
def PW (X : Cx) (e : Expr) (t : TT) : Prop :=
  ∀ (whole : Sem Value) (pins : List (Addr × Obj)) (s : Shared) (σ : St) (H : Hp) (Q : Bool → Hp → Prop), Inv X pins σ H s → t σ H Q → wpAny (model X.prog X.w) X.A (isTrue e X.env whole) (TP X pins σ Q) X.xe s
theorem PW.pt {X : Cx} {e : Expr} {t : TT} (h : PW X e t) : PT X e t := h _
/-- an argument list (no star), from the left -/
def PA (X : Cx) (es : List Expr) (t : TA) : Prop :=
  ∀ (pos : Pos) (pins : List (Addr × Obj)) (s : Shared) (σ : St) (H : Hp) (Q : List V → Hp → Prop), Inv X pins σ H s → t σ H Q → wpAny (model X.prog X.w) X.A (spliced (backTo pos (starEach es X.env))) (AP X pins σ Q) X.xe s
def PS (X : Cx) (st : Stmt) (t : TS) : Prop :=
  ∀ (pins : List (Addr × Obj)) (s : Shared) (σ : St) (H : Hp) (D : Ends), Inv X pins σ H s → t D σ H → wpAny (model X.prog X.w) X.A (exec st X.env) (SP X pins D) X.xe s
def PSs (X : Cx) (st : List Stmt) (t : TS) : Prop :=
  ∀ (pins : List (Addr × Obj)) (s : Shared) (σ : St) (H : Hp) (D : Ends), Inv X pins σ H s → t D σ H → wpAny (model X.prog X.w) X.A (execs st X.env) (SP X pins D) X.xe s
/-- weaken the end -/
theorem thn {α : Type} {t : Sem α} {Q Q' : α → Shared → Prop} {M : Model} {A : Around} {E : Value → Shared → Prop} {s : Shared} (h : wpAny M A t Q E s) (hQ : ∀ a s, Q a s → Q' a s) : wpAny M A t Q' E s := wpAny_mono h hQ fun _ _ x => x
end L2

namespace L2
open PySem PySem.Spec PyProof.Rows
section
variable {X : Cx}

/-- two expressions in a row -/
theorem bin {a b : Expr} {ta tb : TE} (ha : PE X a ta) (hb : PE X b tb) {pins : List (Addr × Obj)} {s : Shared} {σ : St} {H : Hp} {R : V → V → Hp → Prop} (I : Inv X pins σ H s) (h : ta σ H fun x H1 => tb σ H1 fun y H2 => R x y H2)
    {α : Type} {Q : α → Shared → Prop} {f : Value → Value → Sem α}
    (hf : ∀ v u s2 x y H2, Inv X pins σ H2 s2 → RelV x v → RelV y u → R x y H2 → wpAny (model X.prog X.w) X.A (f v u) Q X.xe s2) :
    wpAny (model X.prog X.w) X.A (eval a X.env) (fun v s₁ => wpAny (model X.prog X.w) X.A (eval b X.env) (fun u s₂ => wpAny (model X.prog X.w) X.A (f v u) Q X.xe s₂) X.xe s₁) X.xe s := by
  refine thn (ha pins s σ H _ I h) fun v s1 ⟨x, H1, I1, r1, q1⟩ => ?_
  refine thn (hb pins s1 σ H1 _ I1 q1) fun u s2 ⟨y, H2, I2, r2, q2⟩ => ?_
  exact hf v u s2 x y H2 I2 r1 r2 q2

/-! ### names and constants -/
def tVar (i : Nat) : TE := fun σ H Q => ∃ v, σ[i]? = some (some v) ∧ Q v H
def tC (v : V) : TE := fun _ H Q => Q v H
theorem pe_var {i : Nat} {x : Str} {pos : Pos} (hN : X.N[i]? = some x) (hv : Vis X.env.scope x) (hd : (x == ("__debug__" : Str)) = false := by decide) (hcd : (x == ("__classdict__" : Str)) = false := by decide) : PE X (.Name x pos) (tVar i) := by
  intro pins s σ H Q I h
  obtain ⟨v, e, h⟩ := h
  obtain ⟨m, hn, hl⟩ := I.loc
  obtain ⟨u, r, l⟩ := hl i x v hN e hv
  have fin : EP X pins σ Q u s := ⟨v, H, I, r, h⟩
  rcases l with ⟨hk, hm⟩ | ⟨hk, c, hc, hcell⟩
  · exact wpAny_Name (wpAny_loadName_local I.ok.kind hk hn hm fin) hd
  · rcases hk with hk | hk
    · exact wpAny_Name (wpAny_loadName_cell I.ok.kind hk hc hcell fin) hd
    · exact wpAny_Name (wpAny_loadName_free I.ok.kind hk hc hcell fin hcd) hd
theorem pe_int {i j pos} : PE X (.Constant (.int i) j pos) (tC (.int i)) := fun _ _ _ H _ I h => wpAny_Constant_int ⟨.int i, H, I.tok _, ⟨_, rfl⟩, h⟩
theorem pe_bl {b j pos} : PE X (.Constant (.bool b) j pos) (tC (.bl b)) := fun _ _ _ H _ I h => Constant_bool ⟨.bl b, H, I, rfl, h⟩
theorem pe_non {j pos} : PE X (.Constant .none j pos) (tC .non) := fun _ _ _ H _ I h => Constant_none ⟨.non, H, I, rfl, h⟩
theorem pe_str {x j pos} : PE X (.Constant (.str x) j pos) (tC (.str x)) := fun _ _ _ H _ I h => Calls.Constant_str ⟨.str x, H, I.tok _, ⟨_, rfl⟩, h⟩

/-- a global name of the def -/
def Gl (X : Cx) (x : Str) : Prop := X.env.kindOf x = some .globalImplicit
theorem ld_glob {E : Value → Shared → Prop} {pins : List (Addr × Obj)} {s : Shared} {σ : St} {H : Hp} {x : Str} {u : Value} {pos : Pos} {Q : Value → Shared → Prop} (I : Inv X pins σ H s) (hg : Gl X x) (hm : X.mg x = some u) (h : Q u s)
    (hd : (x == ("__debug__" : Str)) = false := by decide) : wpAny (model X.prog X.w) X.A (eval (.Name x pos) X.env) Q E s :=
  Calls.Name_function_global I.ok.kind hg (Calls.loadGlobal_global (by rw [I.ok.glob]; exact I.mod.glob.keeps I.bk) hm h) hd
theorem ld_blt {E : Value → Shared → Prop} {pins : List (Addr × Obj)} {s : Shared} {σ : St} {H : Hp} {x : Str} {u : Value} {pos : Pos} {Q : Value → Shared → Prop} (I : Inv X pins σ H s) (hg : Gl X x) (hm : X.mg x = none) (hv : bootBuiltins x = some u) (h : Q u s)
    (hn : x ≠ "__name__" := by decide) (hd : (x == ("__debug__" : Str)) = false := by decide) : wpAny (model X.prog X.w) X.A (eval (.Name x pos) X.env) Q E s := by
  obtain ⟨mb, h1, h2⟩ := I.mod.blt
  exact Calls.Name_function_global I.ok.kind hg (Calls.loadGlobal_builtin (by rw [I.ok.glob]; exact I.mod.glob.keeps I.bk) hm (by rw [I.ok.blt]; exact h1.keeps I.bk) ((h2 x hn).trans hv) h) hd
/-- a module's constant, a class, a function, as a value -/
theorem pe_glob {x : Str} {v : V} {u : Value} {pos : Pos} (hg : Gl X x) (hm : X.mg x = some u) (r : RelV v u) (hd : (x == ("__debug__" : Str)) = false := by decide) : PE X (.Name x pos) (tC v) :=
  fun _ _ _ H _ I h => ld_glob I hg hm ⟨v, H, I, r, h⟩ hd
theorem pe_bltn {x : Str} {v : V} {u : Value} {pos : Pos} (hg : Gl X x) (hm : X.mg x = none) (hv : bootBuiltins x = some u) (r : RelV v u) (hn : x ≠ "__name__" := by decide) (hd : (x == ("__debug__" : Str)) = false := by decide) : PE X (.Name x pos) (tC v) :=
  fun _ _ _ H _ I h => ld_blt I hg hm hv ⟨v, H, I, r, h⟩ hn hd

/-! ### arithmetic -/
/-- two ints -/
def t2I (ta tb : TE) (k : Int → Int → Hp → Prop) : St → Hp → Prop := fun σ H => ta σ H fun x H1 => tb σ H1 fun y H2 => ∃ i j, x = .int i ∧ y = .int j ∧ k i j H2
def tAdd (ta tb : TE) : TE := fun σ H Q => t2I ta tb (fun i j H2 => Q (.int (i + j)) H2) σ H
def tSub (ta tb : TE) : TE := fun σ H Q => t2I ta tb (fun i j H2 => Q (.int (i - j)) H2) σ H
/-- the left factor below 2^64 -/
def tMul (ta tb : TE) : TE := fun σ H Q => t2I ta tb (fun i j H2 => (-(2 ^ 64) < i ∧ i < 2 ^ 64) ∧ Q (.int (i * j)) H2) σ H
variable {a b : Expr} {ta tb : TE} {pos : Pos}
theorem pe_add (ha : PE X a ta) (hb : PE X b tb) : PE X (.BinOp a .Add b pos) (tAdd ta tb) := by
  intro pins s σ H Q I h
  refine wpAny_BinOp (bin ha hb I h fun v u s2 x y H2 I2 rx ry q => ?_)
  obtain ⟨i, j, rfl, rfl, q⟩ := q
  obtain ⟨t, rfl⟩ := rx
  obtain ⟨t', rfl⟩ := ry
  exact add_int ⟨.int _, H2, I2.tok _, ⟨_, rfl⟩, q⟩
theorem pe_sub (ha : PE X a ta) (hb : PE X b tb) : PE X (.BinOp a .Sub b pos) (tSub ta tb) := by
  intro pins s σ H Q I h
  refine wpAny_BinOp (bin ha hb I h fun v u s2 x y H2 I2 rx ry q => ?_)
  obtain ⟨i, j, rfl, rfl, q⟩ := q
  obtain ⟨t, rfl⟩ := rx
  obtain ⟨t', rfl⟩ := ry
  exact sub_int ⟨.int _, H2, I2.tok _, ⟨_, rfl⟩, q⟩
theorem pe_mul (ha : PE X a ta) (hb : PE X b tb) : PE X (.BinOp a .Mult b pos) (tMul ta tb) := by
  intro pins s σ H Q I h
  refine wpAny_BinOp (bin ha hb I h fun v u s2 x y H2 I2 rx ry q => ?_)
  obtain ⟨i, j, rfl, rfl, ⟨q1, q2⟩, q⟩ := q
  obtain ⟨t, rfl⟩ := rx
  obtain ⟨t', rfl⟩ := ry
  exact mul_int ⟨.int _, H2, I2.tok _, ⟨_, rfl⟩, q⟩ (.of_left (intBits_le_64 q1 q2))

/-! ### comparisons -/
def PC (X : Cx) (op : CmpOp) (a b : Expr) (t : TE) : Prop :=
  ∀ (pins : List (Addr × Obj)) (s : Shared) (σ : St) (H : Hp) (Q : VK), Inv X pins σ H s → t σ H Q →
    wpAny (model X.prog X.w) X.A (eval a X.env) (fun v s₁ => wpAny (model X.prog X.w) X.A (eval b X.env) (fun u s₂ => wpAny (model X.prog X.w) X.A (compareOp op v u) (EP X pins σ Q) X.xe s₂) X.xe s₁) X.xe s
theorem nobehind (b : Expr) {op : CmpOp} (h : op ≠ .In) (h2 : op ≠ .NotIn) : behindInMarks op b = false := by
  have e1 : (op == CmpOp.In) = false := by cases op <;> first | rfl | exact absurd rfl h
  have e2 : (op == CmpOp.NotIn) = false := by cases op <;> first | rfl | exact absurd rfl h2
  cases b <;> simp [behindInMarks, e1, e2]
def tCmp (p : Int → Int → Bool) (ta tb : TE) : TE := fun σ H Q => t2I ta tb (fun i j H2 => Q (.bl (p i j)) H2) σ H
abbrev tLt : TE → TE → TE := tCmp fun i j => decide (i < j)
abbrev tLe : TE → TE → TE := tCmp fun i j => decide (i ≤ j)
abbrev tGt : TE → TE → TE := tCmp fun i j => decide (j < i)
abbrev tGe : TE → TE → TE := tCmp fun i j => decide (j ≤ i)
abbrev tEqI : TE → TE → TE := tCmp fun i j => decide (i = j)
abbrev tNeI : TE → TE → TE := tCmp fun i j => !decide (i = j)
/-- a comparison of two ints, by its rule -/
theorem pc_int {op : CmpOp} {p : Int → Int → Bool} (ha : PE X a ta) (hb : PE X b tb)
    (rule : ∀ (i j : Int) (t u : Tok) (Q : Value → Shared → Prop) (s : Shared), Q (.bool (p i j)) s → wpAny (model X.prog X.w) X.A (compareOp op (.int i t) (.int j u)) Q X.xe s) : PC X op a b (tCmp p ta tb) := by
  intro pins s σ H Q I h
  refine bin ha hb I h fun v u s2 x y H2 I2 rx ry q => ?_
  obtain ⟨i, j, rfl, rfl, q⟩ := q
  obtain ⟨t, rfl⟩ := rx
  obtain ⟨t', rfl⟩ := ry
  exact rule i j t t' _ s2 ⟨.bl _, H2, I2, rfl, q⟩
theorem pc_lt (ha : PE X a ta) (hb : PE X b tb) : PC X .Lt a b (tLt ta tb) := pc_int ha hb fun _ _ _ _ _ _ h => lt_int h
theorem pc_le (ha : PE X a ta) (hb : PE X b tb) : PC X .LtE a b (tLe ta tb) := pc_int ha hb fun _ _ _ _ _ _ h => le_int h
theorem pc_gt (ha : PE X a ta) (hb : PE X b tb) : PC X .Gt a b (tGt ta tb) := pc_int ha hb fun _ _ _ _ _ _ h => gt_int h
theorem pc_ge (ha : PE X a ta) (hb : PE X b tb) : PC X .GtE a b (tGe ta tb) := pc_int ha hb fun _ _ _ _ _ _ h => ge_int h
theorem pc_eqI (ha : PE X a ta) (hb : PE X b tb) : PC X .Eq a b (tEqI ta tb) := pc_int ha hb fun _ _ _ _ _ _ h => eq_int (by rw [Bool.beq_eq_decide_eq]; exact h)
theorem pc_neI (ha : PE X a ta) (hb : PE X b tb) : PC X .NotEq a b (tNeI ta tb) := pc_int ha hb fun _ _ _ _ _ _ h => ne_int (by rw [bne, Bool.beq_eq_decide_eq]; exact h)
/-- is None -/
def tIsN (ta : TE) : TE := fun σ H Q => ta σ H fun x H1 => Q (.bl (decide (x = .non))) H1
def tNotN (ta : TE) : TE := fun σ H Q => ta σ H fun x H1 => Q (.bl (!decide (x = .non))) H1
theorem RelV.none_iff {x : V} {v : Value} (r : RelV x v) : (v == Value.none) = decide (x = .non) := by
  cases x with
  | non => cases r; rfl
  | bl _ => cases r; rfl
  | int _ => obtain ⟨t, rfl⟩ := r; rfl
  | str _ => obtain ⟨t, rfl⟩ := r; rfl
  | byt _ => obtain ⟨t, rfl⟩ := r; rfl
  | flt _ => obtain ⟨t, rfl⟩ := r; rfl
  | ref _ => cases r; rfl
  | ty _ => cases r; rfl
theorem pc_isN {j pos'} (ha : PE X a ta) : PC X .Is a (.Constant .none j pos') (tIsN ta) := by
  intro pins s σ H Q I h
  refine thn (ha pins s σ H _ I h) fun v s1 ⟨x, H1, I1, r1, q1⟩ => ?_
  exact Constant_none (is_none_gen ⟨.bl _, H1, I1, by rw [r1.none_iff]; rfl, q1⟩)
theorem pc_notN {j pos'} (ha : PE X a ta) : PC X .IsNot a (.Constant .none j pos') (tNotN ta) := by
  intro pins s σ H Q I h
  refine thn (ha pins s σ H _ I h) fun v s1 ⟨x, H1, I1, r1, q1⟩ => ?_
  exact Constant_none (isnot_none_gen ⟨.bl _, H1, I1, by rw [r1.none_iff]; rfl, q1⟩)
/-- a comparison as a value, as a test -/
def tB (t : TE) : TT := fun σ H Q => t σ H fun x H1 => ∃ c, x = .bl c ∧ Q c H1
theorem pe_cmp {op : CmpOp} {t : TE} (h : PC X op a b t) (h1 : behindInMarks op b = false := by first | exact nobehind _ (by decide) (by decide) | rfl) : PE X (.Compare a [op] [b] pos) t := fun pins s σ H Q I hw => wpAny_Compare1 (h pins s σ H Q I hw) h1
theorem pt_cmp {op : CmpOp} {t : TE} (h : PC X op a b t) (h1 : behindInMarks op b = false := by first | exact nobehind _ (by decide) (by decide) | rfl) : PT X (.Compare a [op] [b] pos) (tB t) := by
  intro pins s σ H Q I hw
  refine wpAny_isTrue_Compare1 (thn (h pins s σ H _ I hw) fun v s1 h1 => thn h1 fun u s2 h2 => thn h2 fun c s3 ⟨x, H1, I1, r1, q1⟩ => ?_) h1
  obtain ⟨d, rfl, q⟩ := q1
  cases r1
  exact wpAny_truthy_bool ⟨H1, I1, q⟩
/-- an expression whose value is a bool, as a test -/
theorem pt_val {e : Expr} {t : TE} (h : PE X e t) (he : ∀ whole, isTrue e X.env whole = (do let v ← whole; standAt e.pos; holding [v] (truthy v)) := by intro _; rfl) : PT X e (tB t) := by
  intro pins s σ H Q I hw
  refine isTrue_plain (thn (h pins s σ H _ I hw) fun v s1 ⟨x, H1, I1, r1, q1⟩ => ?_) (he _)
  obtain ⟨d, rfl, q⟩ := q1
  cases r1
  exact wpAny_truthy_bool ⟨H1, I1, q⟩

/-! ### and, or, not -/
variable {tA tB' : TT} {rest : List Expr}
def tAnd (t u : TT) : TT := fun σ H Q => t σ H fun c H1 => if c = true then u σ H1 Q else Q false H1
def tOr (t u : TT) : TT := fun σ H Q => t σ H fun c H1 => if c = true then Q true H1 else u σ H1 Q
def tNot (t : TT) : TT := fun σ H Q => t σ H fun c H1 => Q (!c) H1
theorem pw_and1 (ha : PT X a tA) : PW X (.BoolOp .And [a] pos) tA := by
  intro wh pins s σ H Q I h
  refine isTrue_and (thn (ha pins s σ H Q I h) fun c s1 e => ?_)
  cases c with
  | true => exact isTrue_and_nil e
  | false => exact e
theorem pw_or1 (ha : PT X a tA) : PW X (.BoolOp .Or [a] pos) tA := by
  intro wh pins s σ H Q I h
  refine isTrue_or (thn (ha pins s σ H Q I h) fun c s1 e => ?_)
  cases c with
  | false => exact isTrue_or_nil e
  | true => exact e
theorem pw_and (ha : PT X a tA) (hb : PW X (.BoolOp .And (b :: rest) pos) tB') : PW X (.BoolOp .And (a :: b :: rest) pos) (tAnd tA tB') := by
  intro wh pins s σ H Q I h
  refine isTrue_and (thn (ha pins s σ H _ I h) fun c s1 ⟨H1, I1, q1⟩ => ?_)
  cases c with
  | true => exact hb wh pins s1 σ H1 Q I1 q1
  | false => exact ⟨H1, I1, q1⟩
theorem pw_or (ha : PT X a tA) (hb : PW X (.BoolOp .Or (b :: rest) pos) tB') : PW X (.BoolOp .Or (a :: b :: rest) pos) (tOr tA tB') := by
  intro wh pins s σ H Q I h
  refine isTrue_or (thn (ha pins s σ H _ I h) fun c s1 ⟨H1, I1, q1⟩ => ?_)
  cases c with
  | true => exact ⟨H1, I1, q1⟩
  | false => exact hb wh pins s1 σ H1 Q I1 q1
theorem pt_not (ha : PT X a tA) : PT X (.UnaryOp .Not a pos) (tNot tA) := by
  intro pins s σ H Q I h
  exact isTrue_not (ha pins s σ H (fun c H1 => Q (!c) H1) I h)
/-- .. as values (bools) -/
def tAndV (ta tb : TE) : TE := fun σ H Q => ta σ H fun x H1 => ∃ c, x = .bl c ∧ if c = true then tb σ H1 Q else Q (.bl false) H1
def tOrV (ta tb : TE) : TE := fun σ H Q => ta σ H fun x H1 => ∃ c, x = .bl c ∧ if c = true then Q (.bl true) H1 else tb σ H1 Q
def tNotV (ta : TE) : TE := fun σ H Q => ta σ H fun x H1 => ∃ c, x = .bl c ∧ Q (.bl (!c)) H1
theorem pe_one {op} {t : TE} (h : PE X a t) : PE X (.BoolOp op [a] pos) t := fun pins s σ H Q I hw => BoolOp_one (h pins s σ H Q I hw)
theorem pe_and (ha : PE X a ta) (hb : PE X (.BoolOp .And (b :: rest) pos) tb) : PE X (.BoolOp .And (a :: b :: rest) pos) (tAndV ta tb) := by
  intro pins s σ H Q I h
  refine BoolOp_and (thn (ha pins s σ H _ I h) fun v s1 ⟨x, H1, I1, r1, q1⟩ => ?_)
  obtain ⟨c, rfl, q1⟩ := q1
  cases r1
  refine wpAny_truthy_bool ?_
  cases c with
  | true => exact hb pins s1 σ H1 Q I1 q1
  | false => exact ⟨.bl false, H1, I1, rfl, q1⟩
theorem pe_or (ha : PE X a ta) (hb : PE X (.BoolOp .Or (b :: rest) pos) tb) : PE X (.BoolOp .Or (a :: b :: rest) pos) (tOrV ta tb) := by
  intro pins s σ H Q I h
  refine BoolOp_or (thn (ha pins s σ H _ I h) fun v s1 ⟨x, H1, I1, r1, q1⟩ => ?_)
  obtain ⟨c, rfl, q1⟩ := q1
  cases r1
  refine wpAny_truthy_bool ?_
  cases c with
  | false => exact hb pins s1 σ H1 Q I1 q1
  | true => exact ⟨.bl true, H1, I1, rfl, q1⟩
theorem pe_not (ha : PE X a ta) : PE X (.UnaryOp .Not a pos) (tNotV ta) := by
  intro pins s σ H Q I h
  refine UnaryOp_ (thn (ha pins s σ H _ I h) fun v s1 ⟨x, H1, I1, r1, q1⟩ => ?_)
  obtain ⟨c, rfl, q1⟩ := q1
  cases r1
  exact not_of (wpAny_truthy_bool ⟨.bl (!c), H1, I1, rfl, q1⟩)
/-- a if t else b -/
def tIf (t : TT) (ta tb : TE) : TE := fun σ H Q => t σ H fun c H1 => if c = true then ta σ H1 Q else tb σ H1 Q
theorem pe_ifExp {c : Expr} (hc : PT X c tA) (ha : PE X a ta) (hb : PE X b tb) : PE X (.IfExp c a b pos) (tIf tA ta tb) := by
  intro pins s σ H Q I h
  refine wpAny_IfExp (thn (hc pins s σ H _ I h) fun d s1 ⟨H1, I1, q1⟩ => ?_)
  cases d with
  | true => exact ha pins s1 σ H1 Q I1 q1
  | false => exact hb pins s1 σ H1 Q I1 q1
end
end L2

namespace L2
open PySem PySem.Spec PyProof.Rows

/-! ### a list, a tuple that is read: tracked, frozen, or an object of the module -/
def SqL (K : PySem.W.Frag) (H : Hp) (a : Addr) (xs : List V) : Prop :=
  Rd H a (.lst xs) ∨
    ∃ (o : Obj) (its : Array Value) (n : Nat), K.lookup a = some o ∧ o.cls = .type "list" ∧ o.dict = none ∧ o.data = .seq its n ∧ its.size ≤ sizeLine ∧ Vals xs its.toList
def SqT (K : PySem.W.Frag) (H : Hp) (a : Addr) (xs : List V) : Prop :=
  Rd H a (.tup xs) ∨
    ∃ (o : Obj) (its : Array Value) (n : Nat), K.lookup a = some o ∧ o.cls = .type "tuple" ∧ o.data = .seq its n ∧ its.size ≤ sizeLine ∧ Vals xs its.toList
def absV : Value → Option V
  | .none => some .non
  | .bool b => some (.bl b)
  | .int i _ => some (.int i)
  | .str x _ => some (.str x)
  | .bytes b _ => some (.byt b)
  | .float b _ => some (.flt b)
  | .ref a => some (.ref a)
  | .type n => some (.ty n)
  | _ => none
theorem RelV.abs {x : V} {u : Value} (r : RelV x u) : absV u = some x := by
  cases x with
  | non => cases r; rfl
  | bl _ => cases r; rfl
  | int _ => obtain ⟨t, rfl⟩ := r; rfl
  | str _ => obtain ⟨t, rfl⟩ := r; rfl
  | byt _ => obtain ⟨t, rfl⟩ := r; rfl
  | flt _ => obtain ⟨t, rfl⟩ := r; rfl
  | ref _ => cases r; rfl
  | ty _ => cases r; rfl
theorem RelV.inj {x y : V} {u : Value} (r : RelV x u) (q : RelV y u) : x = y := Option.some.inj (r.abs.symm.trans q.abs)
theorem Vals.inj : ∀ {xs ys : List V} {us : List Value}, Vals xs us → Vals ys us → xs = ys
  | _, _, _, .nil, .nil => rfl
  | _, _, _, .cons r t, .cons r' t' => by rw [r.inj r', Vals.inj t t']
section
variable {X : Cx} {pins : List (Addr × Obj)} {σ : St} {H : Hp} {s : Shared} {a : Addr} {xs ys : List V}
theorem SqL.of {K : PySem.W.Frag} (h : H a = some (.lst xs)) : SqL K H a xs := .inl (.inl h)
theorem SqT.of {K : PySem.W.Frag} (h : H a = some (.tup xs)) : SqT K H a xs := .inl (.inl h)
theorem Inv.list (I : Inv X pins σ H s) (h : SqL X.K H a xs) : ∃ its : List Value, Vals xs its ∧ PlainL s.heap a its.toArray ∧ xs.length ≤ sizeLine := by
  rcases h with h | ⟨o, its, n, hk, hc, hd, hs, hz, r⟩
  · obtain ⟨z, its, n, r, e⟩ := h.ok I.hok
    exact ⟨its, r, ⟨_, n, e, rfl, rfl, rfl⟩, z⟩
  · refine ⟨its.toList, r, ⟨o, n, I.kIn a o hk, hc, hd, by simpa using hs⟩, ?_⟩
    have e := r.length
    simp only [Array.length_toList] at e
    omega
theorem Inv.tuple (I : Inv X pins σ H s) (h : SqT X.K H a xs) : ∃ its : List Value, Vals xs its ∧ IsTup s.heap a its.toArray ∧ xs.length ≤ sizeLine := by
  rcases h with h | ⟨o, its, n, hk, hc, hs, hz, r⟩
  · obtain ⟨z, its, r, p⟩ := h.ok I.hok
    exact ⟨its, r, p, z⟩
  · refine ⟨its.toList, r, ⟨o, I.kIn a o hk, hc, n, by simpa using hs⟩, ?_⟩
    have e := r.length
    simp only [Array.length_toList] at e
    omega
theorem Inv.list_inj (I : Inv X pins σ H s) (h : SqL X.K H a xs) (h' : SqL X.K H a ys) : xs = ys := by
  obtain ⟨its, r, ⟨o, n, e, _, _, d⟩, _⟩ := I.list h
  obtain ⟨its', r', ⟨o', n', e', _, _, d'⟩, _⟩ := I.list h'
  rw [e] at e'; cases e'
  rw [d] at d'
  injection d' with d1 _
  have : its = its' := by simpa using congrArg Array.toList d1
  subst this
  exact r.inj r'
theorem Inv.tuple_inj (I : Inv X pins σ H s) (h : SqT X.K H a xs) (h' : SqT X.K H a ys) : xs = ys := by
  obtain ⟨its, r, ⟨o, e, _, n, d⟩, _⟩ := I.tuple h
  obtain ⟨its', r', ⟨o', e', _, n', d'⟩, _⟩ := I.tuple h'
  rw [e] at e'; cases e'
  rw [d] at d'
  injection d' with d1 _
  have : its = its' := by simpa using congrArg Array.toList d1
  subst this
  exact r.inj r'
end

/-! ### another wish about exceptions -/
abbrev Cx.wish (X : Cx) (E : Value → Shared → Prop) : Cx := { X with xe := E }
/-- no exception leaves -/
abbrev Cx.nox (X : Cx) : Cx := X.wish fun _ _ => False
theorem Cx.Ok.wish {X : Cx} (ok : X.Ok) (E : Value → Shared → Prop) : (X.wish E).Ok :=
  ⟨ok.mod, ok.kind, ok.glob, ok.blt, ok.above, ok.inj, ok.has, ok.cab, ok.hd, ok.frames, ok.stk, ok.exf, ok.bs, ok.bsz, ok.noex, ok.exfs, ok.funs, ok.frf⟩
theorem Cx.Ok.unwish {X : Cx} {E : Value → Shared → Prop} (ok : (X.wish E).Ok) : X.Ok :=
  ⟨ok.mod, ok.kind, ok.glob, ok.blt, ok.above, ok.inj, ok.has, ok.cab, ok.hd, ok.frames, ok.stk, ok.exf, ok.bs, ok.bsz, ok.noex, ok.exfs, ok.funs, ok.frf⟩
section
variable {X : Cx} {pins : List (Addr × Obj)} {σ : St} {H : Hp} {s : Shared} {E : Value → Shared → Prop}
theorem Inv.wish (I : Inv X pins σ H s) (E : Value → Shared → Prop) : Inv (X.wish E) pins σ H s := ⟨I.ok.wish E, I.os, I.bare, I.base, I.loc, I.cell, I.free, I.freeC, I.pin, I.hok, I.len⟩
theorem Inv.unwish (I : Inv (X.wish E) pins σ H s) : Inv X pins σ H s := ⟨I.ok.unwish, I.os, I.bare, I.base, I.loc, I.cell, I.free, I.freeC, I.pin, I.hok, I.len⟩
theorem SP.unwish {D : Ends} {f : Flow} {s' : Shared} (h : SP (X.wish E) pins D f s') : SP X pins D f s' := by
  cases f with
  | next => obtain ⟨σ', H', I, q⟩ := h; exact ⟨σ', H', I.unwish, q⟩
  | brk => obtain ⟨σ', H', I, q⟩ := h; exact ⟨σ', H', I.unwish, q⟩
  | cont => obtain ⟨σ', H', I, q⟩ := h; exact ⟨σ', H', I.unwish, q⟩
  | ret u => obtain ⟨v, σ', H', I, r, q⟩ := h; exact ⟨v, σ', H', I.unwish, r, q⟩
theorem PE.nox {e : Expr} {t : TE} (h : PE X.nox e t) : PE X e t := fun pins s σ H Q I hw =>
  wpAny_mono (h pins s σ H Q (I.wish _) hw) (fun _ _ ⟨v, H', I', r, q⟩ => ⟨v, H', I'.unwish, r, q⟩) fun _ _ z => False.elim z
theorem PT.nox {e : Expr} {t : TT} (h : PT X.nox e t) : PT X e t := fun pins s σ H Q I hw =>
  wpAny_mono (h pins s σ H Q (I.wish _) hw) (fun _ _ ⟨H', I', q⟩ => ⟨H', I'.unwish, q⟩) fun _ _ z => False.elim z
theorem PSs.nox {st : List Stmt} {t : TS} (h : PSs X.nox st t) : PSs X st t := fun pins s σ H D I hw =>
  wpAny_mono (h pins s σ H D (I.wish _) hw) (fun _ _ q => q.unwish) fun _ _ z => False.elim z
end

/-! ### blocks and small statements -/
section
variable {X : Cx} {st : Stmt} {rest : List Stmt} {t u : TS} {e : Expr} {te : TE} {pos : Pos}
def tNext : TS := fun D σ H => D.nx σ H
def tSeq (t u : TS) : TS := fun D σ H => t { D with nx := u D } σ H
theorem pss_nil : PSs X [] tNext := fun _ _ σ H _ I h => wpAny_execs_nil ⟨σ, H, I, h⟩
theorem pss_cons (h1 : PS X st t) (h2 : PSs X rest u) : PSs X (st :: rest) (tSeq t u) := by
  intro pins s σ H D I h
  refine wpAny_execs_cons (thn (h1 pins s σ H { D with nx := u D } I h) fun f s1 q => ?_)
  cases f with
  | next =>
    obtain ⟨σ', H', I', q⟩ := q
    exact h2 pins s1 σ' H' D I' q
  | ret v => exact q
  | brk => exact q
  | cont => exact q
theorem pss_one (h1 : PS X st t) : PSs X [st] t := by
  intro pins s σ H D I h
  refine wpAny_execs_cons (thn (h1 pins s σ H D I h) fun f s1 q => ?_)
  cases f with
  | next => exact wpAny_execs_nil q
  | ret v => exact q
  | brk => exact q
  | cont => exact q
def tBreak : TS := fun D σ H => D.bk σ H
def tCont : TS := fun D σ H => D.ct σ H
theorem ps_pass : PS X (.Pass pos) tNext := fun _ _ σ H _ I h => wpAny_Pass ⟨σ, H, I, h⟩
theorem ps_break : PS X (.Break pos) tBreak := fun _ _ σ H _ I h => wpAny_Break ⟨σ, H, I, h⟩
theorem ps_continue : PS X (.Continue pos) tCont := fun _ _ σ H _ I h => wpAny_Continue ⟨σ, H, I, h⟩
/-- in a def's body nothing is shown -/
theorem Inv.quiet {pins : List (Addr × Obj)} {σ : St} {H : Hp} {s : Shared} (I : Inv X pins σ H s) : interactive X.env = false := by simp [interactive, I.ok.kind]
/-- a docstring -/
theorem ps_doc {x j pos pos'} : PS X (.Expr (.Constant (.str x) j pos) pos') tNext := fun _ s σ H _ I h => wpAny_Expr (Calls.Constant_str (show SP X _ _ .next { s with toks := s.toks + 1 } from ⟨σ, H, I.tok _, h⟩)) I.quiet
/-- an expression whose value is dropped -/
def tDrop (te : TE) : TS := fun D σ H => te σ H fun _ H1 => D.nx σ H1
theorem ps_expr (he : PE X e te) (hs : swapsWith e none pos.line X.env = pure false := by rfl) : PS X (.Expr e pos) (tDrop te) := by
  intro pins s σ H D I h
  exact wpAny_Expr_any (thn (he pins s σ H _ I h) fun v s1 ⟨x, H1, I1, r1, q1⟩ => ⟨σ, H1, I1, q1⟩) I.quiet hs
def tRet (te : TE) : TS := fun D σ H => te σ H D.rt
theorem ps_ret (he : PE X e te) : PS X (.Return (some e) pos) (tRet te) := by
  intro pins s σ H D I h
  exact wpAny_Return_some (thn (he pins s σ H _ I h) fun v s1 ⟨x, H1, I1, r1, q1⟩ => ⟨x, σ, H1, I1, r1, q1⟩)
def tRetN : TS := fun D _ H => D.rt .non H
theorem ps_retN : PS X (.Return none pos) tRetN := fun _ _ σ H _ I h => wpAny_Return_none ⟨.non, σ, H, I, rfl, h⟩
def tIfS (c : TT) (t u : TS) : TS := fun D σ H => c σ H fun b H1 => if b = true then t D σ H1 else u D σ H1
theorem ps_if {c : Expr} {a b : List Stmt} {tc : TT} (hc : PT X c tc) (ha : PSs X a t) (hb : PSs X b u) : PS X (.If c a b pos) (tIfS tc t u) := by
  intro pins s σ H D I h
  refine wpAny_If (thn (hc pins s σ H _ I h) fun d s1 ⟨H1, I1, q1⟩ => ?_)
  cases d with
  | true => exact ha pins s1 σ H1 D I1 q1
  | false => exact hb pins s1 σ H1 D I1 q1
/-- code that the proof never comes to -/
def tNever : TS := fun _ _ _ => False
theorem ps_never : PS X st tNever := fun _ _ _ _ _ _ h => h.elim
theorem pss_never {sts : List Stmt} : PSs X sts tNever := fun _ _ _ _ _ _ h => h.elim
end

/-! ### targets -/
abbrev TG := V → St → Hp → (St → Hp → Prop) → Prop
abbrev TGs := List V → St → Hp → (St → Hp → Prop) → Prop
def PG (X : Cx) (target : Expr) (t : TG) : Prop :=
  ∀ (pins : List (Addr × Obj)) (s : Shared) (σ : St) (H : Hp) (v : V) (u : Value) (Q : St → Hp → Prop), Inv X pins σ H s → RelV v u → t v σ H Q →
    wpAny (model X.prog X.w) X.A (assign target X.env u) (fun _ s' => ∃ σ' H', Inv X pins σ' H' s' ∧ Q σ' H') X.xe s
/-- several targets, one after another -/
def PGs (X : Cx) (ts : List Expr) (t : TGs) : Prop :=
  ∀ (pins : List (Addr × Obj)) (s : Shared) (σ : St) (H : Hp) (vs : List V) (us : List Value) (Q : St → Hp → Prop), Inv X pins σ H s → Vals vs us → t vs σ H Q →
    wpAny (model X.prog X.w) X.A (assignInOrder ((assignEach ts X.env).map (·.2)) us) (fun _ s' => ∃ σ' H', Inv X pins σ' H' s' ∧ Q σ' H') X.xe s
/-- o[i] = v, by values -/
abbrev TSet := V → V → V → Hp → (Hp → Prop) → Prop
def PSet (X : Cx) (t : TSet) : Prop :=
  ∀ (pins : List (Addr × Obj)) (s : Shared) (σ : St) (H : Hp) (o i v : V) (ov iv u : Value) (Q : Hp → Prop), Inv X pins σ H s → RelV o ov → RelV i iv → RelV v u → t o i v H Q →
    wpAny (model X.prog X.w) X.A (setItem ov iv u) (fun _ s' => ∃ H', Inv X pins σ H' s' ∧ Q H') X.xe s
/-- a op= b, by values -/
abbrev TIp := V → V → Hp → VK → Prop
def PIp (X : Cx) (op : Operator) (t : TIp) : Prop :=
  ∀ (pins : List (Addr × Obj)) (s : Shared) (σ : St) (H : Hp) (x y : V) (v u : Value) (Q : VK), Inv X pins σ H s → RelV x v → RelV y u → t x y H Q →
    wpAny (model X.prog X.w) X.A (inplaceOp op v u) (EP X pins σ Q) X.xe s
section
variable {X : Cx} {pos : Pos}
def gName (i : Nat) : TG := fun v σ H Q => Q (σ.set i (some v)) H
theorem pg_name {i : Nat} {x : Str} (hN : X.N.Nodup) (hi : X.N[i]? = some x) (hx : Loc X.env.scope x) (hf : X.fn x = true ∨ X.env.scope.names.lookup x = some .local := by first | exact .inl rfl | exact .inr rfl | assumption) : PG X (.Name x pos) (gName i) := by
  intro pins s σ H v u Q I r h
  exact wpAny_assign_Name (store_ok I hN hi hx r (fun s' I' => ⟨_, H, I', h⟩) hf)
def gNil : TGs := fun vs σ H Q => vs = [] ∧ Q σ H
def gCons (t : TG) (u : TGs) : TGs := fun vs σ H Q => ∃ v r, vs = v :: r ∧ t v σ H fun σ' H' => u r σ' H' Q
theorem pgs_nil : PGs X [] gNil := by
  intro pins s σ H vs us Q I r h
  obtain ⟨e, h⟩ := h
  subst e
  cases r
  exact assignInOrder_nil ⟨σ, H, I, h⟩
theorem pgs_cons {e : Expr} {es : List Expr} {t : TG} {u : TGs} (h1 : PG X e t) (h2 : PGs X es u)
    (hs : (assignEach (e :: es) X.env).map (·.2) = assign e X.env :: (assignEach es X.env).map (·.2) := by rfl) : PGs X (e :: es) (gCons t u) := by
  intro pins s σ H vs us Q I r h
  obtain ⟨v, vr, e1, h⟩ := h
  subst e1
  cases r with
  | cons r rr =>
    rw [hs]
    refine assignInOrder_cons (thn (h1 pins s σ H _ _ _ I r h) fun _ s1 ⟨σ1, H1, I1, q1⟩ => ?_)
    exact h2 pins s1 σ1 H1 _ _ Q I1 rr q1
/-- (a, b, ..) = a tuple of that length -/
def gTup (K : PySem.W.Frag) (n : Nat) (t : TGs) : TG := fun v σ H Q => ∃ a xs, v = .ref a ∧ SqT K H a xs ∧ xs.length = n ∧ t xs σ H Q
theorem pg_tup {es : List Expr} {k : Nat} {t : TGs} {n : Nat} (hc : X.calm = true) (h : PGs X es t)
    (hn : (assignEach es X.env).length = n := by rfl) (hst : (assignEach es X.env).findIdx? (·.1) = none := by rfl) : PG X (.Tuple es k pos) (gTup X.K n t) := by
  intro pins s σ H v u Q I r hw
  obtain ⟨a, xs, e1, hq, hl, hw⟩ := hw
  subst e1
  cases r
  obtain ⟨its, rv, ht, hz⟩ := I.tuple hq
  refine assign_Tuple_tuple (I.ok.hd hc) ht (by simp [hn, ← hl, rv.length]) hst fun h' hx => ?_
  have I1 : Inv X pins σ H { s with heap := h' } := I.kept (t' := s.toks) fun b o e => hx b o (Nat.ne_of_lt (Heap.lt_size e)) e
  exact h pins _ σ H xs _ Q I1 (by simpa using rv) hw
/-- o[i] = .. -/
def gSub (to ti : TE) (t : TSet) : TG := fun v σ H Q => to σ H fun o H1 => ti σ H1 fun i H2 => t o i v H2 fun H3 => Q σ H3
theorem pg_sub {o i : Expr} {to ti : TE} {t : TSet} (ho : PE X o to) (hi : PE X i ti) (hs : PSet X t)
    (ha : ∀ v, assign (.Subscript o i pos) X.env v = (do
      let ov ← holding [v] (eval o X.env)
      let iv ← holding [v, ov] (eval i X.env)
      standAt pos
      holding [v, ov, iv] (setItem ov iv v)
      release [v, ov, iv] []) := by intro _; rfl) : PG X (.Subscript o i pos) (gSub to ti t) := by
  intro pins s σ H v u Q I r h
  rw [ha]
  refine wpAny_bind (wpAny_holding (thn (ho pins s σ H _ I h) fun ov s1 ⟨x, H1, I1, r1, q1⟩ => ?_))
  refine wpAny_bind (wpAny_holding (thn (hi pins s1 σ H1 _ I1 q1) fun iv s2 ⟨y, H2, I2, r2, q2⟩ => ?_))
  refine wpAny_bind (wpAny_standAt (wpAny_bind (wpAny_holding (thn (hs pins s2 σ H2 x y v ov iv u _ I2 r1 r2 r q2) fun _ s3 ⟨H3, I3, q3⟩ => ?_))))
  exact wpAny_release ⟨σ, H3, I3, q3⟩
/-- target = value -/
def tAsg (te : TE) (g : TG) : TS := fun D σ H => te σ H fun x H1 => g x σ H1 D.nx
theorem ps_asg {tg e : Expr} {te : TE} {g : TG} (he : PE X e te) (hg : PG X tg g) (hs : swapsWithSole [tg] e pos.line X.env = pure false := by rfl) (hw : swappedStores [tg] e X.env = pure none := by rfl)
    (h1 : (assignEach [tg] X.env).map (·.2) = [assign tg X.env] := by rfl) : PS X (.Assign [tg] e pos) (tAsg te g) := by
  intro pins s σ H D I h
  refine wpAny_Assign_stores (thn (he pins s σ H _ I h) fun v s1 ⟨x, H1, I1, r1, q1⟩ => ?_) hs hw
  rw [h1]
  exact thn (hg pins s1 σ H1 x v _ I1 r1 q1) fun _ s2 q => q
/-- name = value -/
theorem ps_set {i : Nat} {x : Str} {e : Expr} {te : TE} {pos' : Pos} (hN : X.N.Nodup) (hi : X.N[i]? = some x) (hx : Loc X.env.scope x) (he : PE X e te) (hs : swapsWith e (some (.Name x pos')) pos.line X.env = pure false := by rfl) (hf : X.fn x = true ∨ X.env.scope.names.lookup x = some .local := by first | exact .inl rfl | exact .inr rfl | assumption) :
    PS X (.Assign [.Name x pos'] e pos) (tAsg te (gName i)) := by
  intro pins s σ H D I h
  refine wpAny_Assign_Name (thn (he pins s σ H _ I h) fun v s1 ⟨y, H1, I1, r1, q1⟩ => ?_) hs
  exact store_ok I1 hN hi hx r1 (fun s2 I2 => ⟨_, H1, I2, q1⟩) hf
/-- a, b = x, y with plain local names: stored from the right; the pair itself is not tracked (the opening rows as in PyProof/Rows/TupAssign.lean:23) -/
def tPar (i j : Nat) (ta : TA) : TS := fun D σ H => ta σ H fun vs H1 => ∃ v w, vs = [v, w] ∧ D.nx ((σ.set i (some v)).set j (some w)) H1
theorem ps_par {i j : Nat} {x y : Str} {a b : Expr} {ta : TA} {px py pt : Pos} {kt k2 pt2} (hc : X.calm = true) (hN : X.N.Nodup) (hi : X.N[i]? = some x) (hj : X.N[j]? = some y) (hij : i ≠ j)
    (hx : X.env.scope.names.lookup x = some .local) (hy : X.env.scope.names.lookup y = some .local) (ha : PA X [a, b] ta)
    (hw : swappedStores [.Tuple [.Name x px, .Name y py] kt pt] (.Tuple [a, b] k2 pt2) X.env = pure (some [x, y]))
    (hs : swapsWithSole [.Tuple [.Name x px, .Name y py] kt pt] (.Tuple [a, b] k2 pt2) pos.line X.env = pure false := by rfl) :
    PS X (.Assign [.Tuple [.Name x px, .Name y py] kt pt] (.Tuple [a, b] k2 pt2) pos) (tPar i j ta) := by
  intro pins s σ H D I h
  rw [exec_Assign_arm]
  refine wpAny_bind (wpAny_standAt ?_)
  rw [hs]
  refine wpAny_bind (wpAny_pure ?_)
  rw [if_neg (by decide)]
  refine wpAny_bind (Tuple_ (thn (ha _ pins s σ H _ I h) fun us s1 ⟨vs, H1, I1, r1, q1⟩ => ?_))
  obtain ⟨v, w, e1, q1⟩ := q1
  subst e1
  obtain ⟨u1, u2, rfl, rv, rw'⟩ : ∃ u1 u2, us = [u1, u2] ∧ RelV v u1 ∧ RelV w u2 := by
    cases r1 with
    | cons p q =>
      cases q with
      | cons p' q' =>
        cases q'
        exact ⟨_, _, rfl, p, p'⟩
  refine wpAny_newObj_type ?_ (by show 2 ≤ sizeLine; decide)
  have I2 : Inv X pins σ H1 { s1 with heap := s1.heap.push { cls := .type "tuple", data := .seq [u1, u2].toArray } } := I1.kept (t' := s1.toks) fun b o e => Heap.get?_push_of_some _ e
  rw [hw]
  refine wpAny_bind (wpAny_pure ?_)
  show wpAny (model X.prog X.w) X.A (do rule "assign.swapped-stores"; let items ← unpackItems (.ref s1.heap.objs.size) 2 none; assignInOrder [fun v => bindName X.env y v, fun v => bindName X.env x v] items.reverse; pure Flow.next) _ _ _
  refine wpAny_bind (wpAny_rule (wpAny_bind (unpackItems_tuple (items := #[u1, u2]) (I.ok.hd hc) (IsTup.new s1.heap _) fun h' hx' => ?_)))
  have I3 := I2.kept (h' := h') (t' := s1.toks) fun b o e => hx' b o (Nat.ne_of_lt (Heap.lt_size e)) e
  show wpAny _ _ (assignInOrder [fun v => bindName X.env y v, fun v => bindName X.env x v] [u2, u1] >>= fun _ => pure Flow.next) _ _ _
  refine wpAny_bind (assignInOrder_cons (wpAny_bindName (store_ok I3 hN hj (.inl hy) rw' (fun s2 I4 => ?_) (.inr hy))))
  refine assignInOrder_cons (wpAny_bindName (store_ok I4 hN hi (.inl hx) rv (fun s3 I5 => assignInOrder_nil (wpAny_pure ?_)) (.inr hx)))
  rw [List.set_comm _ _ (Ne.symm hij)] at I5
  exact ⟨_, H1, I5, q1⟩
/-- name op= e -/
def tAug (i : Nat) (te : TE) (ti : TIp) : TS := fun D σ H => ∃ x, σ[i]? = some (some x) ∧ te σ H fun y H1 => ti x y H1 fun z H2 => D.nx (σ.set i (some z)) H2
theorem ps_aug {i : Nat} {x : Str} {e : Expr} {te : TE} {op : Operator} {ti : TIp} {pos' : Pos} (hN : X.N.Nodup) (hi : X.N[i]? = some x) (hx : Loc X.env.scope x) (he : PE X e te) (ho : PIp X op ti) (hf : X.fn x = true ∨ X.env.scope.names.lookup x = some .local := by first | exact .inl rfl | exact .inr rfl | assumption) :
    PS X (.AugAssign (.Name x pos') op e pos) (tAug i te ti) := by
  intro pins s σ H D I h
  obtain ⟨v, e1, h⟩ := h
  obtain ⟨m, hn, hl⟩ := I.loc
  have vis : Vis X.env.scope x := by rcases hx with k | k; exact .inl k; exact .inr (.inl k)
  obtain ⟨u, r, l⟩ := hl i x v hi e1 vis
  refine wpAny_AugAssign_Name ?_
  have go : wpAny (model X.prog X.w) X.A (eval e X.env) (fun w s₂ => wpAny (model X.prog X.w) X.A (inplaceOp op u w) (fun r s₃ => wpAny (model X.prog X.w) X.A (storeName X.env x r) (fun _ => SP X pins D .next) X.xe s₃) X.xe s₂) X.xe s := by
    refine thn (he pins s σ H _ I h) fun w s1 ⟨y, H1, I1, r1, q1⟩ => ?_
    refine thn (ho pins s1 σ H1 v y u w _ I1 r r1 q1) fun z s2 ⟨zv, H2, I2, r2, q2⟩ => ?_
    exact store_ok I2 hN hi hx r2 (fun s3 I3 => ⟨_, H2, I3, q2⟩) hf
  rcases l with ⟨hk, hm⟩ | ⟨hk, c, hc, hcell⟩
  · exact wpAny_loadName_local I.ok.kind hk hn hm go
  · rcases hk with hk | hk
    · exact wpAny_loadName_cell I.ok.kind hk hc hcell go
    · rcases hx with k | k
      · have : X.env.scope.names.lookup x = some .free := hk
        rw [k] at this; cases this
      · have : X.env.scope.names.lookup x = some .free := hk
        rw [k] at this; cases this
/-- o[i] op= e -/
def tAugS (to ti te : TE) (tget : V → V → Hp → VK → Prop) (tip : TIp) (tset : TSet) : TS := fun D σ H => to σ H fun o H1 => ti σ H1 fun i H2 => tget o i H2 fun x H3 => te σ H3 fun y H4 => tip x y H4 fun z H5 => tset o i z H5 fun H6 => D.nx σ H6
/-- o[i], by values -/
def PGet (X : Cx) (t : V → V → Hp → VK → Prop) : Prop :=
  ∀ (pins : List (Addr × Obj)) (s : Shared) (σ : St) (H : Hp) (o i : V) (ov iv : Value) (Q : VK), Inv X pins σ H s → RelV o ov → RelV i iv → t o i H Q →
    wpAny (model X.prog X.w) X.A (getItem ov iv) (EP X pins σ Q) X.xe s
theorem ps_augS {o i e : Expr} {to ti te : TE} {tget : V → V → Hp → VK → Prop} {tip : TIp} {tset : TSet} {op : Operator} {tpos : Pos} (ho : PE X o to) (hi : PE X i ti) (hg : PGet X tget) (he : PE X e te) (hp : PIp X op tip) (hs : PSet X tset)
    (ha : ∀ ov iv new, augStore i ov iv new = (do holding [new, ov, iv] (setItem ov iv new); release [new, ov, iv] []; pure .next) := by intros; rfl) : PS X (.AugAssign (.Subscript o i tpos) op e pos) (tAugS to ti te tget tip tset) := by
  intro pins s σ H D I h
  refine wpAny_AugAssign_SubscriptAny (thn (ho pins s σ H _ I h) fun ov s1 ⟨x1, H1, I1, r1, q1⟩ => ?_) ha
  refine thn (hi pins s1 σ H1 _ I1 q1) fun iv s2 ⟨x2, H2, I2, r2, q2⟩ => ?_
  refine thn (hg pins s2 σ H2 x1 x2 ov iv _ I2 r1 r2 q2) fun old s3 ⟨x3, H3, I3, r3, q3⟩ => ?_
  refine thn (he pins s3 σ H3 _ I3 q3) fun v s4 ⟨x4, H4, I4, r4, q4⟩ => ?_
  refine thn (hp pins s4 σ H4 x3 x4 old v _ I4 r3 r4 q4) fun new s5 ⟨x5, H5, I5, r5, q5⟩ => ?_
  exact thn (hs pins s5 σ H5 x1 x2 x5 ov iv new _ I5 r1 r2 r5 q5) fun _ s6 ⟨H6, I6, q6⟩ => ⟨σ, H6, I6, q6⟩
/-- ints -/
def ipI (f : Int → Int → Int) : TIp := fun x y H Q => ∃ i j, x = .int i ∧ y = .int j ∧ Q (.int (f i j)) H
theorem ip_add : PIp X .Add (ipI fun i j => i + j) := by
  intro pins s σ H x y v u Q I r1 r2 h
  obtain ⟨i, j, e1, e2, q⟩ := h
  subst e1; subst e2
  obtain ⟨t, rfl⟩ := r1
  obtain ⟨t', rfl⟩ := r2
  exact iadd_int ⟨.int _, H, I.tok _, ⟨_, rfl⟩, q⟩
theorem ip_sub : PIp X .Sub (ipI fun i j => i - j) := by
  intro pins s σ H x y v u Q I r1 r2 h
  obtain ⟨i, j, e1, e2, q⟩ := h
  subst e1; subst e2
  obtain ⟨t, rfl⟩ := r1
  obtain ⟨t', rfl⟩ := r2
  exact isub_int ⟨.int _, H, I.tok _, ⟨_, rfl⟩, q⟩
end

/-! ### while -/
section
variable {X : Cx} {pos : Pos}
/-- the invariant W with its measure -/
def tWhile (c : TT) (tb : TS) : TS := fun D σ H => ∃ W : Nat → St → Hp → Prop, (∃ m, W m σ H) ∧ ∀ m σ H, W m σ H →
  c σ H fun b H1 => if b = true then ∃ N : St → Hp → Prop, (∀ σ' H', N σ' H' → ∃ m', m' < m ∧ W m' σ' H') ∧ tb { D with nx := N, ct := N, bk := D.nx } σ H1 else D.nx σ H1
theorem ps_while {c : Expr} {body : List Stmt} {tc : TT} {tb : TS} (hp : PassesOwn (model X.prog X.w) X.A X.env X.xe) (hc : PT X c tc) (hb : PSs X body tb) : PS X (.While c body [] pos) (tWhile tc tb) := by
  intro pins s σ H D I h
  obtain ⟨W, ⟨m0, w0⟩, turn⟩ := h
  refine wpAny_While (codeAny_whileLoop (fun n s' => ∃ σ' H', Inv X pins σ' H' s' ∧ W n σ' H') ?_ m0 ⟨σ, H, I, w0⟩)
  rintro n s1 ⟨σ1, H1, I1, w1⟩
  refine wpAny_passesOwn hp (thn (hc pins s1 σ1 H1 _ I1 (turn n σ1 H1 w1)) fun b s2 ⟨H2, I2, q2⟩ => ?_)
  cases b with
  | true =>
    obtain ⟨N, hN, q2⟩ := q2
    rw [if_pos rfl]
    refine wpAny_passesOwn hp (thn (hb pins s2 σ1 H2 _ I2 q2) fun f s3 q3 => ?_)
    cases f with
    | next =>
      obtain ⟨σ3, H3, I3, n3⟩ := q3
      obtain ⟨m', hm, w3⟩ := hN σ3 H3 n3
      exact ⟨m', hm, σ3, H3, I3, w3⟩
    | cont =>
      obtain ⟨σ3, H3, I3, n3⟩ := q3
      obtain ⟨m', hm, w3⟩ := hN σ3 H3 n3
      exact ⟨m', hm, σ3, H3, I3, w3⟩
    | brk => exact q3
    | ret v => exact q3
  | false =>
    rw [if_neg Bool.false_ne_true]
    exact wpAny_execs_nil ⟨σ1, H2, I2, q2⟩
end

/-! ### what a loop or a comprehension walks -/
/-- at turn i: it yields x (the heap may grow), or it stops -/
structure It where
  go : Nat → Hp → Prop
  yld : Nat → Hp → V → Hp → Prop
  stop : Nat → Hp → Prop
/-- the iterator's own objects may turn: they are not the frame's, not pinned, younger than the entry (or a comprehension's own) -/
def FpOk (X : Cx) (pins : List (Addr × Obj)) (H : Hp) (b : Addr) : Prop :=
  H b = none ∧ b ≠ X.env.locals ∧ b ∉ X.fs ∧ (b ∈ X.ex ∨ X.s₀.heap.objs.size ≤ b) ∧ (∀ x c, X.env.cells.lookup x = some c → c ≠ b) ∧ ∀ p ∈ X.pn ++ pins, p.1 ≠ b
theorem Inv.fpOk {X : Cx} {pins : List (Addr × Obj)} {σ : St} {H H' : Hp} {s : Shared} {b : Addr} (I : Inv X pins σ H s) (hb : s.heap.objs.size ≤ b) (hn : H' b = none) : FpOk X pins H' b := by
  refine ⟨hn, Nat.ne_of_gt (Nat.lt_of_lt_of_le I.lt hb), I.nofs hb, .inr (Nat.le_trans I.sz hb), fun x c e z => ?_, fun p hp z => ?_⟩
  · obtain ⟨v, q⟩ := I.cell x c e
    exact absurd (Nat.lt_of_lt_of_le q.lt (by rw [z]; exact hb)) (Nat.lt_irrefl _)
  · exact absurd (Nat.lt_of_lt_of_le (Heap.lt_size (I.pin p hp).1) (by rw [z]; exact hb)) (Nat.lt_irrefl _)
structure Turn (P : Program) (w : World) (K : PySem.W.Frag) (tg : Expr) (J : It) (fp : List Addr) (it : Addr) (tn : Nat → Heap → Prop) : Prop where
  mem : it ∈ fp
  obj : ∀ i h, tn i h → ∀ b ∈ fp, ∃ o, h.get? b = some o ∧ ∀ v, o.data ≠ .cell v
  keep : ∀ i h h', tn i h → (∀ b ∈ fp, ∀ o, h.get? b = some o → h'.get? b = some o) → tn i h'
  item : ∀ (X : Cx), X.prog = P → X.w = w → X.K = K → X.calm = true → ∀ (i : Nat) (pins : List (Addr × Obj)) (s : Shared) (σ : St) (H : Hp) (E : Value → Shared → Prop), Inv X pins σ H s → (∀ b ∈ fp, FpOk X pins H b) → tn i s.heap → J.go i H →
    wpAny (model P w) X.A (pyNext (.ref it)) (fun r s1 => ∃ u, r = some u ∧
      wpAny (model P w) X.A (letOwnedTupleGo tg (.ref it) u) (fun _ s2 => ∃ x H', Inv X pins σ H' s2 ∧ RelV x u ∧ J.yld i H x H' ∧ tn (i + 1) s2.heap ∧ ∀ b ∈ fp, H' b = none) E s1) E s
  done : ∀ (X : Cx), X.prog = P → X.w = w → X.K = K → X.calm = true → ∀ (i : Nat) (pins : List (Addr × Obj)) (s : Shared) (σ : St) (H : Hp) (E : Value → Shared → Prop), Inv X pins σ H s → (∀ b ∈ fp, FpOk X pins H b) → tn i s.heap → J.stop i H →
    wpAny (model P w) X.A (pyNext (.ref it)) (fun r s1 => r = none ∧ Inv X pins σ H s1) E s
  self : ∀ (A : Around) (i : Nat) (s : Shared) (Q : Value → Shared → Prop) (E : Value → Shared → Prop), tn i s.heap → Q (.ref it) s → wpAny (model P w) A (pyIter (.ref it)) Q E s
abbrev TI := St → Hp → (It → Hp → Prop) → Prop
/-- an iterator has come -/
def PIE (X : Cx) (pins : List (Addr × Obj)) (σ : St) (tg : Expr) (R : It → Hp → Prop) (itv : Value) (s2 : Shared) : Prop :=
  ∃ (it : Addr) (fp : List Addr) (tn : Nat → Heap → Prop) (J : It) (H' : Hp), itv = .ref it ∧ Inv X pins σ H' s2 ∧ Turn X.prog X.w X.K tg J fp it tn ∧ tn 0 s2.heap ∧ (∀ b ∈ fp, FpOk X pins H' b) ∧ R J H'
def PI (X : Cx) (tg iter : Expr) (wi : TI) : Prop :=
  ∀ (pins : List (Addr × Obj)) (s : Shared) (σ : St) (H : Hp) (R : It → Hp → Prop), Inv X pins σ H s → wi σ H R →
    wpAny (model X.prog X.w) X.A (eval iter X.env) (fun v s1 => wpAny (model X.prog X.w) X.A (pyIter v) (PIE X pins σ tg R) X.xe s1) X.xe s

/-- the step ahead of the store is nothing for an iterator that keeps no tuple -/
theorem go_of {M : Model} {A : Around} {E : Value → Shared → Prop} {s : Shared} {tg : Expr} {it : Addr} {u : Value} {o : Obj} {n : String} {vs : Array Value} {Q : Unit → Shared → Prop} (ho : s.heap.get? it = some o) (hc : o.cls = .type n) (hd : o.data = .fields vs)
    (hn : ["enumerate", "zip", "dict_itemiterator", "dict_reverseitemiterator", "odict_iterator", "itertools.zip_longest", "itertools.pairwise"].contains n = false) (hQ : Q () s) : wpAny M A (letOwnedTupleGo tg (.ref it) u) Q E s := by
  unfold letOwnedTupleGo
  cases tg <;> first
    | exact wpAny_pure hQ
    | (cases u <;> first
        | exact wpAny_pure hQ
        | (refine wpAny_bind (wpAny_load ho ?_)
           rw [hc, hd]
           show wpAny M A (if (["enumerate", "zip", "dict_itemiterator", "dict_reverseitemiterator", "odict_iterator", "itertools.zip_longest", "itertools.pairwise"].contains n && vs[0]? == some (rawInt _)) = true then _ else _) Q E s
           rw [if_neg (by intro h; rw [hn, Bool.false_and] at h; cases h)]
           exact wpAny_pure hQ))

/-- the list at a, as it stands at each turn (a loop may append to it) -/
def Itl (K : PySem.W.Frag) (a : Addr) : It :=
  ⟨fun i H => ∃ xs x, SqL K H a xs ∧ xs[i]? = some x, fun i H x H' => H' = H ∧ ∀ xs, SqL K H a xs → xs[i]? = some x, fun i H => ∃ xs, SqL K H a xs ∧ xs.length ≤ i⟩
def Itt (K : PySem.W.Frag) (a : Addr) : It :=
  ⟨fun i H => ∃ xs x, SqT K H a xs ∧ xs[i]? = some x, fun i H x H' => H' = H ∧ ∀ xs, SqT K H a xs → xs[i]? = some x, fun i H => ∃ xs, SqT K H a xs ∧ xs.length ≤ i⟩
/-- lo, lo + 1, .. (n of them) -/
def Itr (lo : Int) (n : Nat) : It := ⟨fun i _ => i < n, fun i H x H' => H' = H ∧ x = .int (lo + i), fun i _ => n ≤ i⟩
theorem turn_list {P : Program} {w : World} {K : PySem.W.Frag} {tg : Expr} (a it : Addr) : Turn P w K tg (Itl K a) [it] it (fun i h => h.IsListIter it a i) where
  mem := by simp
  obj := fun i h st b hb => by
    have e : b = it := by simpa using hb
    subst e
    obtain ⟨o, e, c, d⟩ := st
    exact ⟨o, e, fun v z => by rw [d] at z; cases z⟩
  keep := fun i h h' st k => st.at fun o e => k it (by simp) o e
  item := by
    intro X hP hw hK hc i pins s σ H E I hf st hg
    subst hP hw hK
    obtain ⟨xs, x, hq, hx⟩ := hg
    obtain ⟨its, rv, p, hz⟩ := I.list hq
    obtain ⟨u, hu, ru⟩ := rv.get hx
    obtain ⟨f0, f1, f2, f3, f4, f5⟩ := hf it (by simp)
    refine wpAny_pyNext_list_item st p.isList (x := u) (by simpa using hu) fun h' st' sb => ?_
    have I1 : Inv X pins σ H { s with heap := h' } := I.turned (t' := s.toks) (fun b o hb e => (sb.2 b hb).trans e) f0 f1 f3 f4 f5
    obtain ⟨o, e, c, d⟩ := id st'
    exact ⟨u, rfl, go_of (s := { s with heap := h' }) e c d (by decide) ⟨x, H, I1, ru, ⟨rfl, fun ys hy => by rw [I.list_inj hy hq]; exact hx⟩, st', fun b hb => (hf b hb).1⟩⟩
  done := by
    intro X hP hw hK hc i pins s σ H E I hf st hg
    subst hP hw hK
    obtain ⟨xs, hq, hx⟩ := hg
    obtain ⟨its, rv, p, hz⟩ := I.list hq
    obtain ⟨f0, f1, f2, f3, f4, f5⟩ := hf it (by simp)
    have hl := rv.length
    exact wpAny_pyNext_list_end (I.ok.hd hc) st p.isList (by simp; omega) fun h' eb => ⟨rfl, I.turned (t' := s.toks) (fun b o hb e => eb b o hb e) f0 f1 f3 f4 f5⟩
  self := fun _ _ _ _ _ st h => wpAny_pyIter_listiter st h
theorem turn_tuple {P : Program} {w : World} {K : PySem.W.Frag} {tg : Expr} (a it : Addr) : Turn P w K tg (Itt K a) [it] it (fun i h => h.IsTupleIter it a i) where
  mem := by simp
  obj := fun i h st b hb => by
    have e : b = it := by simpa using hb
    subst e
    obtain ⟨o, e, c, d⟩ := st
    exact ⟨o, e, fun v z => by rw [d] at z; cases z⟩
  keep := fun i h h' st k => st.at fun o e => k it (by simp) o e
  item := by
    intro X hP hw hK hc i pins s σ H E I hf st hg
    subst hP hw hK
    obtain ⟨xs, x, hq, hx⟩ := hg
    obtain ⟨its, rv, p, hz⟩ := I.tuple hq
    obtain ⟨u, hu, ru⟩ := rv.get hx
    obtain ⟨f0, f1, f2, f3, f4, f5⟩ := hf it (by simp)
    refine wpAny_pyNext_tuple_item st (show s.heap.IsTuple a its.toArray from p) (x := u) (by simpa using hu) fun h' st' sb => ?_
    have I1 : Inv X pins σ H { s with heap := h' } := I.turned (t' := s.toks) (fun b o hb e => (sb.2 b hb).trans e) f0 f1 f3 f4 f5
    obtain ⟨o, e, c, d⟩ := id st'
    exact ⟨u, rfl, go_of (s := { s with heap := h' }) e c d (by decide) ⟨x, H, I1, ru, ⟨rfl, fun ys hy => by rw [I.tuple_inj hy hq]; exact hx⟩, st', fun b hb => (hf b hb).1⟩⟩
  done := by
    intro X hP hw hK hc i pins s σ H E I hf st hg
    subst hP hw hK
    obtain ⟨xs, hq, hx⟩ := hg
    obtain ⟨its, rv, p, hz⟩ := I.tuple hq
    obtain ⟨f0, f1, f2, f3, f4, f5⟩ := hf it (by simp)
    have hl := rv.length
    exact wpAny_pyNext_tuple_end (I.ok.hd hc) st (show s.heap.IsTuple a its.toArray from p) (by simp; omega) fun h' eb => ⟨rfl, I.turned (t' := s.toks) (fun b o hb e => eb b o hb e) f0 f1 f3 f4 f5⟩
  self := fun _ _ _ _ _ st h => wpAny_pyIter_tupleiter st h
theorem turn_range {P : Program} {w : World} {K : PySem.W.Frag} {tg : Expr} (it : Addr) (lo : Int) (n : Nat) : Turn P w K tg (Itr lo n) [it] it (fun i h => IsRangeIter h it (lo + (i : Nat) * 1) ((n : Int) - (i : Nat)) 1) where
  mem := by simp
  obj := fun i h st b hb => by
    have e : b = it := by simpa using hb
    subst e
    exact ⟨_, st, fun v z => by
      have z' : Data.fields _ = Data.cell v := z
      cases z'⟩
  keep := fun i h h' st k => k it (by simp) _ st
  item := by
    intro X hP hw hK hc i pins s σ H E I hf st hg
    subst hP hw hK
    obtain ⟨f0, f1, f2, f3, f4, f5⟩ := hf it (by simp)
    have W := Walks.range (prog := X.prog) (w := X.w) (I.ok.hd hc) it lo 1 n
    refine W.item i s _ _ hg st fun v h' tk hv st' kk => ?_
    obtain ⟨t, rfl⟩ := hv
    have I1 : Inv X pins σ H { s with heap := h', toks := tk } := I.turned (fun b o hb e => kk b o (by simpa using hb) e) f0 f1 f3 f4 f5
    refine ⟨_, rfl, go_of (s := { s with heap := h', toks := tk }) (n := "range_iterator") st' rfl rfl (by decide) ⟨.int (lo + i), H, I1, ⟨t, ?_⟩, ⟨rfl, rfl⟩, st', fun b hb => (hf b hb).1⟩⟩
    rw [Int.mul_one]
  done := by
    intro X hP hw hK hc i pins s σ H E I hf st hg
    subst hP hw hK
    obtain ⟨f0, f1, f2, f3, f4, f5⟩ := hf it (by simp)
    exact wpAny_pyNext_range_end (I.ok.hd hc) st (by have : n ≤ i := hg; omega) fun h' eb => ⟨rfl, I.turned (t' := s.toks) (fun b o hb e => eb b o hb e) f0 f1 f3 f4 f5⟩
  self := fun _ _ _ _ _ st h => wpAny_pyIter_rangeiter st h
end L2

namespace L2
open PySem PySem.Spec PyProof.Rows
section
variable {X : Cx} {tg : Expr}
def iList (K : PySem.W.Frag) (tl : TE) : TI := fun σ H R => tl σ H fun x H1 => ∃ a, x = .ref a ∧ (∃ xs, SqL K H1 a xs) ∧ R (Itl K a) H1
def iTup (K : PySem.W.Frag) (tl : TE) : TI := fun σ H R => tl σ H fun x H1 => ∃ a, x = .ref a ∧ (∃ xs, SqT K H1 a xs) ∧ R (Itt K a) H1
theorem pi_list {l : Expr} {tl : TE} (hl : PE X l tl) : PI X tg l (iList X.K tl) := by
  intro pins s σ H R I h
  refine thn (hl pins s σ H _ I h) fun v s1 ⟨x, H1, I1, r1, q1⟩ => ?_
  obtain ⟨a, e, ⟨xs, hq⟩, q⟩ := q1
  subst e
  cases r1
  obtain ⟨its, rv, p, hz⟩ := I1.list hq
  refine wpAny_pyIter_list p.isList ?_
  refine ⟨s1.heap.objs.size, [s1.heap.objs.size], _, _, H1, rfl, I1.kept (t' := s1.toks) fun b o e => Heap.get?_push_of_some _ e, turn_list a _, ⟨_, Heap.get?_push_size _ rfl, rfl, rfl⟩, fun b hb => ?_, q⟩
  have e : b = s1.heap.objs.size := by simpa using hb
  subst e
  exact I1.fpOk (Nat.le_refl _) (I1.hok.fresh (Nat.le_refl _))
theorem pi_tup {l : Expr} {tl : TE} (hl : PE X l tl) : PI X tg l (iTup X.K tl) := by
  intro pins s σ H R I h
  refine thn (hl pins s σ H _ I h) fun v s1 ⟨x, H1, I1, r1, q1⟩ => ?_
  obtain ⟨a, e, ⟨xs, hq⟩, q⟩ := q1
  subst e
  cases r1
  obtain ⟨its, rv, p, hz⟩ := I1.tuple hq
  refine wpAny_pyIter_tuple (show s1.heap.IsTuple a its.toArray from p) ?_
  refine ⟨s1.heap.objs.size, [s1.heap.objs.size], _, _, H1, rfl, I1.kept (t' := s1.toks) fun b o e => Heap.get?_push_of_some _ e, turn_tuple a _, ⟨_, Heap.get?_push_size _ rfl, rfl, rfl⟩, fun b hb => ?_, q⟩
  have e : b = s1.heap.objs.size := by simpa using hb
  subst e
  exact I1.fpOk (Nat.le_refl _) (I1.hok.fresh (Nat.le_refl _))
/-- a range object just made, walked -/
theorem range_it {pins : List (Addr × Obj)} {σ : St} {H : Hp} {s : Shared} {R : It → Hp → Prop} {E : Value → Shared → Prop} {lo hi : Int} {t u v : Tok} {tk : Nat} (I : Inv X pins σ H s) (h1 : -(2 ^ 62) ≤ lo) (h2 : lo < 2 ^ 62) (h3 : -(2 ^ 62) ≤ hi) (h4 : hi < 2 ^ 62)
    (q : R (Itr lo (hi - lo).toNat) H) : wpAny (model X.prog X.w) X.A (pyIter (.ref s.heap.objs.size)) (PIE X pins σ tg R) E { s with heap := s.heap.push { cls := .type "range", data := .fields #[.int lo t, .int hi u, .int 1 v] }, toks := tk } := by
  refine wpAny_pyIter_range (IsRange.new ..) (small_one h1 h2 h3 h4) ?_
  have I1 : Inv X pins σ H { s with heap := s.heap.push { cls := .type "range", data := .fields #[.int lo t, .int hi u, .int 1 v] }, toks := tk } := I.kept fun b o e => Heap.get?_push_of_some _ e
  refine ⟨(s.heap.push { cls := .type "range", data := .fields #[.int lo t, .int hi u, .int 1 v] }).objs.size, [(s.heap.push { cls := .type "range", data := .fields #[.int lo t, .int hi u, .int 1 v] }).objs.size], _, _, H, rfl,
    I1.kept (t' := tk) fun b o e => Heap.get?_push_of_some _ e, turn_range _ lo (hi - lo).toNat, ?_, fun b hb => ?_, q⟩
  · have e1 : lo + ((0 : Nat) : Int) * 1 = lo := by simp
    have e2 : (((hi - lo).toNat : Nat) : Int) - ((0 : Nat) : Int) = Builtin.Range.rangeSize lo hi 1 := by rw [rangeSize_one]; split <;> omega
    show IsRangeIter _ _ (lo + ((0 : Nat) : Int) * 1) ((((hi - lo).toNat : Nat) : Int) - ((0 : Nat) : Int)) 1
    rw [e1, e2]
    exact Heap.get?_push_size _ rfl
  · have e : b = (s.heap.push { cls := .type "range", data := .fields #[.int lo t, .int hi u, .int 1 v] }).objs.size := by simpa using hb
    subst e
    exact I1.fpOk (Nat.le_refl _) (I1.hok.fresh (Nat.le_refl _))
def iRng1 (ta : TA) : TI := fun σ H R => ta σ H fun vs H1 => ∃ j : Int, vs = [.int j] ∧ -(2 ^ 62) ≤ j ∧ j < 2 ^ 62 ∧ R (Itr 0 j.toNat) H1
def iRng2 (ta : TA) : TI := fun σ H R => ta σ H fun vs H1 => ∃ i j : Int, vs = [.int i, .int j] ∧ (-(2 ^ 62) ≤ i ∧ i < 2 ^ 62 ∧ -(2 ^ 62) ≤ j ∧ j < 2 ^ 62) ∧ R (Itr i (j - i).toNat) H1
theorem pi_range1 {a : Expr} {ta : TA} {p pos : Pos} (hg : Gl X "range") (hm : X.mg "range" = none) (ha : PA X [a] ta) (hs : starEach [a] X.env = [(false, eval a X.env)] := by rfl) : PI X tg (.Call (.Name "range" p) [a] [] pos) (iRng1 ta) := by
  intro pins s σ H R I h
  refine Call_ (ld_blt I hg hm boot_range (PyProof.Rows.callWith_type1 (thn (ha pos pins s σ H _ I h) fun us s1 ⟨vs, H1, I1, r1, q1⟩ => ?_) hs rfl))
  obtain ⟨j, e, q1, q2, q⟩ := q1
  subst e
  cases r1 with
  | cons r rr =>
    cases rr
    obtain ⟨t, rfl⟩ := r
    exact call_range_1 (range_it I1 (by omega) (by omega) q1 q2 (by simpa using q))
theorem pi_range2 {a b : Expr} {ta : TA} {p pos : Pos} (hg : Gl X "range") (hm : X.mg "range" = none) (ha : PA X [a, b] ta) (hs : starEach [a, b] X.env = [(false, eval a X.env), (false, eval b X.env)] := by rfl) (hs2 : starEach [b] X.env = [(false, eval b X.env)] := by rfl) :
    PI X tg (.Call (.Name "range" p) [a, b] [] pos) (iRng2 ta) := by
  intro pins s σ H R I h
  refine Call_ (ld_blt I hg hm boot_range (PyProof.Rows.callWith_type1 (thn (ha pos pins s σ H _ I h) fun us s1 ⟨vs, H1, I1, r1, q1⟩ => ?_) (by rw [hs, hs2]) (by rw [hs2]; rfl)))
  obtain ⟨i, j, e, ⟨q1, q2, q3, q4⟩, q⟩ := q1
  subst e
  cases r1 with
  | cons r rr =>
    cases rr with
    | cons r' rr =>
      cases rr
      obtain ⟨t, rfl⟩ := r
      obtain ⟨t', rfl⟩ := r'
      exact call_range_2 (range_it I1 q1 q2 q3 q4 q)

/-! ### for -/
/-- W: the invariant by the turn and a measure; N: what the body is to reach -/
def tFor (wi : TI) (g : TG) (tb : TS) : TS := fun D σ H => wi σ H fun J H1 => ∃ W : Nat → Nat → St → Hp → Prop, (∃ m, W 0 m σ H1) ∧ ∀ i m σ H, W i m σ H →
  (J.stop i H ∧ D.nx σ H) ∨ (J.go i H ∧ ∃ N : St → Hp → Prop, (∀ σ' H', N σ' H' → ∃ m', m' < m ∧ W (i + 1) m' σ' H') ∧ ∀ x H', J.yld i H x H' → g x σ H' fun σ2 H2 => tb { D with nx := N, ct := N, bk := D.nx } σ2 H2)
/-- the records at fp as they stand -/
def pinsAt (fp : List Addr) (h : Heap) : List (Addr × Obj) := fp.filterMap fun b => (h.get? b).map fun o => (b, o)
theorem mem_pinsAt {fp : List Addr} {h : Heap} {b : Addr} {o : Obj} (hb : b ∈ fp) (e : h.get? b = some o) : (b, o) ∈ pinsAt fp h := List.mem_filterMap.mpr ⟨b, hb, by rw [e]; rfl⟩
theorem of_pinsAt {fp : List Addr} {h : Heap} {p : Addr × Obj} (hp : p ∈ pinsAt fp h) : p.1 ∈ fp ∧ h.get? p.1 = some p.2 := by
  obtain ⟨b, hb, e⟩ := List.mem_filterMap.mp hp
  cases q : h.get? b with
  | none => rw [q] at e; cases e
  | some o =>
    rw [q] at e
    have e' : (b, o) = p := Option.some.inj e
    subst e'
    exact ⟨hb, q⟩
theorem Inv.pinned {pins : List (Addr × Obj)} {σ : St} {H : Hp} {s : Shared} {fp : List Addr} (I : Inv X pins σ H s) (hf : ∀ b ∈ fp, FpOk X pins H b) (ho : ∀ b ∈ fp, ∃ o, s.heap.get? b = some o ∧ ∀ v, o.data ≠ .cell v) : Inv X (pins ++ pinsAt fp s.heap) σ H s :=
  I.pins_of fun p hp => (List.mem_append.mp hp).elim (fun z => I.pin p (List.mem_append_right _ z)) fun z => by
    obtain ⟨hb, e⟩ := of_pinsAt z
    obtain ⟨f0, f1, f2, _⟩ := hf p.1 hb
    obtain ⟨o, e', d⟩ := ho p.1 hb
    rw [e] at e'; cases e'
    exact ⟨e, f0, f1, f2, d⟩
theorem Inv.unpinned {pins pl : List (Addr × Obj)} {σ : St} {H : Hp} {s : Shared} (I : Inv X (pins ++ pl) σ H s) : Inv X pins σ H s := I.pins_of fun p hp => I.pin p (List.mem_append_right _ (List.mem_append_left _ hp))
theorem ps_for {iter : Expr} {body : List Stmt} {wi : TI} {g : TG} {tb : TS} {pos : Pos} (hp : PassesOwn (model X.prog X.w) X.A X.env X.xe) (hc : X.calm = true) (hi : PI X tg iter wi) (hg : PG X tg g) (hb : PSs X body tb)
    (hs : ∀ x, foldedSetIterable iter X.env x = pure x := by intro _; rfl) : PS X (.For tg iter body [] pos) (tFor wi g tb) := by
  intro pins s σ H D I h
  refine wpAny_For (thn (hi pins s σ H _ I h) fun v s1 h1 => thn h1 fun itv s2 h2 => ?_) hs
  obtain ⟨it, fp, tn, J, H2, e, I2, T, st2, f2, W, ⟨m0, w0⟩, turn⟩ := h2
  subst e
  -- what stays true of the iterator's objects through the loop
  have stat : ∀ {H' : Hp}, (∀ b ∈ fp, H' b = none) → ∀ b ∈ fp, FpOk X pins H' b := fun hn b hb => ⟨hn b hb, (f2 b hb).2⟩
  refine codeAny_forLoop_any (fun n s' => ∃ i σ' H', Inv X pins σ' H' s' ∧ tn i s'.heap ∧ (∀ b ∈ fp, H' b = none) ∧ W i n σ' H') ?_ m0 ⟨0, σ, H2, I2, st2, fun b hb => (f2 b hb).1, w0⟩
  rintro n s3 ⟨i, σ3, H3, I3, st3, fr3, w3⟩
  rcases turn i n σ3 H3 w3 with ⟨stop, qn⟩ | ⟨go, N, hN, step⟩
  · refine wpAny_passesOwn hp (thn (T.done X rfl rfl rfl hc i pins s3 σ3 H3 X.xe I3 (stat fr3) st3 stop) fun r s4 ⟨hr, I4⟩ => ?_)
    subst hr
    exact wpAny_execs_nil ⟨σ3, H3, I4, qn⟩
  · refine wpAny_passesOwn hp (thn (T.item X rfl rfl rfl hc i pins s3 σ3 H3 X.xe I3 (stat fr3) st3 go) fun r s4 ⟨u, hr, h4⟩ => ?_)
    subst hr
    refine wpAny_passesOwn hp (thn h4 fun _ s5 ⟨x, H5, I5, r5, y5, st5, fr5⟩ => ?_)
    have I5' := I5.pinned (stat fr5) (T.obj _ _ st5)
    refine wpAny_passesOwn hp (thn (hg _ s5 σ3 H5 x u _ I5' r5 (step x H5 y5)) fun _ s6 ⟨σ6, H6, I6, q6⟩ => ?_)
    refine wpAny_passesOwn hp (thn (hb _ s6 σ6 H6 _ I6 q6) fun f s7 q7 => ?_)
    have again : ∀ {σ7 : St} {H7 : Hp}, Inv X (pins ++ pinsAt fp s5.heap) σ7 H7 s7 → N σ7 H7 → ∃ m, m < n ∧ ∃ i σ' H', Inv X pins σ' H' s7 ∧ tn i s7.heap ∧ (∀ b ∈ fp, H' b = none) ∧ W i m σ' H' := fun {σ7 H7} I7 n7 => by
      obtain ⟨m', hm, w7⟩ := hN σ7 H7 n7
      refine ⟨m', hm, i + 1, σ7, H7, I7.unpinned, T.keep _ _ _ st5 fun b hb o e => (I7.pin (b, o) (List.mem_append_right _ (List.mem_append_right _ (mem_pinsAt hb e)))).1, fun b hb => ?_, w7⟩
      obtain ⟨o, e, d⟩ := T.obj _ _ st5 b hb
      exact (I7.pin (b, o) (List.mem_append_right _ (List.mem_append_right _ (mem_pinsAt hb e)))).2.1
    cases f with
    | next => obtain ⟨σ7, H7, I7, n7⟩ := q7; exact again I7 n7
    | cont => obtain ⟨σ7, H7, I7, n7⟩ := q7; exact again I7 n7
    | brk => obtain ⟨σ7, H7, I7, q7⟩ := q7; exact ⟨σ7, H7, I7.unpinned, q7⟩
    | ret v => obtain ⟨x7, σ7, H7, I7, r7, q7⟩ := q7; exact ⟨x7, σ7, H7, I7.unpinned, r7, q7⟩
end

/-! ### the forms one uses -/
/-- over a list that the body leaves as it is -/
theorem for_list {K : PySem.W.Frag} {a : Addr} {xs : List V} {g : TG} {tb : TS} {D : Ends} {σ : St} {H : Hp} (Pv : Nat → St → Hp → Prop) (h0 : Pv 0 σ H) (hl : ∀ i σ H, i ≤ xs.length → Pv i σ H → SqL K H a xs)
    (hs : ∀ i x σ H, xs[i]? = some x → Pv i σ H → g x σ H fun σ2 H2 => tb { D with nx := Pv (i + 1), ct := Pv (i + 1), bk := D.nx } σ2 H2) (hd : ∀ σ H, Pv xs.length σ H → D.nx σ H) :
    ∃ W : Nat → Nat → St → Hp → Prop, (∃ m, W 0 m σ H) ∧ ∀ i m σ H, W i m σ H →
      ((Itl K a).stop i H ∧ D.nx σ H) ∨ ((Itl K a).go i H ∧ ∃ N : St → Hp → Prop, (∀ σ' H', N σ' H' → ∃ m', m' < m ∧ W (i + 1) m' σ' H') ∧ ∀ x H', (Itl K a).yld i H x H' → g x σ H' fun σ2 H2 => tb { D with nx := N, ct := N, bk := D.nx } σ2 H2) := by
  refine ⟨fun i m σ H => m = xs.length - i ∧ i ≤ xs.length ∧ Pv i σ H, ⟨xs.length, by simp, Nat.zero_le _, h0⟩, ?_⟩
  rintro i m σ H ⟨rfl, hi, p⟩
  have q := hl i σ H hi p
  by_cases hlt : i < xs.length
  · refine .inr ⟨⟨xs, xs[i], q, by simp [hlt]⟩, Pv (i + 1), fun σ' H' p' => ⟨xs.length - (i + 1), by omega, rfl, hlt, p'⟩, fun x H' y => ?_⟩
    obtain ⟨e, y⟩ := y
    subst e
    exact hs i x σ _ (y xs q) p
  · have e : i = xs.length := by omega
    subst e
    exact .inl ⟨⟨xs, q, Nat.le_refl _⟩, hd σ H p⟩
theorem for_tup {K : PySem.W.Frag} {a : Addr} {xs : List V} {g : TG} {tb : TS} {D : Ends} {σ : St} {H : Hp} (Pv : Nat → St → Hp → Prop) (h0 : Pv 0 σ H) (hl : ∀ i σ H, i ≤ xs.length → Pv i σ H → SqT K H a xs)
    (hs : ∀ i x σ H, xs[i]? = some x → Pv i σ H → g x σ H fun σ2 H2 => tb { D with nx := Pv (i + 1), ct := Pv (i + 1), bk := D.nx } σ2 H2) (hd : ∀ σ H, Pv xs.length σ H → D.nx σ H) :
    ∃ W : Nat → Nat → St → Hp → Prop, (∃ m, W 0 m σ H) ∧ ∀ i m σ H, W i m σ H →
      ((Itt K a).stop i H ∧ D.nx σ H) ∨ ((Itt K a).go i H ∧ ∃ N : St → Hp → Prop, (∀ σ' H', N σ' H' → ∃ m', m' < m ∧ W (i + 1) m' σ' H') ∧ ∀ x H', (Itt K a).yld i H x H' → g x σ H' fun σ2 H2 => tb { D with nx := N, ct := N, bk := D.nx } σ2 H2) := by
  refine ⟨fun i m σ H => m = xs.length - i ∧ i ≤ xs.length ∧ Pv i σ H, ⟨xs.length, by simp, Nat.zero_le _, h0⟩, ?_⟩
  rintro i m σ H ⟨rfl, hi, p⟩
  have q := hl i σ H hi p
  by_cases hlt : i < xs.length
  · refine .inr ⟨⟨xs, xs[i], q, by simp [hlt]⟩, Pv (i + 1), fun σ' H' p' => ⟨xs.length - (i + 1), by omega, rfl, hlt, p'⟩, fun x H' y => ?_⟩
    obtain ⟨e, y⟩ := y
    subst e
    exact hs i x σ _ (y xs q) p
  · have e : i = xs.length := by omega
    subst e
    exact .inl ⟨⟨xs, q, Nat.le_refl _⟩, hd σ H p⟩
theorem for_range {lo : Int} {n : Nat} {g : TG} {tb : TS} {D : Ends} {σ : St} {H : Hp} (Pv : Nat → St → Hp → Prop) (h0 : Pv 0 σ H)
    (hs : ∀ i σ H, i < n → Pv i σ H → g (.int (lo + i)) σ H fun σ2 H2 => tb { D with nx := Pv (i + 1), ct := Pv (i + 1), bk := D.nx } σ2 H2) (hd : ∀ σ H, Pv n σ H → D.nx σ H) :
    ∃ W : Nat → Nat → St → Hp → Prop, (∃ m, W 0 m σ H) ∧ ∀ i m σ H, W i m σ H →
      ((Itr lo n).stop i H ∧ D.nx σ H) ∨ ((Itr lo n).go i H ∧ ∃ N : St → Hp → Prop, (∀ σ' H', N σ' H' → ∃ m', m' < m ∧ W (i + 1) m' σ' H') ∧ ∀ x H', (Itr lo n).yld i H x H' → g x σ H' fun σ2 H2 => tb { D with nx := N, ct := N, bk := D.nx } σ2 H2) := by
  refine ⟨fun i m σ H => m = n - i ∧ i ≤ n ∧ Pv i σ H, ⟨n, by simp, Nat.zero_le _, h0⟩, ?_⟩
  rintro i m σ H ⟨rfl, hi, p⟩
  by_cases hlt : i < n
  · refine .inr ⟨hlt, Pv (i + 1), fun σ' H' p' => ⟨n - (i + 1), by omega, rfl, hlt, p'⟩, fun x H' y => ?_⟩
    obtain ⟨e, y⟩ := y
    subst e y
    exact hs i σ _ hlt p
  · have e : i = n := by omega
    subst e
    exact .inl ⟨Nat.le_refl _, hd σ H p⟩
/-- while, by a word and a measure of the state -/
theorem while_by {c : TT} {tb : TS} {D : Ends} {σ : St} {H : Hp} (Pv : St → Hp → Prop) (μ : St → Hp → Nat) (h0 : Pv σ H)
    (hs : ∀ σ H, Pv σ H → c σ H fun b H1 => if b = true then tb { D with nx := fun σ' H' => Pv σ' H' ∧ μ σ' H' < μ σ H, ct := fun σ' H' => Pv σ' H' ∧ μ σ' H' < μ σ H, bk := D.nx } σ H1 else D.nx σ H1)
    (mono : ∀ σ H Q Q', (∀ b H1, Q b H1 → Q' b H1) → c σ H Q → c σ H Q') : tWhile c tb D σ H := by
  refine ⟨fun m σ H => m = μ σ H ∧ Pv σ H, ⟨_, rfl, h0⟩, ?_⟩
  rintro m σ H ⟨rfl, p⟩
  refine mono σ H _ _ (fun b H1 q => ?_) (hs σ H p)
  cases b with
  | true => exact ⟨_, fun σ' H' ⟨p', l⟩ => ⟨_, l, rfl, p'⟩, q⟩
  | false => exact q
end L2

namespace L2
open PySem PySem.Spec PyProof.Rows

abbrev R2 := V → V → Hp → VK → Prop
/-- a two-place operation on values: f is binaryOp op, inplaceOp op or compareOp op -/
def OpR (X : Cx) (f : Value → Value → Sem Value) (r : R2) : Prop :=
  ∀ (pins : List (Addr × Obj)) (s : Shared) (σ : St) (H : Hp) (x y : V) (v u : Value) (Q : VK), Inv X pins σ H s → RelV x v → RelV y u → r x y H Q →
    wpAny (model X.prog X.w) X.A (f v u) (EP X pins σ Q) X.xe s
/-- a one-place operation -/
def UnR (X : Cx) (f : Value → Sem Value) (r : V → Hp → VK → Prop) : Prop :=
  ∀ (pins : List (Addr × Obj)) (s : Shared) (σ : St) (H : Hp) (x : V) (v : Value) (Q : VK), Inv X pins σ H s → RelV x v → r x H Q →
    wpAny (model X.prog X.w) X.A (f v) (EP X pins σ Q) X.xe s
/-- a call of a value that is known (a builtin, a type) with values -/
def CallR (X : Cx) (f : Value) (r : List V → Hp → VK → Prop) : Prop :=
  ∀ (pins : List (Addr × Obj)) (s : Shared) (σ : St) (H : Hp) (xs : List V) (us : List Value) (Q : VK), Inv X pins σ H s → Vals xs us → r xs H Q →
    wpAny (model X.prog X.w) X.A (call f us) (EP X pins σ Q) X.xe s
/-- a value's truth -/
def TruR (X : Cx) (r : V → Hp → (Bool → Hp → Prop) → Prop) : Prop :=
  ∀ (pins : List (Addr × Obj)) (s : Shared) (σ : St) (H : Hp) (x : V) (v : Value) (Q : Bool → Hp → Prop), Inv X pins σ H s → RelV x v → r x H Q →
    wpAny (model X.prog X.w) X.A (truthy v) (TP X pins σ Q) X.xe s

def tOp (r : R2) (ta tb : TE) : TE := fun σ H Q => ta σ H fun x H1 => tb σ H1 fun y H2 => r x y H2 Q
def tUn (r : V → Hp → VK → Prop) (ta : TE) : TE := fun σ H Q => ta σ H fun x H1 => r x H1 Q
/-- ints in, under C, and a value out -/
def rI (C : Int → Int → Prop) (g : Int → Int → V) : R2 := fun x y H Q => ∃ i j, x = .int i ∧ y = .int j ∧ C i j ∧ Q (g i j) H
def rI0 (g : Int → Int → V) : R2 := fun x y H Q => ∃ i j, x = .int i ∧ y = .int j ∧ Q (g i j) H
def rU (g : Int → V) : V → Hp → VK → Prop := fun x H Q => ∃ i, x = .int i ∧ Q (g i) H

section
variable {X : Cx} {a b c : Expr} {ta tb tc : TE} {pos : Pos}

theorem binT (ha : PE X a ta) (hb : PE X b tb) {pins : List (Addr × Obj)} {s : Shared} {σ : St} {H : Hp} {R : V → V → Hp → Prop} (I : Inv X pins σ H s)
    (h : ta σ H fun x H1 => tb σ H1 fun y H2 => R x y H2) {Q : Value → Shared → Prop} {f : Value → Value → Sem Value}
    (hf : ∀ v u s2 x y H2, Inv X pins σ H2 s2 → RelV x v → RelV y u → R x y H2 → wpAny (model X.prog X.w) X.A (f v u) Q X.xe s2) :
    wpAny (model X.prog X.w) X.A (eval a X.env) (fun v s₁ => wpAny (model X.prog X.w) X.A (eval b X.env) (fun u s₂ => wpAny (model X.prog X.w) X.A (f v u) Q X.xe s₂) X.xe s₁) X.xe s := by
  refine thn (ha pins s σ H _ I h) fun v s1 ⟨x, H1, I1, r1, q1⟩ => ?_
  refine thn (hb pins s1 σ H1 _ I1 q1) fun u s2 ⟨y, H2, I2, r2, q2⟩ => ?_
  exact hf v u s2 x y H2 I2 r1 r2 q2

theorem pe_op {op : Operator} {r : R2} (ho : OpR X (binaryOp op) r) (ha : PE X a ta) (hb : PE X b tb) : PE X (.BinOp a op b pos) (tOp r ta tb) := by
  intro pins s σ H Q I h
  exact wpAny_BinOp (binT ha hb I h fun v u s2 x y H2 I2 rx ry q => ho pins s2 σ H2 x y v u Q I2 rx ry q)
theorem pe_un {op : UnaryOp} {r : V → Hp → VK → Prop} (ho : UnR X (unaryOp op) r) (ha : PE X a ta) : PE X (.UnaryOp op a pos) (tUn r ta) := by
  intro pins s σ H Q I h
  exact UnaryOp_ (thn (ha pins s σ H _ I h) fun v s1 ⟨x, H1, I1, r1, q1⟩ => ho pins s1 σ H1 x v Q I1 r1 q1)
/-- a op= e at a name: the name's slot i -/
theorem augR {op : Operator} {r : R2} (ho : OpR X (inplaceOp op) r) {pins : List (Addr × Obj)} {s : Shared} {σ : St} {H : Hp} {x y : V} {v u : Value} {Q : VK} (I : Inv X pins σ H s)
    (rx : RelV x v) (ry : RelV y u) (q : r x y H Q) : wpAny (model X.prog X.w) X.A (inplaceOp op v u) (EP X pins σ Q) X.xe s := ho pins s σ H x y v u Q I rx ry q

/-! ### ints -/
theorem opI {f : Value → Value → Sem Value} {C : Int → Int → Prop} {g : Int → Int → Int}
    (rule : ∀ (i j : Int) (t u : Tok) (s : Shared) (Q : Value → Shared → Prop) (E : Value → Shared → Prop), C i j → Q (.int (g i j) s.toks) { s with toks := s.toks + 1 } → wpAny (model X.prog X.w) X.A (f (.int i t) (.int j u)) Q E s) :
    OpR X f (rI C fun i j => .int (g i j)) := by
  intro pins s σ H x y v u Q I rx ry h
  obtain ⟨i, j, rfl, rfl, hc, q⟩ := h
  obtain ⟨t, rfl⟩ := rx
  obtain ⟨t', rfl⟩ := ry
  exact rule i j t t' s _ _ hc ⟨.int (g i j), H, I.tok _, ⟨_, rfl⟩, q⟩
theorem opI0 {f : Value → Value → Sem Value} {g : Int → Int → Int}
    (rule : ∀ (i j : Int) (t u : Tok) (s : Shared) (Q : Value → Shared → Prop) (E : Value → Shared → Prop), Q (.int (g i j) s.toks) { s with toks := s.toks + 1 } → wpAny (model X.prog X.w) X.A (f (.int i t) (.int j u)) Q E s) :
    OpR X f (rI0 fun i j => .int (g i j)) := by
  intro pins s σ H x y v u Q I rx ry h
  obtain ⟨i, j, rfl, rfl, q⟩ := h
  obtain ⟨t, rfl⟩ := rx
  obtain ⟨t', rfl⟩ := ry
  exact rule i j t t' s _ _ ⟨.int (g i j), H, I.tok _, ⟨_, rfl⟩, q⟩
theorem opB0 {f : Value → Value → Sem Value} {g : Int → Int → Bool}
    (rule : ∀ (i j : Int) (t u : Tok) (s : Shared) (Q : Value → Shared → Prop) (E : Value → Shared → Prop), Q (.bool (g i j)) s → wpAny (model X.prog X.w) X.A (f (.int i t) (.int j u)) Q E s) :
    OpR X f (rI0 fun i j => .bl (g i j)) := by
  intro pins s σ H x y v u Q I rx ry h
  obtain ⟨i, j, rfl, rfl, q⟩ := h
  obtain ⟨t, rfl⟩ := rx
  obtain ⟨t', rfl⟩ := ry
  exact rule i j t t' s _ _ ⟨.bl (g i j), H, I, rfl, q⟩

def CDiv (i j : Int) : Prop := 0 < j ∧ j < 1073741824
def CDivN (i j : Int) : Prop := j ≠ 0 ∧ j.natAbs < 1073741824
def CPow (i j : Int) : Prop := 0 ≤ j ∧ j ≤ 1000000 ∧ i.natAbs < 2 ^ 64
def CMul (i j : Int) : Prop := (-(2 ^ 64) < i ∧ i < 2 ^ 64) ∨ (-(2 ^ 64) < j ∧ j < 2 ^ 64)
theorem CMul.ok {i j : Int} (h : CMul i j) : IntMulOk i j := by
  rcases h with ⟨h1, h2⟩ | ⟨h1, h2⟩
  · exact .of_left (intBits_le_64 h1 h2)
  · exact .of_right (intBits_le_64 h1 h2)
theorem two_pow_nn (k : Nat) : (0 : Int) ≤ 2 ^ k := by
  rw [two_pow_cast]
  exact Int.natCast_nonneg _

theorem op_add : OpR X (binaryOp .Add) (rI0 fun i j => .int (i + j)) := opI0 fun _ _ _ _ _ _ _ q => add_int q
theorem op_sub : OpR X (binaryOp .Sub) (rI0 fun i j => .int (i - j)) := opI0 fun _ _ _ _ _ _ _ q => sub_int q
theorem op_mul : OpR X (binaryOp .Mult) (rI CMul fun i j => .int (i * j)) := opI fun _ _ _ _ _ _ _ hc q => mul_int q hc.ok
/-- // by a positive divisor -/
theorem op_fdiv : OpR X (binaryOp .FloorDiv) (rI CDiv fun i j => .int (i / j)) := opI fun i j _ _ _ _ _ hc q => by
  have h1 : (0 : Int) < j := hc.1
  have h2 : j < 1073741824 := hc.2
  exact floordiv_int (by omega) (by rw [Int.fdiv_eq_ediv_of_nonneg i (by omega)]; exact q) (.inl (PyProof.noPylong_small (by omega)))
theorem op_fdivN : OpR X (binaryOp .FloorDiv) (rI CDivN fun i j => .int (i.fdiv j)) := opI fun _ _ _ _ _ _ _ hc q => floordiv_int hc.1 q (.inl (PyProof.noPylong_small hc.2))
/-- % by a positive divisor of any size -/
theorem op_mod : OpR X (binaryOp .Mod) (rI (fun _ j => 0 < j) fun i j => .int (i % j)) := opI fun i j _ _ _ _ _ hc q => by
  have h1 : (0 : Int) < j := hc
  exact mod_int' (by omega) (by rw [Int.fmod_eq_emod_of_nonneg i (by omega)]; exact q)
theorem op_modN : OpR X (binaryOp .Mod) (rI (fun _ j => j ≠ 0) fun i j => .int (i.fmod j)) := opI fun _ _ _ _ _ _ _ hc q => mod_int' hc q
theorem op_pow : OpR X (binaryOp .Pow) (rI CPow fun i j => .int (i ^ j.toNat)) := opI fun _ _ _ _ _ _ _ hc q => pow_int_small hc.1 hc.2.1 hc.2.2 q
theorem op_shl : OpR X (binaryOp .LShift) (rI CPow fun i j => .int (i * 2 ^ j.toNat)) := opI fun _ _ _ _ _ _ _ hc q => lshift_int_small hc.1 hc.2.1 hc.2.2 q
theorem op_shr : OpR X (binaryOp .RShift) (rI (fun _ j => 0 ≤ j) fun i j => .int (i / 2 ^ j.toNat)) := opI fun i j _ _ _ _ _ hc q =>
  rshift_int hc (by rw [Int.fdiv_eq_ediv_of_nonneg i (two_pow_nn _)]; exact q)
theorem op_and : OpR X (binaryOp .BitAnd) (rI0 fun i j => .int (Builtin.bitAnd i j)) := opI0 fun _ _ _ _ _ _ _ q => and_int q
theorem op_or : OpR X (binaryOp .BitOr) (rI0 fun i j => .int (Builtin.bitOr i j)) := opI0 fun _ _ _ _ _ _ _ q => or_int q
theorem op_xor : OpR X (binaryOp .BitXor) (rI0 fun i j => .int (Builtin.bitXor i j)) := opI0 fun _ _ _ _ _ _ _ q => xor_int q

theorem iop_add : OpR X (inplaceOp .Add) (rI0 fun i j => .int (i + j)) := opI0 fun _ _ _ _ _ _ _ q => iadd_int q
theorem iop_sub : OpR X (inplaceOp .Sub) (rI0 fun i j => .int (i - j)) := opI0 fun _ _ _ _ _ _ _ q => isub_int q
theorem iop_mul : OpR X (inplaceOp .Mult) (rI CMul fun i j => .int (i * j)) := opI fun _ _ _ _ _ _ _ hc q => imul_int q hc.ok
theorem iop_fdiv : OpR X (inplaceOp .FloorDiv) (rI CDiv fun i j => .int (i / j)) := opI fun i j _ _ _ _ _ hc q => by
  have h1 : (0 : Int) < j := hc.1
  have h2 : j < 1073741824 := hc.2
  exact ifloordiv_int (by omega) (by rw [Int.fdiv_eq_ediv_of_nonneg i (by omega)]; exact q) (.inl (PyProof.noPylong_small (by omega)))
theorem iop_mod : OpR X (inplaceOp .Mod) (rI (fun _ j => 0 < j) fun i j => .int (i % j)) := opI fun i j _ _ _ _ _ hc q => by
  have h1 : (0 : Int) < j := hc
  exact imod_int (by omega) (by rw [Int.fmod_eq_emod_of_nonneg i (by omega)]; exact q)
theorem iop_shl : OpR X (inplaceOp .LShift) (rI CPow fun i j => .int (i * 2 ^ j.toNat)) := opI fun _ _ _ _ _ _ _ hc q => ilshift_int_small hc.1 hc.2.1 hc.2.2 q
theorem iop_shr : OpR X (inplaceOp .RShift) (rI (fun _ j => 0 ≤ j) fun i j => .int (i / 2 ^ j.toNat)) := opI fun i j _ _ _ _ _ hc q =>
  irshift_int hc (by rw [Int.fdiv_eq_ediv_of_nonneg i (two_pow_nn _)]; exact q)
theorem iop_and : OpR X (inplaceOp .BitAnd) (rI0 fun i j => .int (Builtin.bitAnd i j)) := opI0 fun _ _ _ _ _ _ _ q => iand_int q
theorem iop_or : OpR X (inplaceOp .BitOr) (rI0 fun i j => .int (Builtin.bitOr i j)) := opI0 fun _ _ _ _ _ _ _ q => ior_int q
theorem iop_xor : OpR X (inplaceOp .BitXor) (rI0 fun i j => .int (Builtin.bitXor i j)) := opI0 fun _ _ _ _ _ _ _ q => ixor_int q

theorem unI {f : Value → Sem Value} {g : Int → Int}
    (rule : ∀ (i : Int) (t : Tok) (s : Shared) (Q : Value → Shared → Prop) (E : Value → Shared → Prop), Q (.int (g i) s.toks) { s with toks := s.toks + 1 } → wpAny (model X.prog X.w) X.A (f (.int i t)) Q E s) :
    UnR X f (rU fun i => .int (g i)) := by
  intro pins s σ H x v Q I rx h
  obtain ⟨i, rfl, q⟩ := h
  obtain ⟨t, rfl⟩ := rx
  exact rule i t s _ _ ⟨.int (g i), H, I.tok _, ⟨_, rfl⟩, q⟩
theorem un_neg : UnR X (unaryOp .USub) (rU fun i => .int (-i)) := unI fun _ _ _ _ _ q => neg_int q
theorem un_inv : UnR X (unaryOp .Invert) (rU fun i => .int (Builtin.bitNot i)) := unI fun _ _ _ _ _ q => invert_int q

/-! ### bools among ints: n += (a < b) -/
theorem op_add_ib : OpR X (binaryOp .Add) (fun x y H Q => ∃ i k, x = .int i ∧ y = .bl k ∧ Q (.int (i + b2i k)) H) := by
  intro pins s σ H x y v u Q I rx ry h
  obtain ⟨i, k, rfl, rfl, q⟩ := h
  obtain ⟨t, rfl⟩ := rx
  cases ry
  exact add_int_bool ⟨.int (i + b2i k), H, I.tok _, ⟨_, rfl⟩, q⟩
end

/-! ### comparisons -/
/-- the scalars that == tells apart as data does -/
def scal : V → V → Bool
  | .non, .non => true | .non, .int _ => true | .int _, .non => true | .non, .bl _ => true | .bl _, .non => true | .non, .str _ => true | .str _, .non => true
  | .int _, .int _ => true | .bl _, .bl _ => true | .str _, .str _ => true | .byt _, .byt _ => true
  | .int _, .str _ => true | .str _, .int _ => true | .bl _, .str _ => true | .str _, .bl _ => true
  | _, _ => false
def rEq : R2 := fun x y H Q => scal x y = true ∧ Q (.bl (decide (x = y))) H
def rNe : R2 := fun x y H Q => scal x y = true ∧ Q (.bl (!decide (x = y))) H

theorem dec_int {i j : Int} : decide (V.int i = V.int j) = (i == j) := by
  rw [Bool.eq_iff_iff]
  simp
theorem dec_bl {i j : Bool} : decide (V.bl i = V.bl j) = (i == j) := by
  rw [Bool.eq_iff_iff]
  simp
theorem dec_str {i j : Str} : decide (V.str i = V.str j) = (i == j) := by
  rw [Bool.eq_iff_iff]
  simp
theorem dec_byt {i j : Array UInt8} : decide (V.byt i = V.byt j) = (i.toList == j.toList) := by
  rw [Bool.eq_iff_iff]
  cases i
  cases j
  simp

section
variable {X : Cx} {a b c : Expr} {ta tb tc : TE} {pos : Pos}
theorem fin_bl {pins : List (Addr × Obj)} {σ : St} {H : Hp} {s : Shared} {Q : VK} {k k' : Bool} (I : Inv X pins σ H s) (q : Q (.bl k) H) (e : k = k') : EP X pins σ Q (.bool k') s := by
  subst e
  exact ⟨.bl k, H, I, rfl, q⟩
theorem op_eq : OpR X (compareOp .Eq) rEq := by
  intro pins s σ H x y v u Q I rx ry h
  obtain ⟨hs, q⟩ := h
  cases x with
  | non =>
    cases rx
    cases y with
    | non => cases ry; exact PySem.EqNone.eq_none_none (fin_bl I q (by simp))
    | bl j => cases ry; exact PySem.EqNone.eq_none_bool (fin_bl I q (by simp))
    | int j => obtain ⟨t', rfl⟩ := ry; exact PySem.EqNone.eq_none_int (fin_bl I q (by simp))
    | str j => obtain ⟨t', rfl⟩ := ry; exact PySem.EqNone.eq_none_str (fin_bl I q (by simp))
    | _ => exact absurd (show false = true from hs) Bool.false_ne_true
  | bl i =>
    cases rx
    cases y with
    | non => cases ry; exact PySem.EqNone.eq_bool_none (fin_bl I q (by simp))
    | bl j => cases ry; exact eq_bool (fin_bl I q dec_bl)
    | str j => obtain ⟨t', rfl⟩ := ry; exact PySem.EqMixed.eq_bool_str (fin_bl I q (by simp))
    | _ => exact absurd (show false = true from hs) Bool.false_ne_true
  | int i =>
    obtain ⟨t, rfl⟩ := rx
    cases y with
    | non => cases ry; exact PySem.EqNone.eq_int_none (fin_bl I q (by simp))
    | int j => obtain ⟨t', rfl⟩ := ry; exact eq_int (fin_bl I q dec_int)
    | str j => obtain ⟨t', rfl⟩ := ry; exact PySem.EqMixed.eq_int_str (fin_bl I q (by simp))
    | _ => exact absurd (show false = true from hs) Bool.false_ne_true
  | str i =>
    obtain ⟨t, rfl⟩ := rx
    cases y with
    | non => cases ry; exact PySem.EqNone.eq_str_none (fin_bl I q (by simp))
    | bl j => cases ry; exact PySem.EqMixed.eq_str_bool (fin_bl I q (by simp))
    | int j => obtain ⟨t', rfl⟩ := ry; exact PySem.EqMixed.eq_str_int (fin_bl I q (by simp))
    | str j => obtain ⟨t', rfl⟩ := ry; exact eq_str (fin_bl I q dec_str)
    | _ => exact absurd (show false = true from hs) Bool.false_ne_true
  | byt i =>
    obtain ⟨t, rfl⟩ := rx
    cases y with
    | byt j => obtain ⟨t', rfl⟩ := ry; exact PySem.W.eq_bytes (fin_bl I q dec_byt)
    | _ => exact absurd (show false = true from hs) Bool.false_ne_true
  | _ => cases y <;> exact absurd (show false = true from hs) Bool.false_ne_true
theorem op_ne : OpR X (compareOp .NotEq) rNe := by
  intro pins s σ H x y v u Q I rx ry h
  obtain ⟨hs, q⟩ := h
  cases x with
  | non =>
    cases rx
    cases y with
    | non => cases ry; exact PySem.EqNone.ne_none_none (fin_bl I q (by simp))
    | bl j => cases ry; exact PySem.EqNone.ne_none_bool (fin_bl I q (by simp))
    | int j => obtain ⟨t', rfl⟩ := ry; exact PySem.EqNone.ne_none_int (fin_bl I q (by simp))
    | str j => obtain ⟨t', rfl⟩ := ry; exact PySem.EqNone.ne_none_str (fin_bl I q (by simp))
    | _ => exact absurd (show false = true from hs) Bool.false_ne_true
  | bl i =>
    cases rx
    cases y with
    | non => cases ry; exact PySem.EqNone.ne_bool_none (fin_bl I q (by simp))
    | bl j => cases ry; exact ne_bool (fin_bl I q (congrArg not dec_bl))
    | str j => obtain ⟨t', rfl⟩ := ry; exact PySem.EqMixed.ne_bool_str (fin_bl I q (by simp))
    | _ => exact absurd (show false = true from hs) Bool.false_ne_true
  | int i =>
    obtain ⟨t, rfl⟩ := rx
    cases y with
    | non => cases ry; exact PySem.EqNone.ne_int_none (fin_bl I q (by simp))
    | int j => obtain ⟨t', rfl⟩ := ry; exact ne_int (fin_bl I q (congrArg not dec_int))
    | str j => obtain ⟨t', rfl⟩ := ry; exact PySem.EqMixed.ne_int_str (fin_bl I q (by simp))
    | _ => exact absurd (show false = true from hs) Bool.false_ne_true
  | str i =>
    obtain ⟨t, rfl⟩ := rx
    cases y with
    | non => cases ry; exact PySem.EqNone.ne_str_none (fin_bl I q (by simp))
    | bl j => cases ry; exact PySem.EqMixed.ne_str_bool (fin_bl I q (by simp))
    | int j => obtain ⟨t', rfl⟩ := ry; exact PySem.EqMixed.ne_str_int (fin_bl I q (by simp))
    | str j => obtain ⟨t', rfl⟩ := ry; exact ne_str (fin_bl I q (congrArg not dec_str))
    | _ => exact absurd (show false = true from hs) Bool.false_ne_true
  | byt i =>
    obtain ⟨t, rfl⟩ := rx
    cases y with
    | byt j => obtain ⟨t', rfl⟩ := ry; exact PySem.W.ne_bytes (fin_bl I q (congrArg not dec_byt))
    | _ => exact absurd (show false = true from hs) Bool.false_ne_true
  | _ => cases y <;> exact absurd (show false = true from hs) Bool.false_ne_true

theorem op_lt : OpR X (compareOp .Lt) (rI0 fun i j => .bl (decide (i < j))) := opB0 fun _ _ _ _ _ _ _ q => lt_int q
theorem op_le : OpR X (compareOp .LtE) (rI0 fun i j => .bl (decide (i ≤ j))) := opB0 fun _ _ _ _ _ _ _ q => le_int q
theorem op_gt : OpR X (compareOp .Gt) (rI0 fun i j => .bl (decide (j < i))) := opB0 fun _ _ _ _ _ _ _ q => gt_int q
theorem op_ge : OpR X (compareOp .GtE) (rI0 fun i j => .bl (decide (j ≤ i))) := opB0 fun _ _ _ _ _ _ _ q => ge_int q
theorem op_lt_str : OpR X (compareOp .Lt) (fun x y H Q => ∃ i j, x = .str i ∧ y = .str j ∧ Q (.bl (decide (i.cps.toList < j.cps.toList))) H) := by
  intro pins s σ H x y v u Q I rx ry h
  obtain ⟨i, j, rfl, rfl, q⟩ := h
  obtain ⟨t, rfl⟩ := rx
  obtain ⟨t', rfl⟩ := ry
  exact lt_str (fin_bl I q rfl)
/-- the one string within the other -/
theorem op_in_str : OpR X (compareOp .In) (fun x y H Q => ∃ i j, x = .str i ∧ y = .str j ∧ Q (.bl (!(Builtin.Str.occurrences j i 0 j.length 1).isEmpty)) H) := by
  intro pins s σ H x y v u Q I rx ry h
  obtain ⟨i, j, rfl, rfl, q⟩ := h
  obtain ⟨t, rfl⟩ := rx
  obtain ⟨t', rfl⟩ := ry
  exact in_str (fin_bl I q rfl)

/-- is None, is not None: the right side a value none -/
theorem op_isN : OpR X (compareOp .Is) (fun x y H Q => y = .non ∧ Q (.bl (decide (x = .non))) H) := by
  intro pins s σ H x y v u Q I rx ry h
  obtain ⟨rfl, q⟩ := h
  cases ry
  refine is_none_gen (fin_bl I q ?_)
  cases x <;> first
    | (cases rx; rfl)
    | (obtain ⟨t, rfl⟩ := rx; rfl)
theorem op_notN : OpR X (compareOp .IsNot) (fun x y H Q => y = .non ∧ Q (.bl (!decide (x = .non))) H) := by
  intro pins s σ H x y v u Q I rx ry h
  obtain ⟨rfl, q⟩ := h
  cases ry
  refine isnot_none_gen (fin_bl I q ?_)
  cases x <;> first
    | (cases rx; rfl)
    | (obtain ⟨t, rfl⟩ := rx; rfl)

theorem op_notin_str : OpR X (compareOp .NotIn) (fun x y H Q => ∃ i j, x = .str i ∧ y = .str j ∧ Q (.bl (!(!(Builtin.Str.occurrences j i 0 j.length 1).isEmpty))) H) := by
  intro pins s σ H x y v u Q I rx ry h
  obtain ⟨i, j, rfl, rfl, q⟩ := h
  obtain ⟨t, rfl⟩ := rx
  obtain ⟨t', rfl⟩ := ry
  exact notIn_str (fin_bl I q rfl)
/-- is, is not of two objects that are tracked lists or instances -/
def isObj : HO → Bool
  | .lst _ => true
  | .ins _ _ _ => true
  | _ => false
theorem obj_there {pins : List (Addr × Obj)} {s : Shared} {σ : St} {H : Hp} {a : Addr} {o : HO} (I : Inv X pins σ H s) (h : H a = some o) (p : isObj o = true) : ∃ ob, s.heap.get? a = some ob ∧ ob.cls ≠ .type "tuple" := by
  cases o with
  | lst xs =>
    obtain ⟨_, its, n, _, e⟩ : xs.length ≤ sizeLine ∧ ∃ (its : List Value) (n : Nat), Vals xs its ∧ s.heap.get? a = some { cls := .type "list", data := .seq its.toArray n } := I.hok a _ h
    exact ⟨_, e, (by show Value.type "list" ≠ .type "tuple"; decide +kernel)⟩
  | ins C dx fs =>
    have x := I.hok a _ h
    obtain ⟨_, _, _, e, _⟩ := x
    exact ⟨_, e, (by show Value.ref C ≠ .type "tuple"; exact fun z => by cases z)⟩
  | _ => exact absurd (show false = true from p) Bool.false_ne_true
theorem op_is_ref : OpR X (compareOp .Is) (fun x y H Q => ∃ a b oa ob, x = .ref a ∧ y = .ref b ∧ H a = some oa ∧ isObj oa = true ∧ H b = some ob ∧ isObj ob = true ∧ Q (.bl (decide (a = b))) H) := by
  intro pins s σ H x y v u Q I rx ry h
  obtain ⟨a, b, oa, ob, rfl, rfl, ha, pa, hb, pb, q⟩ := h
  cases rx
  cases ry
  obtain ⟨o1, e1, n1⟩ := obj_there I ha pa
  obtain ⟨o2, e2, _⟩ := obj_there I hb pb
  by_cases z : a = b
  · subst z
    exact wpAny_is_ref_self (fin_bl I q (by simp))
  · exact wpAny_is_ref_other z e1 e2 n1 (fin_bl I q (by simp [z]))
theorem op_isnot_ref : OpR X (compareOp .IsNot) (fun x y H Q => ∃ a b oa ob, x = .ref a ∧ y = .ref b ∧ H a = some oa ∧ isObj oa = true ∧ H b = some ob ∧ isObj ob = true ∧ Q (.bl (!decide (a = b))) H) := by
  intro pins s σ H x y v u Q I rx ry h
  obtain ⟨a, b, oa, ob, rfl, rfl, ha, pa, hb, pb, q⟩ := h
  cases rx
  cases ry
  obtain ⟨o1, e1, n1⟩ := obj_there I ha pa
  obtain ⟨o2, e2, _⟩ := obj_there I hb pb
  by_cases z : a = b
  · subst z
    exact wpAny_isNot_ref_self (fin_bl I q (by simp))
  · exact wpAny_isNot_ref_other z e1 e2 n1 (fin_bl I q (by simp [z]))

/-- two rules for one operation: by cases -/
theorem OpR.or {f : Value → Value → Sem Value} {r r' : R2} (h : OpR X f r) (h' : OpR X f r') : OpR X f (fun x y H Q => r x y H Q ∨ r' x y H Q) := by
  intro pins s σ H x y v u Q I rx ry q
  rcases q with q | q
  · exact h pins s σ H x y v u Q I rx ry q
  · exact h' pins s σ H x y v u Q I rx ry q

theorem nomark (b : Expr) {op : CmpOp} (h : op ≠ .In := by decide) (h2 : op ≠ .NotIn := by decide) : behindInMarks op b = false := by
  have e1 : (op == CmpOp.In) = false := by cases op <;> first | rfl | exact absurd rfl h
  have e2 : (op == CmpOp.NotIn) = false := by cases op <;> first | rfl | exact absurd rfl h2
  cases b <;> simp [behindInMarks, e1, e2]
/-- a comparison as a value; hm: nomark b, or (for in, not in) by with_unfolding_all rfl -/
theorem pe_cmpR {op : CmpOp} {r : R2} (ho : OpR X (compareOp op) r) (ha : PE X a ta) (hb : PE X b tb) (hm : behindInMarks op b = false) : PE X (.Compare a [op] [b] pos) (tOp r ta tb) := by
  intro pins s σ H Q I h
  exact wpAny_Compare1 (binT ha hb I h fun v u s2 x y H2 I2 rx ry q => ho pins s2 σ H2 x y v u Q I2 rx ry q) hm
/-- a reading of a value as a test -/
def tTest (t : TE) : TT := fun σ H Q => t σ H fun x H' => ∃ k, x = .bl k ∧ Q k H'
theorem pt_cmpR {op : CmpOp} {r : R2} (ho : OpR X (compareOp op) r) (ha : PE X a ta) (hb : PE X b tb) (hm : behindInMarks op b = false) : PT X (.Compare a [op] [b] pos) (tTest (tOp r ta tb)) := by
  intro pins s σ H Q I h
  refine wpAny_isTrue_Compare1 (thn (ha pins s σ H _ I h) fun v s1 ⟨x, H1, I1, r1, q1⟩ => thn (hb pins s1 σ H1 _ I1 q1) fun u s2 ⟨y, H2, I2, r2, q2⟩ =>
    thn (ho pins s2 σ H2 x y v u _ I2 r1 r2 q2) fun c s3 ⟨z, H3, I3, r3, k, e, q3⟩ => ?_) hm
  subst e
  cases r3
  exact wpAny_truthy_bool ⟨H3, I3, q3⟩
/-- a op1 b op2 c -/
def tChain (r r' : R2) (ta tb tc : TE) : TE := fun σ H Q => ta σ H fun x H1 => tb σ H1 fun y H2 => r x y H2 fun z H3 => ∃ k, z = .bl k ∧
  (if k = true then tc σ H3 fun w' H4 => r' y w' H4 Q else Q (.bl false) H3)
theorem pe_chain {op op' : CmpOp} {r r' : R2} (ho : OpR X (compareOp op) r) (ho' : OpR X (compareOp op') r') (ha : PE X a ta) (hb : PE X b tb) (hc : PE X c tc)
    (hm : lastMarks [op, op'] [b, c] = false := by with_unfolding_all rfl) : PE X (.Compare a [op, op'] [b, c] pos) (tChain r r' ta tb tc) := by
  intro pins s σ H Q I h
  refine Compare_chain (thn (ha pins s σ H _ I h) fun v s1 ⟨x, H1, I1, r1, q1⟩ => chain_link (thn (hb pins s1 σ H1 _ I1 q1) fun u s2 ⟨y, H2, I2, r2, q2⟩ =>
    thn (ho pins s2 σ H2 x y v u _ I2 r1 r2 q2) fun d s3 ⟨z, H3, I3, r3, k, e, q3⟩ => ?_)) hm
  subst e
  cases r3
  refine wpAny_truthy_bool ?_
  cases k with
  | false => exact ite_ff ⟨.bl false, H3, I3, rfl, q3⟩
  | true => exact ite_tt (chain_last (thn (hc pins s3 σ H3 _ I3 q3) fun w' s4 ⟨z', H4, I4, r4, q4⟩ => ho' pins s4 σ H4 y z' u w' Q I4 r2 r4 q4))
theorem pt_chain {op op' : CmpOp} {r r' : R2} (ho : OpR X (compareOp op) r) (ho' : OpR X (compareOp op') r') (ha : PE X a ta) (hb : PE X b tb) (hc : PE X c tc)
    (hm : lastMarks [op, op'] [b, c] = false := by with_unfolding_all rfl) : PT X (.Compare a [op, op'] [b, c] pos) (tTest (tChain r r' ta tb tc)) := by
  intro pins s σ H Q I h
  refine isTrue_chain (thn (ha pins s σ H _ I h) fun v s1 ⟨x, H1, I1, r1, q1⟩ => test_link (thn (hb pins s1 σ H1 _ I1 q1) fun u s2 ⟨y, H2, I2, r2, q2⟩ =>
    thn (ho pins s2 σ H2 x y v u _ I2 r1 r2 q2) fun d s3 ⟨z, H3, I3, r3, k, e, q3⟩ => ?_)) hm
  subst e
  cases r3
  refine wpAny_truthy_bool ?_
  cases k with
  | false =>
    obtain ⟨k', e', q'⟩ := q3
    cases e'
    exact ite_ff ⟨H3, I3, q'⟩
  | true =>
    refine ite_tt (test_last (thn (hc pins s3 σ H3 _ I3 q3) fun w' s4 ⟨z', H4, I4, r4, q4⟩ => thn (ho' pins s4 σ H4 y z' u w' _ I4 r2 r4 q4) fun d' s5 ⟨z2, H5, I5, r5, k2, e2, q5⟩ => ?_))
    subst e2
    cases r5
    exact wpAny_truthy_bool ⟨H5, I5, q5⟩

/-! ### truth -/
/-- a value's truth by the abstract heap -/
def TruV (K : PySem.W.Frag) (x : V) (H : Hp) (k : Bool) : Prop :=
  match x with
  | .non => k = false
  | .bl b => k = b
  | .int i => k = (i != 0)
  | .str y => y.length ≤ sizeLine ∧ k = ((y.length : Int) != 0)
  | .byt y => y.size ≤ sizeLine ∧ k = ((y.size : Int) != 0)
  | .ref p => (∃ xs, SqL K H p xs ∧ k = !xs.isEmpty) ∨ (∃ xs, SqT K H p xs ∧ k = !xs.isEmpty) ∨ ∃ kvs, H p = some (.dK kvs) ∧ k = !kvs.isEmpty
  | _ => False
theorem isEmpty_kv {κ : Type} {kvs : List (κ × V)} {vs : List (κ × Value)} (r : KV kvs vs) : (!vs.isEmpty) = !kvs.isEmpty := by
  cases r <;> rfl
theorem isEmpty_of {xs : List V} {its : List Value} (r : Vals xs its) : (!its.toArray.isEmpty) = !xs.isEmpty := by
  cases r <;> simp
theorem line63 : (sizeLine : Nat) < 2 ^ 63 := by rw [sizeLine_eq]; decide
theorem tru_ok : TruR X (fun x H Q => ∃ k, TruV X.K x H k ∧ Q k H) := by
  intro pins s σ H x v Q I rx h
  obtain ⟨k, e, q⟩ := h
  have hl := line63
  have hs : sizeLine = 16777216 := sizeLine_eq
  cases x with
  | non =>
    cases rx
    have e' : k = false := e
    subst e'
    exact truthy_none ⟨H, I, q⟩
  | bl b =>
    cases rx
    have e' : k = b := e
    subst e'
    exact wpAny_truthy_bool ⟨H, I, q⟩
  | int i =>
    obtain ⟨t, rfl⟩ := rx
    have e' : k = (i != 0) := e
    subst e'
    exact PySem.P.truthy_int ⟨H, I, q⟩
  | str y =>
    obtain ⟨t, rfl⟩ := rx
    obtain ⟨hy, e'⟩ : y.length ≤ sizeLine ∧ k = ((y.length : Int) != 0) := e
    subst e'
    exact PySem.P.truthy_str (by omega) ⟨H, I.tok _, q⟩
  | byt y =>
    obtain ⟨t, rfl⟩ := rx
    obtain ⟨hy, e'⟩ : y.size ≤ sizeLine ∧ k = ((y.size : Int) != 0) := e
    subst e'
    exact PySem.W.truthy_bytes (by omega) ⟨H, I.tok _, q⟩
  | ref p =>
    cases rx
    have e' : (∃ xs, SqL X.K H p xs ∧ k = !xs.isEmpty) ∨ (∃ xs, SqT X.K H p xs ∧ k = !xs.isEmpty) ∨ ∃ kvs, H p = some (.dK kvs) ∧ k = !kvs.isEmpty := e
    rcases e' with ⟨xs, hx, e'⟩ | ⟨xs, hx, e'⟩ | ⟨kvs, hx, e'⟩
    · subst e'
      obtain ⟨its, r, pl, hz⟩ := I.list hx
      have hlen := r.length
      exact wpAny_truthy_list pl.isList (by simp only [List.size_toArray]; omega) ⟨H, I.tok _, by rw [isEmpty_of r]; exact q⟩
    · subst e'
      obtain ⟨its, r, pl, hz⟩ := I.tuple hx
      have hlen := r.length
      exact truthy_tuple pl (by simp only [List.size_toArray]; omega) ⟨H, I.tok _, by rw [isEmpty_of r]; exact q⟩
    · subst e'
      obtain ⟨hz, hS, vs, r, m⟩ : kvs.length ≤ sizeLine ∧ (p == sysModules) = false ∧ ∃ vs, KV kvs vs ∧ s.heap.DictOf (mixKind X.prog X.w) p vs := I.hok p _ hx
      have hlen : kvs.length = vs.length := Paired.length r
      exact wpAny_truthy_dict hS m (by omega) ⟨H, I.tok _, by rw [isEmpty_kv r]; exact q⟩
  | _ => exact (show False from e).elim
/-- any expression whose test is its value's truth (a name, a call, a subscript, a field ..: he by fun _ => rfl) -/
theorem pt_truth (ha : PE X a ta) (he : ∀ whole, isTrue a X.env whole = (do let v ← whole; standAt a.pos; holding [v] (truthy v))) :
    PT X a (fun σ H Q => ta σ H fun x H' => ∃ k, TruV X.K x H' k ∧ Q k H') := by
  intro pins s σ H Q I h
  exact isTrue_plain (thn (ha pins s σ H _ I h) fun v s1 ⟨x, H1, I1, r1, q1⟩ => tru_ok pins s1 σ H1 x v Q I1 r1 q1) (he _)

/-! ### strs and bytes -/
theorem pe_byt {x : List UInt8} {k : Nat} : PE X (.Constant (.bytes x) k pos) (fun _ H Q => Q (.byt x.toArray) H) := fun _ _ _ H _ I h => PySem.W.Constant_bytes ⟨.byt x.toArray, H, I.tok _, ⟨_, rfl⟩, h⟩
theorem op_add_str : OpR X (binaryOp .Add) (fun x y H Q => ∃ i j, x = .str i ∧ y = .str j ∧ i.length + j.length ≤ sizeLine ∧ Q (.str (i ++ j)) H) := by
  intro pins s σ H x y v u Q I rx ry h
  obtain ⟨i, j, rfl, rfl, hz, q⟩ := h
  obtain ⟨t, rfl⟩ := rx
  obtain ⟨t', rfl⟩ := ry
  exact add_str (fun t' tk => ⟨.str (i ++ j), H, I.tok _, ⟨_, rfl⟩, q⟩) hz
theorem iop_add_str : OpR X (inplaceOp .Add) (fun x y H Q => ∃ i j, x = .str i ∧ y = .str j ∧ i.length + j.length ≤ sizeLine ∧ Q (.str (i ++ j)) H) := by
  intro pins s σ H x y v u Q I rx ry h
  obtain ⟨i, j, rfl, rfl, hz, q⟩ := h
  obtain ⟨t, rfl⟩ := rx
  obtain ⟨t', rfl⟩ := ry
  exact iadd_str (fun t' tk => ⟨.str (i ++ j), H, I.tok _, ⟨_, rfl⟩, q⟩) hz
theorem op_add_byt : OpR X (binaryOp .Add) (fun x y H Q => ∃ i j, x = .byt i ∧ y = .byt j ∧ i.size + j.size ≤ 16777216 ∧ Q (.byt (i ++ j)) H) := by
  intro pins s σ H x y v u Q I rx ry h
  obtain ⟨i, j, rfl, rfl, hz, q⟩ := h
  obtain ⟨t, rfl⟩ := rx
  obtain ⟨t', rfl⟩ := ry
  exact PySem.W.KBy.add_bytes hz (fun t' tk => ⟨.byt (i ++ j), H, I.tok _, ⟨_, rfl⟩, q⟩)

def PlainIxT (b : Expr) : Prop := ∀ o i, subscripted b false o i = operate [o, i] (getItem o i)
/-- s[i], 0 ≤ i < len -/
theorem pe_item_str (ha : PE X a ta) (hb : PE X b tb) (hs : PlainIxT b) :
    PE X (.Subscript a b pos) (tOp (fun x y H Q => ∃ z i c, x = .str z ∧ y = .int i ∧ 0 ≤ i ∧ i < 2 ^ 63 ∧ i < z.length ∧ z.cps[i.toNat]? = some c ∧ Q (.str ⟨#[c]⟩) H) ta tb) := by
  intro pins s σ H Q I h
  refine Subscript_ (binT ha hb I h fun v u s2 x y H2 I2 rx ry q => ?_)
  obtain ⟨z, i, c, rfl, rfl, h0, h63, h1, hc, q⟩ := q
  obtain ⟨t, rfl⟩ := rx
  obtain ⟨t', rfl⟩ := ry
  have e : seqIndex? i z.length = some i.toNat := PySem.StrLaws.seqIndex_nonneg h0 h1
  exact tail_any (typeIs_str s2 z t) slot_str_getitem.lookup (getItem_str (c := c) (by
    have e1 : decide (i < -(2 ^ 63 : Int)) = false := decide_eq_false (by omega)
    have e2 : decide (i ≥ 2 ^ 63) = false := decide_eq_false (by omega)
    rw [e1, e2] <;> rfl) (by rw [e]; exact hc) ⟨.str ⟨#[c]⟩, H2, I2.tok _, ⟨_, rfl⟩, q⟩) (hs _ _)
/-- b[i], 0 ≤ i < len -/
theorem pe_item_byt (ha : PE X a ta) (hb : PE X b tb) (hs : PlainIxT b) :
    PE X (.Subscript a b pos) (tOp (fun x y H Q => ∃ (z : List UInt8) (i : Int), x = .byt z.toArray ∧ y = .int i ∧ z.length ≤ sizeLine ∧ 0 ≤ i ∧ i < z.length ∧ Q (.int ((z.getD i.toNat 0).toNat : Nat)) H) ta tb) := by
  intro pins s σ H Q I h
  refine Subscript_ (binT ha hb I h fun v u s2 x y H2 I2 rx ry q => ?_)
  obtain ⟨z, i, rfl, rfl, hz, h0, h1, q⟩ := q
  obtain ⟨t, rfl⟩ := rx
  obtain ⟨t', rfl⟩ := ry
  have hl : sizeLine = 16777216 := sizeLine_eq
  exact tail_any (PySem.W.typeIs_bytes s2 z.toArray t) PySem.W.FB.slot_bytes_getitem.lookup (PySem.W.getItem_bytes (by omega) h0 h1 ⟨.int ((z.getD i.toNat 0).toNat : Nat), H2, I2.tok _, ⟨_, rfl⟩, q⟩) (hs _ _)

/-! ### scalar builtins, by CallR -/
theorem vals1 {x : V} {us : List Value} (r : Vals [x] us) : ∃ u, us = [u] ∧ RelV x u := by
  cases r with
  | cons r1 r2 => cases r2; exact ⟨_, rfl, r1⟩
theorem vals2 {x y : V} {us : List Value} (r : Vals [x, y] us) : ∃ u w', us = [u, w'] ∧ RelV x u ∧ RelV y w' := by
  cases r with
  | cons r1 r2 =>
    cases r2 with
    | cons r3 r4 => cases r4; exact ⟨_, _, rfl, r1, r3⟩
theorem call_abs : CallR X (.builtin "abs") (fun xs H Q => ∃ i, xs = [.int i] ∧ Q (.int (if i < 0 then -i else i)) H) := by
  intro pins s σ H xs us Q I r h
  obtain ⟨i, rfl, q⟩ := h
  obtain ⟨u, rfl, t, rfl⟩ := vals1 r
  exact call_abs_int fun u tk => ⟨.int (if i < 0 then -i else i), H, I.tok _, ⟨_, rfl⟩, q⟩
theorem call_max2 (hc : X.calm = true) : CallR X (.builtin "max") (fun xs H Q => ∃ i j, xs = [.int i, .int j] ∧ Q (.int (if j > i then j else i)) H) := by
  intro pins s σ H xs us Q I r h
  obtain ⟨i, j, rfl, q⟩ := h
  obtain ⟨u, w', rfl, ⟨t, rfl⟩, ⟨t', rfl⟩⟩ := vals2 r
  refine max_two_ints (I.ok.hd hc) fun h' tk k => ⟨_, H, I.kept k, ?_, q⟩
  by_cases hj : j > i
  · rw [if_pos hj, if_pos hj]; exact ⟨_, rfl⟩
  · rw [if_neg hj, if_neg hj]; exact ⟨_, rfl⟩
theorem call_min2 (hc : X.calm = true) : CallR X (.builtin "min") (fun xs H Q => ∃ i j, xs = [.int i, .int j] ∧ Q (.int (if j < i then j else i)) H) := by
  intro pins s σ H xs us Q I r h
  obtain ⟨i, j, rfl, q⟩ := h
  obtain ⟨u, w', rfl, ⟨t, rfl⟩, ⟨t', rfl⟩⟩ := vals2 r
  refine min_two_ints (I.ok.hd hc) fun h' tk k => ⟨_, H, I.kept k, ?_, q⟩
  by_cases hj : j < i
  · rw [if_pos hj, if_pos hj]; exact ⟨_, rfl⟩
  · rw [if_neg hj, if_neg hj]; exact ⟨_, rfl⟩
theorem call_int1 : CallR X (.type "int") (fun xs H Q => (∃ i, xs = [.int i] ∧ Q (.int i) H) ∨ ∃ k, xs = [.bl k] ∧ Q (.int (if k then 1 else 0)) H) := by
  intro pins s σ H xs us Q I r h
  rcases h with ⟨i, rfl, q⟩ | ⟨k, rfl, q⟩
  · obtain ⟨u, rfl, t, rfl⟩ := vals1 r
    exact call_int_int ⟨.int i, H, I, ⟨_, rfl⟩, q⟩
  · obtain ⟨u, rfl, r1⟩ := vals1 r
    cases r1
    exact call_int_bool ⟨.int (if k then 1 else 0), H, I.tok _, ⟨_, rfl⟩, q⟩
theorem call_bool1 : CallR X (.type "bool") (fun xs H Q => (∃ i, xs = [.int i] ∧ Q (.bl (i != 0)) H) ∨ ∃ k, xs = [.bl k] ∧ Q (.bl k) H) := by
  intro pins s σ H xs us Q I r h
  rcases h with ⟨i, rfl, q⟩ | ⟨k, rfl, q⟩
  · obtain ⟨u, rfl, t, rfl⟩ := vals1 r
    exact call_bool_int ⟨.bl (i != 0), H, I, rfl, q⟩
  · obtain ⟨u, rfl, r1⟩ := vals1 r
    cases r1
    exact call_bool_bool ⟨.bl k, H, I, rfl, q⟩
theorem call_str_int : CallR X (.type "str") (fun xs H Q => ∃ i, xs = [.int i] ∧ i.natAbs.log2 < 1920 ∧ Q (.str (toString i)) H) := by
  intro pins s σ H xs us Q I r h
  obtain ⟨i, rfl, hz, q⟩ := h
  obtain ⟨u, rfl, t, rfl⟩ := vals1 r
  exact PySem.P.str_of_int hz ⟨.str _, H, I.tok _, ⟨_, rfl⟩, q⟩
theorem call_ord : CallR X (.builtin "ord") (fun xs H Q => ∃ x, xs = [.str x] ∧ x.length = 1 ∧ Q (.int (x.cps.getD 0 0 : Nat)) H) := by
  intro pins s σ H xs us Q I r h
  obtain ⟨x, rfl, hz, q⟩ := h
  obtain ⟨u, rfl, t, rfl⟩ := vals1 r
  exact ord_of_one hz ⟨.int _, H, I.tok _, ⟨_, rfl⟩, q⟩
theorem call_chr : CallR X (.builtin "chr") (fun xs H Q => ∃ i, xs = [.int i] ∧ 0 ≤ i ∧ i ≤ 1114111 ∧ Q (.str ⟨#[i.toNat]⟩) H) := by
  intro pins s σ H xs us Q I r h
  obtain ⟨i, rfl, h0, h1, q⟩ := h
  obtain ⟨u, rfl, t, rfl⟩ := vals1 r
  exact chr_of_range h0 h1 ⟨.str _, H, I.tok _, ⟨_, rfl⟩, q⟩
/-- len of a str, a bytes, a list, a tuple -/
def LenV (K : PySem.W.Frag) (x : V) (H : Hp) (n : Nat) : Prop :=
  match x with
  | .str y => y.length ≤ sizeLine ∧ n = y.length
  | .byt y => y.size ≤ sizeLine ∧ n = y.size
  | .ref p => (∃ xs, SqL K H p xs ∧ n = xs.length) ∨ ∃ xs, SqT K H p xs ∧ n = xs.length
  | _ => False
theorem call_len : CallR X (.builtin "len") (fun xs H Q => ∃ x n, xs = [x] ∧ LenV X.K x H n ∧ Q (.int n) H) := by
  intro pins s σ H xs us Q I r h
  obtain ⟨x, n, rfl, e, q⟩ := h
  obtain ⟨u, rfl, rx⟩ := vals1 r
  have hl := line63
  have hs : sizeLine = 16777216 := sizeLine_eq
  cases x with
  | str y =>
    obtain ⟨t, rfl⟩ := rx
    obtain ⟨hy, e'⟩ : y.length ≤ sizeLine ∧ n = y.length := e
    subst e'
    exact len_str (by omega) ⟨.int _, H, I.tok _, ⟨_, rfl⟩, q⟩
  | byt y =>
    obtain ⟨t, rfl⟩ := rx
    obtain ⟨hy, e'⟩ : y.size ≤ sizeLine ∧ n = y.size := e
    subst e'
    exact PySem.W.len_bytes (by omega) ⟨.int _, H, I.tok _, ⟨_, rfl⟩, q⟩
  | ref p =>
    cases rx
    have e' : (∃ xs, SqL X.K H p xs ∧ n = xs.length) ∨ ∃ xs, SqT X.K H p xs ∧ n = xs.length := e
    rcases e' with ⟨xs, hx, e'⟩ | ⟨xs, hx, e'⟩
    · subst e'
      obtain ⟨its, r', pl, hz⟩ := I.list hx
      have hlen := r'.length
      exact Calls.call_len_list pl.isList (by simp only [List.size_toArray]; omega) ⟨.int xs.length, H, I.tok _, ⟨_, by simp only [List.size_toArray]; rw [hlen]⟩, q⟩
    · subst e'
      obtain ⟨its, r', pl, hz⟩ := I.tuple hx
      have hlen := r'.length
      exact len_tuple pl (by simp only [List.size_toArray]; omega) ⟨.int xs.length, H, I.tok _, ⟨_, by simp only [List.size_toArray]; rw [hlen]⟩, q⟩
  | _ => exact (show False from e).elim
/-- divmod: a new tuple -/
theorem call_divmod : CallR X (.builtin "divmod") (fun xs H Q => ∃ i j, xs = [.int i, .int j] ∧ CDiv i j ∧ ∀ p, H p = none → Q (.ref p) (upd H p (.tup [.int (i / j), .int (i % j)]))) := by
  intro pins s σ H xs us Q I r h
  obtain ⟨i, j, rfl, ⟨h1, h2⟩, q⟩ := h
  obtain ⟨u, w', rfl, ⟨t, rfl⟩, ⟨t', rfl⟩⟩ := vals2 r
  refine divmod_int (by omega) ?_ (.inl (PyProof.noPylong_small (by omega)))
  rw [Int.fdiv_eq_ediv_of_nonneg i (by omega), Int.fmod_eq_emod_of_nonneg i (by omega)]
  have hn : H s.heap.objs.size = none := I.hok.fresh (Nat.le_refl _)
  refine ⟨.ref s.heap.objs.size, _, ?_, rfl, q _ hn⟩
  refine I.laid (fun b o e => Heap.get?_push_of_some _ e) (Nat.le_refl _) ⟨by simp only [List.length_cons, List.length_nil]; rw [sizeLine_eq]; decide, [.int (i / j) s.toks, .int (i % j) (s.toks + 1)], .cons ⟨_, rfl⟩ (.cons ⟨_, rfl⟩ .nil), ?_⟩
  exact ⟨_, Heap.get?_push_size s.heap rfl, rfl, 0, rfl⟩
end
end L2

namespace L2
open PySem PySem.Spec PyProof.Rows

/-! ### an instance, its attributes a map -/
structure ObjM (h : Heap) (x dx C : Addr) (mA : Str → Option Value) : Prop where
  obj : h.get? x = some (PySem.W.instObj C dx)
  ns : h.Ns1 dx mA
  ne : dx ≠ x

theorem lookIn_ns {h : Heap} {dx : Addr} {mA : Str → Option Value} (n : h.Ns1 dx mA) : ∃ od, h.get? dx = some od ∧ ∀ name, PySem.W.lookIn name od = some (mA name) := by
  obtain ⟨o, es, ep, ho, hd, hk, _, hm⟩ := n
  refine ⟨o, ho, fun name => ?_⟩
  have e := hm name
  unfold nsFind findBy at e
  rw [← Array.find?_toList] at e
  unfold PySem.W.lookIn
  rw [hd]
  dsimp only
  split
  · rename_i y q
    rw [q] at e
    exact congrArg some e
  · rename_i q
    rw [q] at e
    have a : es.toList.any (·.refKey) = false := by
      rw [List.any_eq_false]
      intro y hy
      obtain ⟨z, t, hkey⟩ := hk y (Array.mem_toList_iff.mp hy)
      simp [DictEntry.refKey, hkey]
    have a' : ¬ es.toList.any (·.refKey) = true := by rw [a]; exact Bool.false_ne_true
    rw [if_neg a']
    exact congrArg some e

theorem ObjM.look {h : Heap} {x dx C : Addr} {mA : Str → Option Value} (I : ObjM h x dx C mA) : ∃ od, PySem.W.InstAt h x (PySem.W.instObj C dx) C (some od) ∧ ∀ name, PySem.W.lookIn name od = some (mA name) :=
  let ⟨od, ho, hl⟩ := lookIn_ns I.ns
  ⟨od, ⟨I.obj, rfl, rfl, ho⟩, hl⟩

section
variable {prog : Program} {w : World} {A : Around} {E : Value → Shared → Prop} {s : Shared} {K : PySem.W.Frag} {x dx C f : Addr} {mA : Str → Option Value} {name : Str} {v : Value}

theorem get_map {expr : Bool} {Q : Value → Shared → Prop} (X : K.In s.heap) (I : ObjM s.heap x dx C mA) (hg : PySem.W.plainGet K C name = true) (hh : PySem.W.hasDictIn K C = true)
    (ha : PySem.W.findIn K (.ref C) name = some none) (hv : mA name = some v) (hv' : PySem.W.handedIn v = true) (h : Q v { s with toks := s.toks + 1 }) :
    wpAny (model prog w) A (getAttr (.ref x) name expr) Q E s := by
  obtain ⟨od, J, hl⟩ := I.look
  exact PySem.W.get_value X J (PySem.W.plainGet_of hg).1 (PySem.W.findObj_own hh ha rfl (by rw [hl, hv])) hv' h

theorem get_const {expr : Bool} {a : Value} {Q : Value → Shared → Prop} (X : K.In s.heap) (I : ObjM s.heap x dx C mA) (hg : PySem.W.plainGet K C name = true) (hh : PySem.W.hasDictIn K C = true)
    (ha : PySem.W.findIn K (.ref C) name = some (some a)) (hn : PySem.W.specialIn K a "__get__" = some none) (hc : PySem.W.copiedNames.contains name = false) (hv : mA name = none) (hv' : PySem.W.handedIn a = true)
    (h : Q a { s with toks := s.toks + 1 }) : wpAny (model prog w) A (getAttr (.ref x) name expr) Q E s := by
  obtain ⟨od, J, hl⟩ := I.look
  exact PySem.W.get_value X J (PySem.W.plainGet_of hg).1 (PySem.W.findObj_cls hh ha hn hv' hc (by rw [hl, hv])) hv' h

theorem get_meth {pl : Sem Bool} {Q : Value × List Value → Shared → Prop} (X : K.In s.heap) (I : ObjM s.heap x dx C mA) (hg : PySem.W.plainGet K C name = true)
    (hf : PySem.W.findIn K (.ref C) name = some (some (.ref f))) (ht : PySem.W.isFn K (.ref f) = true) (hv : mA name = none) (h : Q (.ref f, [.ref x]) s) :
    wpAny (model prog w) A (getMethod (.ref x) name pl) Q E s := by
  obtain ⟨od, J, hl⟩ := I.look
  exact PySem.W.method_fn X J (PySem.W.plainGet_of hg).1 (PySem.W.plainGet_of hg).2 hf (beq_iff_eq.mp ht) (by show (PySem.W.lookIn name od).map (·.isSome) = some false; rw [hl, hv]; rfl) h

theorem set_map {ns : List Str} {Q : Unit → Shared → Prop} (X : K.In s.heap) (I : ObjM s.heap x dx C mA)
    (hs : PySem.W.findIn K (.ref C) "__setattr__" = some (some (.builtin "object.__setattr__"))) (hp : PySem.W.plainOver K C = true) (ht : PySem.W.takerIn K C name = some none) (hh : PySem.W.hasDictIn K C = true)
    (hw : PySem.Within mA ns) (hsz : ns.length ≤ sizeLine)
    (h : ∀ h', ObjM h' x dx C (fun y => if y = name then some v else mA y) → Heap.SameBut dx s.heap h' → Q () { s with heap := h', toks := s.toks + 2 }) :
    wpAny (model prog w) A (setAttr (.ref x) name v) Q E s := by
  obtain ⟨od, J, hl⟩ := I.look
  refine PySem.W.set_plain X J hs (PySem.W.osa_open (s := { s with toks := s.toks + 1 }) (r := none) X J hp ht fun b => ?_)
  obtain ⟨cd, hc, hd'⟩ := PySem.W.any_some hh
  have hx : s.heap.get? x = some ⟨.ref C, some dx, .plain, #[]⟩ := I.obj
  refine wpAny_bind (wpAny_pure (wpAny_bind (wpAny_bind (wpAny_loadPart hx (wpAny_bind (PySem.W.Looks.here (s := { s with toks := s.toks + 1 }) (PySem.W.looks_clsIn X hc) ?_))))))
  rw [hd']
  refine wpAny_pure (a := some dx) (wpAny_bind (wpAny_pure (wpAny_bind ?_)))
  refine wpAny_nsSet1 (s := { s with toks := s.toks + 1 }) I.ns fun h' hn2 hs2 => ?_
  obtain ⟨oD, esD, epD, hoD, hdD, hcD⟩ := hn2.count (PySem.Within.cons name v hw)
  refine wpAny_bind (wpAny_lookBehind hoD (by rw [hdD]; exact pastItsLine_dict (Nat.le_trans hcD (by rw [List.length_cons]; omega))) ?_)
  exact wpAny_pure (h _ ⟨(hs2.2 _ (Ne.symm I.ne)).trans I.obj, hn2, I.ne⟩ hs2)

/-- C(..): the dict at the heap's end, the instance behind it; then its __init__ -/
theorem make_map {R : Result → Shared → Prop} {vs : List Value} {kw : List (Str × Value)} (X : K.In s.heap) (hm : PySem.W.makesIn K C = true)
    (hi : PySem.W.findIn K (.ref C) "__init__" = some (some (.ref f))) (hf : PySem.W.typeIn K (.ref f) = some (.type "function"))
    (h : codeAny (model prog w) (A.under (.builtin "type.__call__" ⟨.ref C :: vs, kw⟩)) (.call (.ref f) ⟨.ref (s.heap.objs.size + 1) :: vs, kw⟩) (PySem.W.InitBack (s.heap.objs.size + 1) R)
      { s with heap := (s.heap.push PySem.W.emptyDict).push (PySem.W.instObj C s.heap.objs.size) }) :
    codeAny (model prog w) A (.call (.ref C) ⟨vs, kw⟩) R s := by
  obtain ⟨hh, g, d, t, os⟩ := s
  exact PySem.W.make_core (PySem.W.makes_of X hm) (PySem.W.looks_findIn X hi) (fun self => PySem.W.bind_fn X self hf) (.inl rfl) h
/-- C() where there is no __init__ but object's -/
theorem make_map0 {R : Result → Shared → Prop} (X : K.In s.heap) (hm : PySem.W.makesIn K C = true)
    (hi : PySem.W.findIn K (.ref C) "__init__" = some (some (.builtin "object.__init__")))
    (hb : ∀ self, PySem.W.Looks (model prog w) s.heap (bindSpecial (.builtin "object.__init__") self) (.builtin "object.__init__", [self]))
    (h : codeAny (model prog w) (A.under (.builtin "type.__call__" ⟨[.ref C], []⟩)) (.call (.builtin "object.__init__") ⟨[.ref (s.heap.objs.size + 1)], []⟩) (PySem.W.InitBack (s.heap.objs.size + 1) R)
      { s with heap := (s.heap.push PySem.W.emptyDict).push (PySem.W.instObj C s.heap.objs.size) }) :
    codeAny (model prog w) A (.call (.ref C) ⟨[], []⟩) R s := by
  obtain ⟨hh, g, d, t, os⟩ := s
  exact PySem.W.make_core (PySem.W.makes_of X hm) (PySem.W.looks_findIn X hi) hb (.inr ⟨rfl, rfl⟩) h
end

/-! ### the attributes as a list of pairs -/
def putF (f : Str) (v : V) : List (Str × V) → List (Str × V)
  | [] => [(f, v)]
  | (g, x) :: r => if g = f then (g, v) :: r else (g, x) :: putF f v r
theorem lookup_putF (f g : Str) (v : V) : ∀ fs : List (Str × V), (putF f v fs).lookup g = if g = f then some v else fs.lookup g
  | [] => by
    show List.lookup g [(f, v)] = _
    by_cases h : g = f
    · have hb : (g == f) = true := beq_iff_eq.mpr h
      simp only [List.lookup, hb, if_pos h]
    · have hb : (g == f) = false := beq_eq_false_iff_ne.mpr h
      simp only [List.lookup, hb, if_neg h]
  | (k, x) :: r => by
    have ih := lookup_putF f g v r
    rw [show putF f v ((k, x) :: r) = (if k = f then (k, v) :: r else (k, x) :: putF f v r) from rfl]
    by_cases hk : k = f
    · rw [if_pos hk]
      by_cases h : g = k
      · have hb : (g == k) = true := beq_iff_eq.mpr h
        simp only [List.lookup, hb, if_pos (h.trans hk)]
      · have hb : (g == k) = false := beq_eq_false_iff_ne.mpr h
        simp only [List.lookup, hb, if_neg (fun e : g = f => h (e.trans hk.symm))]
    · rw [if_neg hk]
      by_cases h : g = k
      · have hb : (g == k) = true := beq_iff_eq.mpr h
        simp only [List.lookup, hb, if_neg (fun e : g = f => hk (h.symm.trans e))]
      · have hb : (g == k) = false := beq_eq_false_iff_ne.mpr h
        simp only [List.lookup, hb]
        exact ih
theorem keys_putF (f : Str) (v : V) : ∀ fs : List (Str × V), f ∈ (putF f v fs).map (·.1) ∧ ∀ g, g ∈ fs.map (·.1) → g ∈ (putF f v fs).map (·.1)
  | [] => ⟨by simp [putF], fun g h => by simp at h⟩
  | (k, x) :: r => by
    obtain ⟨i1, i2⟩ := keys_putF f v r
    rw [show putF f v ((k, x) :: r) = (if k = f then (k, v) :: r else (k, x) :: putF f v r) from rfl]
    by_cases hk : k = f
    · rw [if_pos hk]
      subst hk
      exact ⟨by simp, fun g h => by simpa using h⟩
    · rw [if_neg hk]
      refine ⟨?_, fun g h => ?_⟩
      · rw [List.map_cons]
        exact List.mem_cons_of_mem _ i1
      · rw [List.map_cons] at h ⊢
        rcases List.mem_cons.mp h with e | e
        · exact List.mem_cons.mpr (.inl e)
        · exact List.mem_cons_of_mem _ (i2 g e)
theorem length_putF (f : Str) (v : V) : ∀ fs : List (Str × V), (putF f v fs).length ≤ fs.length + 1
  | [] => by simp [putF]
  | (k, x) :: r => by
    have ih := length_putF f v r
    rw [show putF f v ((k, x) :: r) = (if k = f then (k, v) :: r else (k, x) :: putF f v r) from rfl]
    by_cases hk : k = f
    · rw [if_pos hk, List.length_cons, List.length_cons]; omega
    · rw [if_neg hk, List.length_cons, List.length_cons]; omega

theorem RelO.some_of {v : V} {o : Option Value} (r : RelO (some v) o) : ∃ u, o = some u ∧ RelV v u := by
  cases o with
  | none => exact (show False from r).elim
  | some u => exact ⟨u, rfl, r⟩
theorem RelO.none_of {o : Option Value} (r : RelO none o) : o = none := by
  cases o with
  | none => rfl
  | some u => exact (show False from r).elim
theorem handed_of {v : V} {u : Value} (r : RelV v u) : PySem.W.handedIn u = true := by
  cases v with
  | non => cases (show u = Value.none from r); rfl
  | bl b => cases (show u = Value.bool b from r); rfl
  | int i => obtain ⟨t, e⟩ := (show ∃ t, u = Value.int i t from r); cases e; rfl
  | str x => obtain ⟨t, e⟩ := (show ∃ t, u = Value.str x t from r); cases e; rfl
  | byt b => obtain ⟨t, e⟩ := (show ∃ t, u = Value.bytes b t from r); cases e; rfl
  | flt b => obtain ⟨t, e⟩ := (show ∃ t, u = Value.float b t from r); cases e; rfl
  | ref a => cases (show u = Value.ref a from r); rfl
  | ty n => cases (show u = Value.type n from r); rfl

section
variable {P : Program} {w : World} {H H' : Hp} {h h' : Heap} {a C dx : Addr} {fs fs' : List (Str × V)}
theorem ins_get (hok : HOk P w H h) (e : H a = some (.ins C dx fs)) : ∃ mA, ObjM h a dx C mA ∧ (∀ f, RelO (fs.lookup f) (mA f)) ∧ PySem.Within mA (fs.map (·.1)) ∧ fs.length ≤ 1000 ∧ H dx = some (.own a) := by
  obtain ⟨d, z, ne, ob, mA, n, r, q⟩ := (show ObjOk P w H h a (.ins C dx fs) from hok a _ e)
  exact ⟨mA, ⟨ob, n, ne⟩, r, q, z, d⟩
end

/-! ### what of the text a class must have -/
structure Cls (K : PySem.W.Frag) (C : Addr) : Prop where
  pg : PySem.W.plainGet K C Str.empty = true
  hd : PySem.W.hasDictIn K C = true
  po : PySem.W.plainOver K C = true
  sa : PySem.W.findIn K (.ref C) "__setattr__" = some (some (.builtin "object.__setattr__"))
theorem Cls.get {K : PySem.W.Frag} {C : Addr} (c : Cls K C) (f : Str) : PySem.W.plainGet K C f = true := c.pg
/-- no class of it has the name -/
def NoAttr (K : PySem.W.Frag) (C : Addr) (f : Str) : Prop := PySem.W.findIn K (.ref C) f = some none
theorem NoAttr.taker {K : PySem.W.Frag} {C : Addr} {f : Str} (n : NoAttr K C f) : PySem.W.takerIn K C f = some none := by
  unfold PySem.W.takerIn
  rw [show PySem.W.findIn K (.ref C) f = some none from n]
  rfl
/-- a constant of the class -/
structure Con (K : PySem.W.Frag) (C : Addr) (f : Str) (v : V) (u : Value) : Prop where
  at_ : PySem.W.findIn K (.ref C) f = some (some u)
  rel : RelV v u
  get : PySem.W.specialIn K u "__get__" = some none
  cp : PySem.W.copiedNames.contains f = false
/-- a method: a plain def of the class or of one above it -/
structure Meth (K : PySem.W.Frag) (C : Addr) (m : Str) (f : Addr) : Prop where
  at_ : PySem.W.findIn K (.ref C) m = some (some (.ref f))
  fn : PySem.W.isFn K (.ref f) = true
  kp : PySem.W.keepIn K (.ref f) = true

section
variable {X : Cx} {pins : List (Addr × Obj)} {σ : St} {H : Hp} {s : Shared} {a C dx : Addr} {fs : List (Str × V)} {f : Str} {v : V} {A : Around} {E : Value → Shared → Prop}

theorem getattr_ok {b : Bool} {Q : Value → Shared → Prop} (I : Inv X pins σ H s) (e : H a = some (.ins C dx fs)) (c : Cls X.K C) (n : NoAttr X.K C f) (l : fs.lookup f = some v)
    (h : ∀ u s', Inv X pins σ H s' → RelV v u → Q u s') : wpAny (model X.prog X.w) A (getAttr (.ref a) f b) Q E s := by
  obtain ⟨mA, O, r, _, _, _⟩ := ins_get I.hok e
  obtain ⟨u, hu, ru⟩ := RelO.some_of (v := v) (o := mA f) (by rw [← l]; exact r f)
  exact get_map I.kIn O (c.get f) c.hd n hu (handed_of ru) (h u _ (I.tok _) ru)

theorem getcon_ok {b : Bool} {u : Value} {Q : Value → Shared → Prop} (I : Inv X pins σ H s) (e : H a = some (.ins C dx fs)) (c : Cls X.K C) (k : Con X.K C f v u) (l : fs.lookup f = none)
    (h : ∀ s', Inv X pins σ H s' → Q u s') : wpAny (model X.prog X.w) A (getAttr (.ref a) f b) Q E s := by
  obtain ⟨mA, O, r, _, _, _⟩ := ins_get I.hok e
  have hn : mA f = none := RelO.none_of (by rw [← l]; exact r f)
  exact get_const I.kIn O (c.get f) c.hd k.at_ k.get k.cp hn (handed_of k.rel) (h _ (I.tok _))

theorem getmeth_ok {m : Str} {g : Addr} {pl : Sem Bool} {Q : Value × List Value → Shared → Prop} (I : Inv X pins σ H s) (e : H a = some (.ins C dx fs)) (c : Cls X.K C) (k : Meth X.K C m g) (l : fs.lookup m = none)
    (h : Q (.ref g, [.ref a]) s) : wpAny (model X.prog X.w) A (getMethod (.ref a) m pl) Q E s := by
  obtain ⟨mA, O, r, _, _, _⟩ := ins_get I.hok e
  have hn : mA m = none := RelO.none_of (by rw [← l]; exact r m)
  exact get_meth I.kIn O (c.get m) k.at_ k.fn hn h

theorem setattr_ok {y : V} {u : Value} {Q : Unit → Shared → Prop} (I : Inv X pins σ H s) (e : H a = some (.ins C dx fs)) (c : Cls X.K C) (n : NoAttr X.K C f) (hl : fs.length < 1000) (ry : RelV y u)
    (h : ∀ s', Inv X pins σ (upd H a (.ins C dx (putF f y fs))) s' → Q () s') : wpAny (model X.prog X.w) A (setAttr (.ref a) f u) Q E s := by
  obtain ⟨mA, O, r, wi, _, ho⟩ := ins_get I.hok e
  have hz : (fs.map (·.1)).length ≤ sizeLine := by rw [List.length_map, sizeLine_eq]; omega
  refine set_map I.kIn O c.sa c.po n.taker c.hd wi hz fun h' O' sb => h _ ?_
  have hd : ∃ o, h'.get? dx = some o := let ⟨o, _, _, e', _⟩ := O'.ns; ⟨o, e'⟩
  refine I.write (x := a) (e := dx) (by rw [e]; exact True.intro) (.inr ho) (fun b q hb z => (sb.2 b hb).trans z) hd ?_
  refine ⟨by rw [upd_ne O.ne]; exact ho, ?_, O.ne, O'.obj, _, O'.ns, fun g => ?_, fun g hg => ?_⟩
  · have := length_putF f y fs; omega
  · show RelO ((putF f y fs).lookup g) (if g = f then some u else mA g)
    rw [lookup_putF]
    by_cases q : g = f
    · rw [if_pos q, if_pos q]; exact ry
    · rw [if_neg q, if_neg q]; exact r g
  · by_cases q : g = f
    · rw [q]; exact (keys_putF f y fs).1
    · refine (keys_putF f y fs).2 g (wi g fun z => hg ?_)
      show (if g = f then some u else mA g) = none
      rw [if_neg q]; exact z

/-- a new instance, tracked, without attributes -/
theorem Inv.made (I : Inv X pins σ H s) : Inv X pins σ (upd (upd H s.heap.objs.size (.own (s.heap.objs.size + 1))) (s.heap.objs.size + 1) (.ins C s.heap.objs.size []))
    { s with heap := (s.heap.push PySem.W.emptyDict).push (PySem.W.instObj C s.heap.objs.size) } := by
  have e1 : (s.heap.push PySem.W.emptyDict).get? s.heap.objs.size = some PySem.W.emptyDict := Heap.get?_push_size s.heap rfl
  have e2 : ((s.heap.push PySem.W.emptyDict).push (PySem.W.instObj C s.heap.objs.size)).get? (s.heap.objs.size + 1) = some (PySem.W.instObj C s.heap.objs.size) := by
    have := Heap.get?_push_size (s.heap.push PySem.W.emptyDict) (o := PySem.W.instObj C s.heap.objs.size) rfl
    rwa [Heap.size_push] at this
  have e3 : (s.heap.push PySem.W.emptyDict).Ns s.heap.objs.size (fun _ => none) := ⟨PySem.W.emptyDict, #[], _, e1, rfl, (fun e he => absurd he (by simp)), fun _ => rfl⟩
  have I1 := I.laid (a := s.heap.objs.size) (o := .own (s.heap.objs.size + 1)) (h' := s.heap.push PySem.W.emptyDict) (t' := s.toks) (fun b u q => Heap.get?_push_of_some _ q) (Nat.le_refl _) ⟨_, e1⟩
  refine I1.laid (a := s.heap.objs.size + 1) (o := .ins C s.heap.objs.size []) (t' := s.toks) (fun b u q => Heap.get?_push_of_some _ q) (Nat.le_of_eq (Heap.size_push _ _)) ?_
  have ne : s.heap.objs.size ≠ s.heap.objs.size + 1 := Nat.ne_of_lt (Nat.lt_succ_self _)
  refine ⟨by rw [upd_ne ne, upd_same], Nat.zero_le _, ne, e2, fun _ => none, (Heap.Ns1.of_empty e3).at fun o q => Heap.get?_push_of_some _ q, fun _ => True.intro, fun y hy => absurd rfl hy⟩

/-- e.f where nothing but the object is asked: through attributeBase (super) and the last hold -/
theorem attr_of {prog : Program} {w : World} {env : Env} {e : Expr} {f : Str} {pos : Pos} {s : Shared} {Q : Value → Shared → Prop} (hb : attributeBase e f env (eval e env) = eval e env)
    (h : wpAny (model prog w) A (eval e env) (fun o s₁ => wpAny (model prog w) A (getAttr o f true) Q E s₁) E s) : wpAny (model prog w) A (eval (.Attribute e f pos) env) Q E s :=
  Attribute_any_ h (by rw [arm_eval_Attribute, hb])
end

/-! ### readings and rules -/
/-- e.f, an attribute of the instance -/
def tFld (K : PySem.W.Frag) (ta : TE) (f : Str) : TE := fun σ H Q => ta σ H fun x H1 => ∃ a C dx fs v, x = .ref a ∧ H1 a = some (.ins C dx fs) ∧ Cls K C ∧ NoAttr K C f ∧ fs.lookup f = some v ∧ Q v H1
/-- e.f, a constant of the class -/
def tCon (K : PySem.W.Frag) (ta : TE) (f : Str) : TE := fun σ H Q => ta σ H fun x H1 => ∃ a C dx fs v u, x = .ref a ∧ H1 a = some (.ins C dx fs) ∧ Cls K C ∧ Con K C f v u ∧ fs.lookup f = none ∧ Q v H1
/-- e.f = value -/
def sFld (K : PySem.W.Frag) (ta tv : TE) (f : Str) : TS := fun D σ H => tv σ H fun y H1 => ta σ H1 fun x H2 => ∃ a C dx fs, x = .ref a ∧ H2 a = some (.ins C dx fs) ∧ Cls K C ∧ NoAttr K C f ∧ fs.length < 1000 ∧
  D.nx σ (upd H2 a (.ins C dx (putF f y fs)))
/-- an augmented operator on two values -/
def InOp (X : Cx) (op : Operator) (rd : V → V → Hp → VK → Prop) : Prop :=
  ∀ (pins : List (Addr × Obj)) (s : Shared) (σ : St) (H : Hp) (x y : V) (u v : Value) (Q : VK), Inv X pins σ H s → RelV x u → RelV y v → rd x y H Q → wpAny (model X.prog X.w) X.A (inplaceOp op u v) (EP X pins σ Q) X.xe s
/-- e.f op= value -/
def sFldAug (K : PySem.W.Frag) (ta tv : TE) (rd : V → V → Hp → VK → Prop) (f : Str) : TS := fun D σ H => ta σ H fun x H1 => ∃ a C dx fs v, x = .ref a ∧ H1 a = some (.ins C dx fs) ∧ Cls K C ∧ NoAttr K C f ∧ fs.lookup f = some v ∧
  tv σ H1 fun y H2 => rd v y H2 fun z H3 => ∃ dx' fs', H3 a = some (.ins C dx' fs') ∧ fs'.length < 1000 ∧ D.nx σ (upd H3 a (.ins C dx' (putF f z fs')))

section
variable {X : Cx} {o e value : Expr} {f : Str} {pos pos' tpos : Pos} {ta tv : TE}
theorem pe_fld (he : PE X e ta) (hb : attributeBase e f X.env (eval e X.env) = eval e X.env) : PE X (.Attribute e f pos) (tFld X.K ta f) := by
  intro pins s σ H Q I h
  refine attr_of hb (thn (he pins s σ H _ I h) fun u s1 ⟨x, H1, I1, rx, a, C, dx, fs, v, ex, ea, c, n, l, q⟩ => ?_)
  subst ex
  obtain rfl : u = Value.ref a := rx
  exact getattr_ok I1 ea c n l fun u' s2 I2 ru => ⟨v, H1, I2, ru, q⟩
theorem pe_con (he : PE X e ta) (hb : attributeBase e f X.env (eval e X.env) = eval e X.env) : PE X (.Attribute e f pos) (tCon X.K ta f) := by
  intro pins s σ H Q I h
  refine attr_of hb (thn (he pins s σ H _ I h) fun u s1 ⟨x, H1, I1, rx, a, C, dx, fs, v, u0, ex, ea, c, k, l, q⟩ => ?_)
  subst ex
  obtain rfl : u = Value.ref a := rx
  exact getcon_ok I1 ea c k l fun s2 I2 => ⟨v, H1, I2, k.rel, q⟩
theorem ps_fld (ha : PE X o ta) (hv : PE X value tv) (hs : swapsWith value (some (.Attribute o f pos')) pos.line X.env = pure false) : PS X (.Assign [.Attribute o f pos'] value pos) (sFld X.K ta tv f) := by
  intro pins s σ H D I h
  refine plainObj_wpAny_Assign_Attribute (thn (hv pins s σ H _ I h) fun u s1 ⟨y, H1, I1, ry, q⟩ => thn (ha pins s1 σ H1 _ I1 q) fun ov s2 ⟨x, H2, I2, rx, a, C, dx, fs, ex, ea, c, n, l, q2⟩ => ?_) hs
  subst ex
  obtain rfl : ov = Value.ref a := rx
  exact setattr_ok I2 ea c n l ry fun s3 I3 => ⟨σ, _, I3, q2⟩
theorem ps_fldaug {op : Operator} {rd : V → V → Hp → VK → Prop} (ha : PE X o ta) (hv : PE X value tv) (hop : InOp X op rd) : PS X (.AugAssign (.Attribute o f tpos) op value pos) (sFldAug X.K ta tv rd f) := by
  intro pins s σ H D I h
  refine wpAny_AugAssign_AttributeAny (thn (ha pins s σ H _ I h) fun ov s1 ⟨x, H1, I1, rx, a, C, dx, fs, v, ex, ea, c, n, l, q⟩ => ?_)
  subst ex
  obtain rfl : ov = Value.ref a := rx
  refine getattr_ok I1 ea c n l fun u s2 I2 ru => thn (hv pins s2 σ H1 _ I2 q) fun w3 s3 ⟨y, H2, I3, ry, q3⟩ => thn (hop pins s3 σ H2 v y u w3 _ I3 ru ry q3) fun w4 s4 ⟨z, H3, I4, rz, dx', fs', ea', l', q4⟩ => ?_
  exact setattr_ok I4 ea' c n l' rz fun s5 I5 => ⟨σ, _, I5, q4⟩
def rAdd : V → V → Hp → VK → Prop := fun x y H Q => ∃ i j, x = .int i ∧ y = .int j ∧ Q (.int (i + j)) H
def rSub : V → V → Hp → VK → Prop := fun x y H Q => ∃ i j, x = .int i ∧ y = .int j ∧ Q (.int (i - j)) H
theorem in_add : InOp X .Add rAdd := by
  rintro pins s σ H x y u v Q I rx ry ⟨i, j, rfl, rfl, q⟩
  obtain ⟨t, rfl⟩ := (show ∃ t, u = Value.int i t from rx)
  obtain ⟨t', rfl⟩ := (show ∃ t', v = Value.int j t' from ry)
  exact PyProof.Rows.iadd_int ⟨.int (i + j), H, I.tok _, ⟨_, rfl⟩, q⟩
theorem in_sub : InOp X .Sub rSub := by
  rintro pins s σ H x y u v Q I rx ry ⟨i, j, rfl, rfl, q⟩
  obtain ⟨t, rfl⟩ := (show ∃ t, u = Value.int i t from rx)
  obtain ⟨t', rfl⟩ := (show ∃ t', v = Value.int j t' from ry)
  exact PyProof.Rows.isub_int ⟨.int (i - j), H, I.tok _, ⟨_, rfl⟩, q⟩

/-- what is between an instance and its method: the tree of a method call -/
theorem methcall_of {pl : Sem Bool} {m : Str} {apos : Pos} {args : List Expr} {pins : List (Addr × Obj)} {s : Shared} {σ : St} {H : Hp} {Q : Value → Shared → Prop} {te : TE} (he : PE X e te) (I : Inv X pins σ H s)
    (h : te σ H fun x H1 => ∃ a C dx fs g, x = .ref a ∧ H1 a = some (.ins C dx fs) ∧ Cls X.K C ∧ Meth X.K C m g ∧ fs.lookup m = none ∧
      ∀ s1, Inv X pins σ H1 s1 → wpAny (model X.prog X.w) X.A (callWith pos (.ref g) [.ref a] (backTo pos (starEach args X.env)) (backToKw pos (keywordEach [] X.env))) Q X.xe s1)
    (ht : eval (.Call (.Attribute e m apos) args [] pos) X.env = (do
      let ov ← eval e X.env
      standAt apos.atName
      let (f, first) ← holding [ov] (getMethod ov m pl)
      callWith pos f first (backTo pos (starEach args X.env)) (backToKw pos (keywordEach [] X.env)))) :
    wpAny (model X.prog X.w) X.A (eval (.Call (.Attribute e m apos) args [] pos) X.env) Q X.xe s := by
  refine PySem.W.methodCall_KW (pl := pl) (thn (he pins s σ H _ I h) fun u s1 ⟨x, H1, I1, rx, a, C, dx, fs, g, ex, ea, c, k, l, q⟩ => ?_) ht
  subst ex
  obtain rfl : u = Value.ref a := rx
  exact getmeth_ok I1 ea c k l (q s1 I1)
end

/-! ### isinstance -/
section
variable {X : Cx} {pins : List (Addr × Obj)} {σ : St} {H : Hp} {s : Shared} {A : Around} {E : Value → Shared → Prop} {Q : Value → Shared → Prop} {c : Value} {b : Bool}
/-- the type of a value, as the fragment's deciders take it; for an instance its class -/
inductive TyOf (K : PySem.W.Frag) (H : Hp) : V → Value → Prop where
  | non : TyOf K H .non (.type "NoneType")
  | bl (x : Bool) : TyOf K H (.bl x) (.type "bool")
  | int (i : Int) : TyOf K H (.int i) (.type "int")
  | str (x : Str) : TyOf K H (.str x) (.type "str")
  | flt (x : UInt64) : TyOf K H (.flt x) (.type "float")
  | lst {a : Addr} {xs : List V} (e : H a = some (.lst xs)) : TyOf K H (.ref a) (.type "list")
  | frz {a : Addr} {o : Obj} {xs : List V} (e : H a = some (.frz o (.lst xs))) : TyOf K H (.ref a) (.type "list")
  | tup {a : Addr} {xs : List V} (e : H a = some (.tup xs)) : TyOf K H (.ref a) (.type "tuple")
  | dK {a : Addr} {kvs : List (Key × V)} (e : H a = some (.dK kvs)) : TyOf K H (.ref a) (.type "dict")
  | dT {a : Addr} {kvs : List (List Key × V)} (e : H a = some (.dT kvs)) : TyOf K H (.ref a) (.type "dict")
  | ins {a C dx : Addr} {fs : List (Str × V)} (e : H a = some (.ins C dx fs)) (cl : Cls K C) (ha : PySem.W.findIn K (.ref C) "__class__" = some (some (.builtin "object.__class__")))
      (hn : PySem.W.specialIn K (.builtin "object.__class__") "__get__" = some (some (.builtin "getset_descriptor.__get__"))) (htk : PySem.W.takesIn K (.builtin "object.__class__") = some true)
      (hm : PySem.W.mroIn K C (.type "object") = some true) : TyOf K H (.ref a) (.ref C)
/-- isinstance(x, c) for one class c, a built-in or an own one: kitOne's answer -/
theorem isinst_ok {x : V} {u t : Value} (I : Inv X pins σ H s) (rx : RelV x u) (ty : TyOf X.K H x t) (e : PySem.W.kitOne X.K t c = some b) (h : ∀ tk, Q (.bool b) { s with toks := tk }) :
    wpAny (model X.prog X.w) A (call (.builtin "isinstance") [u, c]) Q E s := by
  cases ty with
  | non => cases (show u = Value.none from rx); exact PySem.W.kia_one PySem.W.kitx_none I.kIn True.intro e (fun z => nomatch z) h
  | bl y => cases (show u = Value.bool y from rx); exact PySem.W.kia_one PySem.W.kitx_bool I.kIn True.intro e (fun z => nomatch z) h
  | int i => obtain ⟨t, q⟩ := (show ∃ t, u = Value.int i t from rx); cases q; exact PySem.W.kia_one PySem.W.kitx_int I.kIn True.intro e (fun z => nomatch z) h
  | str y => obtain ⟨t, q⟩ := (show ∃ t, u = Value.str y t from rx); cases q; exact PySem.W.kia_one PySem.W.kitx_str I.kIn True.intro e (fun z => nomatch z) h
  | flt y => obtain ⟨t, q⟩ := (show ∃ t, u = Value.float y t from rx); cases q; exact PySem.W.kia_one PySem.W.kitx_float I.kIn True.intro e (fun z => nomatch z) h
  | @lst a xs ea =>
    cases (show u = Value.ref a from rx)
    obtain ⟨_, _, n, _, h1⟩ := (show ObjOk X.prog X.w H s.heap a (.lst xs) from I.hok a _ ea)
    exact PySem.W.kia_one PySem.W.kitx_list I.kIn ⟨_, h1, rfl⟩ e (fun z => nomatch z) h
  | @frz a ob xs ea =>
    cases (show u = Value.ref a from rx)
    obtain ⟨_, _, _, n, _, h1⟩ := (show ObjOk X.prog X.w H s.heap a (.frz ob (.lst xs)) from I.hok a _ ea)
    exact PySem.W.kia_one PySem.W.kitx_list I.kIn ⟨_, h1, rfl⟩ e (fun z => nomatch z) h
  | @tup a xs ea =>
    cases (show u = Value.ref a from rx)
    obtain ⟨_, _, _, p⟩ := (show ObjOk X.prog X.w H s.heap a (.tup xs) from I.hok a _ ea)
    obtain ⟨o, h1, h2, _⟩ := p
    exact PySem.W.kia_one PySem.W.kitx_tuple I.kIn ⟨o, h1, h2⟩ e (fun z => nomatch z) h
  | @dK a kvs ea =>
    cases (show u = Value.ref a from rx)
    obtain ⟨_, _, vs, _, p⟩ := (show ObjOk X.prog X.w H s.heap a (.dK kvs) from I.hok a _ ea)
    obtain ⟨o, es, ep, h1, h2, _⟩ := p
    exact PySem.W.kia_one PySem.W.kitx_dict I.kIn ⟨o, h1, h2.1⟩ e (fun z => nomatch z) h
  | @dT a kvs ea =>
    cases (show u = Value.ref a from rx)
    obtain ⟨_, _, xs, _, o, es, ep, h1, h2, _⟩ := (show ObjOk X.prog X.w H s.heap a (.dT kvs) from I.hok a _ ea)
    exact PySem.W.kia_one PySem.W.kitx_dict I.kIn ⟨o, h1, h2.1⟩ e (fun z => nomatch z) h
  | @ins a C dx fs ea cl ha hn htk hm =>
    cases (show u = Value.ref a from rx)
    obtain ⟨mA, O, _⟩ := ins_get I.hok ea
    obtain ⟨od, J, _⟩ := O.look
    exact PySem.W.kia_one (PySem.W.kitx_own (cl.get _) cl.hd ha hn htk hm) I.kIn J e (fun z => nomatch z) h
end
end L2

namespace L2
open PySem PySem.Spec PyProof.Rows

/-! ### room -/
structure Room (k : Nat) (A : Around) : Prop where
  hd : A.handled = none
  dp : A.depth + 3 * k + 5 < recursionLimit
  un : A.units + 16 * k + 200 < cLine
theorem Room.mono {j k : Nat} {A : Around} (r : Room k A) (h : j ≤ k) : Room j A := ⟨r.hd, by have := r.dp; omega, by have := r.un; omega⟩
theorem Room.deeper {k : Nat} {A : Around} (r : Room (k + 1) A) (env : Env) : Room k (A.deeper env) :=
  ⟨r.hd, by have := r.dp; show A.depth + 1 + 3 * k + 5 < _; omega, by have := r.un; show A.units + 3 + 16 * k + 200 < _; omega⟩
theorem Room.in1 {k : Nat} {A : Around} (r : Room (k + 1) A) : Room k A.in1 :=
  ⟨r.hd, by have := r.dp; show A.depth + 3 * k + 5 < _; omega, by have := r.un; show A.units + 1 + 16 * k + 200 < _; omega⟩
theorem make_depth {A : Around} {C : Addr} {us : List Value} {kw : List (Str × Value)} : (A.under (.builtin "type.__call__" ⟨.ref C :: us, kw⟩)).depth = A.depth + 1 := by
  first | rfl | simp [Around.under, Code.weight, Code.isCreation, Code.isGuard, Code.isCaller, Code.frames, Code.isFrame, guardIds]
theorem make_units {A : Around} {C : Addr} {us : List Value} {kw : List (Str × Value)} : (A.under (.builtin "type.__call__" ⟨.ref C :: us, kw⟩)).units = A.units + 1 := by
  first | rfl | simp [Around.under, Code.cUnits, Code.frames, Code.isFrame]
theorem Room.make {k : Nat} {A : Around} (r : Room (k + 1) A) (C : Addr) (us : List Value) (kw : List (Str × Value)) : Room k (A.under (.builtin "type.__call__" ⟨.ref C :: us, kw⟩)) :=
  ⟨r.hd, by have := r.dp; rw [make_depth]; omega, by have := r.un; rw [make_units]; omega⟩
theorem Room.depth {k : Nat} {A : Around} (r : Room k A) : A.depth < recursionLimit := by have := r.dp; omega
theorem Room.units {k : Nat} {A : Around} (r : Room k A) : A.units + 64 < cLine := by have := r.un; omega
theorem Room.units0 {k : Nat} {A : Around} (r : Room k A) : A.units < cLine := by have := r.un; omega

/-! ### argument lists and displays -/
def tNil : TA := fun _ H Q => Q [] H
def tCons (ta : TE) (tr : TA) : TA := fun σ H Q => ta σ H fun x H1 => tr σ H1 fun xs H2 => Q (x :: xs) H2
section
variable {X : Cx} {e : Expr} {es : List Expr} {te : TE} {t : TA} {pos : Pos}
theorem pa_nil : PA X [] tNil := fun _ _ _ _ H Q I h => Calls.spliced_nil ⟨[], H, I, .nil, h⟩
theorem pa_cons (ha : PE X e te) (hr : PA X es t) (hs : starEach (e :: es) X.env = (false, eval e X.env) :: starEach es X.env := by rfl) : PA X (e :: es) (tCons te t) := by
  intro pos pins s σ H Q I h
  rw [hs]
  show wpAny _ _ (spliced ((false, eval e X.env) :: backTo pos (starEach es X.env))) _ _ s
  refine Calls.spliced_cons (thn (ha pins s σ H _ I h) fun u s1 ⟨x, H1, I1, r1, q1⟩ => ?_)
  exact thn (hr pos pins s1 σ H1 _ I1 q1) fun us s2 ⟨xs, H2, I2, r2, q2⟩ => ⟨x :: xs, H2, I2, .cons r1 r2, q2⟩

/-- a tuple, a list of written items -/
def tTup (t : TA) : TE := fun σ H Q => t σ H fun xs H1 => xs.length ≤ sizeLine ∧ ∀ p, H1 p = none → Q (.ref p) (upd H1 p (.tup xs))
def tLst (t : TA) : TE := fun σ H Q => t σ H fun xs H1 => xs.length ≤ sizeLine ∧ ∀ p, H1 p = none → Q (.ref p) (upd H1 p (.lst xs))
theorem pe_tup {x1} (h : PA X es t) : PE X (.Tuple es x1 pos) (tTup t) := by
  intro pins s σ H Q I hq
  refine wpAny_Tuple_spliced (thn (h pos pins s σ H _ I hq) fun us s1 ⟨xs, H1, I1, r, z, q⟩ => ⟨by rw [← r.length]; exact z, ?_⟩)
  have hf : H1 s1.heap.objs.size = none := I1.hok.fresh (Nat.le_refl _)
  refine ⟨.ref s1.heap.objs.size, upd H1 s1.heap.objs.size (.tup xs), I1.laid (t' := s1.toks) (fun b u e => Heap.get?_push_of_some _ e) (Nat.le_refl _) ?_, rfl, q _ hf⟩
  exact ⟨z, us, r, ⟨_, Heap.get?_push_size _ rfl, rfl, _, rfl⟩⟩
theorem pe_lst (h : PA X es t) : PE X (.List es pos) (tLst t) := by
  intro pins s σ H Q I hq
  refine wpAny_List_spliced (thn (h pos pins s σ H _ I hq) fun us s1 ⟨xs, H1, I1, r, z, q⟩ => ⟨by rw [← r.length]; exact z, ?_⟩)
  have hf : H1 s1.heap.objs.size = none := I1.hok.fresh (Nat.le_refl _)
  refine ⟨.ref s1.heap.objs.size, upd H1 s1.heap.objs.size (.lst xs), I1.laid (t' := s1.toks) (fun b u e => Heap.get?_push_of_some _ e) (Nat.le_refl _) ?_, rfl, q _ hf⟩
  exact ⟨z, us, 0, r, Heap.get?_push_size _ rfl⟩
end

/-! ### what a def promises -/
/-- a def's promise: the bound arguments in the parameters' order, the heap, the wanted end, the wanted exception -/
abbrev Sp := List V → Hp → VK → XK → Prop
/-- how an exception lies behind a call (file 08 gives it): the callers' frames, abstract heap and state ahead of the call, the wish, the exception, the state -/
abbrev CXT := List Env → Hp → Shared → XK → Value → Shared → Prop

/-- the state at a call -/
structure Env0 (P : Program) (w : World) (K : PySem.W.Frag) (mg : Str → Option Value) (base : Heap) (A : Around) (outer : List Env) (s : Shared) (H : Hp) : Prop where
  frames : A.frames = some outer
  mod : Mod K mg base
  bs : ∀ b o, base.get? b = some o → s.heap.get? b = some o ∧ H b = none
  bsz : base.objs.size ≤ s.heap.objs.size
  funs : s.heap.FunFrames base outer
  frf : ∀ b ∈ frs outer, H b = none
  hok : HOk P w H s.heap
  bare : AllBare s.gens
/-- a call's end -/
def CE (outer : List Env) (P : Program) (w : World) (H : Hp) (s : Shared) (Q : VK) (u : Value) (s' : Shared) : Prop :=
  ∃ v H', s'.os = s.os ∧ AllBare s'.gens ∧ Un (frs outer) [] H H' s.heap s'.heap ∧ HOk P w H' s'.heap ∧ RelV v u ∧ Q v H'
def CR (CX : CXT) (outer : List Env) (P : Program) (w : World) (H : Hp) (s : Shared) (Q : VK) (E : XK) (r : Result) (s' : Shared) : Prop :=
  match r with
  | .ok (.ret u) => CE outer P w H s Q u s'
  | .ok _ => False
  | .error e => CX outer H s E e s'
structure FnOk (P : Program) (w : World) (K : PySem.W.Frag) (mg : Str → Option Value) (base : Heap) (CX : CXT) (k : Nat) (f : Addr) (fd : FuncData) (ps : List Str) (sp : Sp) : Prop where
  len : ∀ vs H Q E, sp vs H Q E → vs.length = ps.length
  run : ∀ (A : Around) (outer : List Env) (s : Shared) (H : Hp) (args : Args) (us : List Value) (vs : List V) (Q : VK) (E : XK), Room k A → Env0 P w K mg base A outer s H → BindsTo s fd args (ps.zip us) → Vals vs us → sp vs H Q E →
    codeAny (model P w) A (.call (.ref f) args) (CR CX outer P w H s Q E) s
theorem FnOk.mono {P : Program} {w : World} {K : PySem.W.Frag} {mg : Str → Option Value} {base : Heap} {CX : CXT} {j k : Nat} {f : Addr} {fd : FuncData} {ps : List Str} {sp : Sp} (F : FnOk P w K mg base CX j f fd ps sp) (h : j ≤ k) :
    FnOk P w K mg base CX k f fd ps sp := ⟨F.len, fun A outer s H args us vs Q E hr => F.run A outer s H args us vs Q E (hr.mono h)⟩
/-- a weaker promise -/
theorem FnOk.imp {P : Program} {w : World} {K : PySem.W.Frag} {mg : Str → Option Value} {base : Heap} {CX : CXT} {k : Nat} {f : Addr} {fd : FuncData} {ps : List Str} {sp sp' : Sp} (F : FnOk P w K mg base CX k f fd ps sp)
    (h : ∀ vs H Q E, sp' vs H Q E → sp vs H Q E) : FnOk P w K mg base CX k f fd ps sp' :=
  ⟨fun vs H Q E q => F.len vs H Q E (h _ _ _ _ q), fun A outer s H args us vs Q E hr he hb hv hs => F.run A outer s H args us vs Q E hr he hb hv (h _ _ _ _ hs)⟩

theorem Env0.make {P : Program} {w : World} {K : PySem.W.Frag} {mg : Str → Option Value} {base : Heap} {A : Around} {outer : List Env} {s : Shared} {H : Hp} (e : Env0 P w K mg base A outer s H) (C : Addr) (us : List Value) (kw : List (Str × Value)) :
    Env0 P w K mg base (A.under (.builtin "type.__call__" ⟨.ref C :: us, kw⟩)) outer s H := ⟨by first | exact e.frames | (simpa [Around.under, Code.envs, Code.isFrame, pushEnvs] using e.frames), e.mod, e.bs, e.bsz, e.funs, e.frf, e.hok, e.bare⟩
theorem Env0.in1 {P : Program} {w : World} {K : PySem.W.Frag} {mg : Str → Option Value} {base : Heap} {A : Around} {outer : List Env} {s : Shared} {H : Hp} (e : Env0 P w K mg base A outer s H) :
    Env0 P w K mg base A.in1 outer s H := ⟨e.frames, e.mod, e.bs, e.bsz, e.funs, e.frf, e.hok, e.bare⟩

section
variable {X : Cx} {pins : List (Addr × Obj)} {σ : St} {H : Hp} {s s' : Shared}
/-- from a body: what a callee wants -/
theorem Inv.env0 (I : Inv X pins σ H s) : Env0 X.prog X.w X.K X.mg X.base X.A X.stack s H :=
  ⟨I.ok.frames, I.ok.mod, I.bs, Nat.le_trans I.ok.bsz I.sz, I.stack, I.stkFree, I.hok, I.bare⟩
/-- behind a call -/
theorem Inv.after {Q : VK} {u : Value} (I : Inv X pins σ H s) (h : CE X.stack X.prog X.w H s Q u s') : EP X pins σ Q u s' := by
  obtain ⟨v, H', os, bare, un, hok, r, q⟩ := h
  obtain ⟨hh, g, d, t, os'⟩ := s'
  obtain rfl : os' = s.os := os
  exact ⟨v, H', I.call (h' := hh) (g' := g) (d' := d) (t' := t) (ch := []) un hok bare (fun b z => absurd z (by simp)), r, q⟩
end

/-! ### calls -/
/-- f(..): the written arguments, then the defaults dvs; E: what is wanted of an exception -/
def tCall (sp : Sp) (dvs : List V) (E : XK) (t : TA) : TE := fun σ H Q => t σ H fun vs H1 => sp (vs ++ dvs) H1 Q E
/-- o.m(..) of an instance of the class at C -/
def tMeth (C : Addr) (m : Str) (sp : Sp) (dvs : List V) (E : XK) (ta : TE) (t : TA) : TE := fun σ H Q => ta σ H fun x H1 => ∃ a dx fs, x = .ref a ∧ H1 a = some (.ins C dx fs) ∧ fs.lookup m = none ∧
  t σ H1 fun vs H2 => sp (x :: (vs ++ dvs)) H2 Q E
/-- C(..): a new instance and its dict, then __init__ -/
def tMake (C : Addr) (sp : Sp) (dvs : List V) (E : XK) (t : TA) : TE := fun σ H Q => t σ H fun vs H1 => ∀ x dx, H1 x = none → H1 dx = none → dx ≠ x →
  sp (.ref x :: (vs ++ dvs)) (upd (upd H1 dx (.own x)) x (.ins C dx [])) (fun v H2 => v = .non ∧ Q (.ref x) H2) E

/-- how the parameters are bound: us the positional arguments, kw the keywords' values by name, ds the defaults that fill up -/
def Binds (K : PySem.W.Frag) (fd : FuncData) (ps : List Str) (ds : List Value) : Prop :=
  ∀ (s : Shared) (us : List Value), K.In s.heap → (us ++ ds).length = ps.length → BindsTo s fd ⟨us, []⟩ (ps.zip (us ++ ds))
/-- every parameter is given -/
theorem Binds.all {K : PySem.W.Frag} {fd : FuncData} {ps : List Str} (h : ∀ us : List Value, us.length = ps.length → bindArgs fd ⟨us, []⟩ = pure (ps.zip us)) : Binds K fd ps [] := fun s us _ hl => by
  rw [List.append_nil] at hl ⊢
  exact .of_eq (h us hl)

/-- an exception of a callee reaches what this body wants of exceptions -/
def Passes (CX : CXT) (X : Cx) (E : XK) : Prop := ∀ (pins : List (Addr × Obj)) (σ : St) (H : Hp) (s : Shared) (e : Value) (s' : Shared), Inv X pins σ H s → CX X.stack H s E e s' → X.xe e s'

section
variable {X : Cx} {CX : CXT} {k : Nat} {f C : Addr} {fd : FuncData} {ps : List Str} {sp : Sp} {dvs : List V} {ds : List Value} {E : XK} {x m : Str} {p pos apos : Pos} {e o : Expr} {es : List Expr} {ta : TE} {t : TA}

/-- the callee runs -/
theorem run_fn {pins : List (Addr × Obj)} {σ : St} {H : Hp} {s : Shared} {Q : VK} {us : List Value} {vs : List V} (F : FnOk X.prog X.w X.K X.mg X.base CX k f fd ps sp) (hr : Room k X.A) (hb : Binds X.K fd ps ds) (hd : Vals dvs ds) (hx : Passes CX X E)
    (I : Inv X pins σ H s) (r : Vals vs us) (h : sp (vs ++ dvs) H Q E) : wpAny (model X.prog X.w) X.A (call (.ref f) us) (EP X pins σ Q) X.xe s := by
  have r2 : Vals (vs ++ dvs) (us ++ ds) := r.append hd
  have hl : (us ++ ds).length = ps.length := by rw [← r2.length]; exact F.len _ _ _ _ h
  refine wpAny_call (codeAny_mono (F.run X.A X.stack s H ⟨us, []⟩ (us ++ ds) (vs ++ dvs) Q E hr I.env0 (hb s us I.kIn hl) r2 h) fun r s' hq => ?_)
  cases r with
  | error e => exact hx pins σ H s e s' I hq
  | ok fl =>
    cases fl with
    | ret u => exact I.after hq
    | next => exact False.elim hq
    | brk => exact False.elim hq
    | cont => exact False.elim hq

theorem pe_call (F : FnOk X.prog X.w X.K X.mg X.base CX k f fd ps sp) (hr : Room k X.A) (hg : Gl X x) (hm : X.mg x = some (.ref f)) (hk : PySem.W.keepIn X.K (.ref f) = true) (hb : Binds X.K fd ps ds) (hd : Vals dvs ds) (hx : Passes CX X E)
    (ha : PA X (e :: es) t) (hdb : (x == ("__debug__" : Str)) = false := by decide) (he : starEach (e :: es) X.env = (false, eval e X.env) :: starEach es X.env := by rfl) (hpl : (backTo pos (starEach es X.env)).any (·.1) = false := by rfl) :
    PE X (.Call (.Name x p) (e :: es) [] pos) (tCall sp dvs E t) := by
  intro pins s σ H Q I h
  refine wpAny_Call_Name_kw (ld_glob I hg hm ?_ hdb)
  refine PySem.W.callWith_K (h₀ := X.base) I.ok.mod.kin hk (thn (ha pos pins s σ H _ I h) fun us s1 ⟨vs, H1, I1, r, q⟩ => ⟨I1.kIn, ?_⟩) he hpl
  exact run_fn F hr hb hd hx I1 r q
theorem pe_call0 (F : FnOk X.prog X.w X.K X.mg X.base CX k f fd ps sp) (hr : Room k X.A) (hg : Gl X x) (hm : X.mg x = some (.ref f)) (hk : PySem.W.keepIn X.K (.ref f) = true) (hb : Binds X.K fd ps ds) (hd : Vals dvs ds) (hx : Passes CX X E)
    (hdb : (x == ("__debug__" : Str)) = false := by decide) : PE X (.Call (.Name x p) [] [] pos) (tCall sp dvs E tNil) := by
  intro pins s σ H Q I h
  refine wpAny_Call_Name_kw (ld_glob I hg hm ?_ hdb)
  exact PySem.W.callWith_K0 I.kIn hk (run_fn (us := []) F hr hb hd hx I .nil h)

/-- o.m(e, ..) -/
theorem pe_meth {pl : Sem Bool} (he : PE X o ta) (c : Cls X.K C) (hm : Meth X.K C m f) (F : FnOk X.prog X.w X.K X.mg X.base CX k f fd ps sp) (hr : Room k X.A) (hb : Binds X.K fd ps ds) (hd : Vals dvs ds) (hx : Passes CX X E) (ha : PA X (e :: es) t)
    (hst : starEach (e :: es) X.env = (false, eval e X.env) :: starEach es X.env := by rfl) (hpl : (backTo pos (starEach es X.env)).any (·.1) = false := by rfl)
    (ht : eval (.Call (.Attribute o m apos) (e :: es) [] pos) X.env = (do
      let ov ← eval o X.env
      standAt apos.atName
      let (f, first) ← holding [ov] (getMethod ov m pl)
      callWith pos f first (backTo pos (starEach (e :: es) X.env)) (backToKw pos (keywordEach [] X.env))) := by rfl) :
    PE X (.Call (.Attribute o m apos) (e :: es) [] pos) (tMeth C m sp dvs E ta t) := by
  intro pins s σ H Q I h
  refine PySem.W.methodCall_KW (pl := pl) (thn (he pins s σ H _ I h) fun u s1 ⟨x, H1, I1, rx, a, dx, fs, ex, ea, l, q⟩ => ?_) ht
  subst ex
  obtain rfl : u = Value.ref a := rx
  refine getmeth_ok I1 ea c hm l ?_
  refine PySem.W.callWith_K (first := [.ref a]) (h₀ := X.base) I.ok.mod.kin hm.kp (thn (ha pos pins s1 σ H1 _ I1 q) fun us s2 ⟨vs, H2, I2, r, q2⟩ => ⟨I2.kIn, ?_⟩) hst hpl
  exact run_fn (us := .ref a :: us) (vs := .ref a :: vs) F hr hb hd hx I2 (.cons rfl r) q2
/-- o.m() -/
theorem pe_meth0 {pl : Sem Bool} (he : PE X o ta) (c : Cls X.K C) (hm : Meth X.K C m f) (F : FnOk X.prog X.w X.K X.mg X.base CX k f fd ps sp) (hr : Room k X.A) (hb : Binds X.K fd ps ds) (hd : Vals dvs ds) (hx : Passes CX X E)
    (ht : eval (.Call (.Attribute o m apos) [] [] pos) X.env = (do
      let ov ← eval o X.env
      standAt apos.atName
      let (f, first) ← holding [ov] (getMethod ov m pl)
      callWith pos f first (backTo pos (starEach [] X.env)) (backToKw pos (keywordEach [] X.env))) := by rfl) :
    PE X (.Call (.Attribute o m apos) [] [] pos) (tMeth C m sp dvs E ta tNil) := by
  intro pins s σ H Q I h
  refine PySem.W.methodCall_KW (pl := pl) (thn (he pins s σ H _ I h) fun u s1 ⟨x, H1, I1, rx, a, dx, fs, ex, ea, l, q⟩ => ?_) ht
  subst ex
  obtain rfl : u = Value.ref a := rx
  refine getmeth_ok I1 ea c hm l ?_
  exact PySem.W.callWith_K0 (first := [.ref a]) I1.kIn hm.kp (run_fn (us := [.ref a]) (vs := [.ref a]) F hr hb hd hx I1 (.cons rfl .nil) q)

/-- what a class must have to be made -/
structure Mk (K : PySem.W.Frag) (C f : Addr) : Prop where
  makes : PySem.W.makesIn K C = true
  init : PySem.W.findIn K (.ref C) "__init__" = some (some (.ref f))
  fn : PySem.W.isFn K (.ref f) = true
  kp : PySem.W.keepIn K (.ref C) = true

theorem run_make {pins : List (Addr × Obj)} {σ : St} {H : Hp} {s : Shared} {Q : VK} {us : List Value} {vs : List V} (M : Mk X.K C f) (F : FnOk X.prog X.w X.K X.mg X.base CX k f fd ps sp) (hr : Room (k + 1) X.A) (hb : Binds X.K fd ps ds) (hd : Vals dvs ds)
    (hx : Passes CX X E) (I : Inv X pins σ H s) (r : Vals vs us)
    (h : ∀ x dx, H x = none → H dx = none → dx ≠ x → sp (.ref x :: (vs ++ dvs)) (upd (upd H dx (.own x)) x (.ins C dx [])) (fun v H2 => v = .non ∧ Q (.ref x) H2) E) :
    wpAny (model X.prog X.w) X.A (call (.ref C) us) (EP X pins σ Q) X.xe s := by
  have hq := h (s.heap.objs.size + 1) s.heap.objs.size (I.hok.fresh (Nat.le_succ _)) (I.hok.fresh (Nat.le_refl _)) (Nat.ne_of_lt (Nat.lt_succ_self _))
  have I2 := Inv.made (C := C) I
  have r2 : Vals (V.ref (s.heap.objs.size + 1) :: (vs ++ dvs)) (Value.ref (s.heap.objs.size + 1) :: (us ++ ds)) := .cons rfl (r.append hd)
  have hl : (Value.ref (s.heap.objs.size + 1) :: us ++ ds).length = ps.length := by
    have e := r2.length
    rw [F.len _ _ _ _ hq] at e
    exact e.symm
  refine wpAny_call (make_map (f := f) I.kIn M.makes M.init (beq_iff_eq.mp M.fn) (codeAny_mono (F.run _ X.stack _ _ ⟨Value.ref (s.heap.objs.size + 1) :: us, []⟩ (Value.ref (s.heap.objs.size + 1) :: (us ++ ds)) _ _ E (hr.make C us [])
    (I2.env0.make C us []) (hb _ (Value.ref (s.heap.objs.size + 1) :: us) I2.kIn hl) r2 hq) fun r s' hq' => ?_))
  cases r with
  | error e => exact hx pins σ _ _ e s' I2 hq'
  | ok fl =>
    cases fl with
    | ret u =>
      obtain ⟨v, H', I3, rv, ev, q3⟩ := I2.after hq'
      subst ev
      exact ⟨rv, ⟨V.ref (s.heap.objs.size + 1), H', I3, rfl, q3⟩⟩
    | next => exact False.elim hq'
    | brk => exact False.elim hq'
    | cont => exact False.elim hq'
theorem pe_make (M : Mk X.K C f) (F : FnOk X.prog X.w X.K X.mg X.base CX k f fd ps sp) (hr : Room (k + 1) X.A) (hg : Gl X x) (hm : X.mg x = some (.ref C)) (hb : Binds X.K fd ps ds) (hd : Vals dvs ds) (hx : Passes CX X E)
    (ha : PA X (e :: es) t) (hdb : (x == ("__debug__" : Str)) = false := by decide) (he : starEach (e :: es) X.env = (false, eval e X.env) :: starEach es X.env := by rfl) (hpl : (backTo pos (starEach es X.env)).any (·.1) = false := by rfl) :
    PE X (.Call (.Name x p) (e :: es) [] pos) (tMake C sp dvs E t) := by
  intro pins s σ H Q I h
  refine wpAny_Call_Name_kw (ld_glob I hg hm ?_ hdb)
  refine PySem.W.callWith_K (h₀ := X.base) I.ok.mod.kin M.kp (thn (ha pos pins s σ H _ I h) fun us s1 ⟨vs, H1, I1, r, q⟩ => ⟨I1.kIn, ?_⟩) he hpl
  exact run_make M F hr hb hd hx I1 r q
theorem pe_make0 (M : Mk X.K C f) (F : FnOk X.prog X.w X.K X.mg X.base CX k f fd ps sp) (hr : Room (k + 1) X.A) (hg : Gl X x) (hm : X.mg x = some (.ref C)) (hb : Binds X.K fd ps ds) (hd : Vals dvs ds) (hx : Passes CX X E)
    (hdb : (x == ("__debug__" : Str)) = false := by decide) : PE X (.Call (.Name x p) [] [] pos) (tMake C sp dvs E tNil) := by
  intro pins s σ H Q I h
  refine wpAny_Call_Name_kw (ld_glob I hg hm ?_ hdb)
  exact PySem.W.callWith_K0 I.kIn M.kp (run_make (us := []) M F hr hb hd hx I .nil h)
end

/-! ### keywords -/
/-- the values of the keywords, from the left -/
def PK (X : Cx) (kws : List Keyword) (t : TA) : Prop :=
  ∀ (pos : Pos) (pins : List (Addr × Obj)) (s : Shared) (σ : St) (H : Hp) (Q : List V → Hp → Prop), Inv X pins σ H s → t σ H Q → wpAny (model X.prog X.w) X.A (evalAll ((backToKw pos (keywordEach kws X.env)).map (·.2))) (AP X pins σ Q) X.xe s
section
variable {X : Cx} {CX : CXT} {k : Nat} {f C : Addr} {fd : FuncData} {ps ks : List Str} {sp : Sp} {E : XK} {x m : Str} {p pos apos kpos : Pos} {e o : Expr} {es : List Expr} {kws : List Keyword} {te ta : TE} {t tk : TA} {nm : Option Str}
theorem pk_nil : PK X [] tNil := fun _ _ _ _ H Q I h => wpAny_evalAll_nil ⟨[], H, I, .nil, h⟩
theorem pk_cons (ha : PE X e te) (hr : PK X kws t) : PK X (⟨nm, e, kpos⟩ :: kws) (tCons te t) := by
  intro pos pins s σ H Q I h
  show wpAny _ _ (evalAll ((do let v ← eval e X.env; standAt pos; pure v) :: (backToKw pos (keywordEach kws X.env)).map (·.2))) _ _ s
  refine wpAny_evalAll_cons (wpAny_bind (thn (ha pins s σ H _ I h) fun u s1 ⟨x, H1, I1, r1, q1⟩ => wpAny_bind (wpAny_standAt (wpAny_pure ?_))))
  exact thn (hr pos pins s1 σ H1 _ I1 q1) fun us s2 ⟨xs, H2, I2, r2, q2⟩ => ⟨x :: xs, H2, I2, .cons r1 r2, q2⟩

/-- how a call with keywords binds: g puts the positional values us and the keywords' values ws (names ks) in the parameters' order, defaults among them -/
structure KBinds (K : PySem.W.Frag) (fd : FuncData) (ps ks : List Str) (g : List Value → List Value → List Value) (gV : List V → List V → List V) : Prop where
  to : ∀ (s : Shared) (us ws : List Value), K.In s.heap → (g us ws).length = ps.length → BindsTo s fd ⟨us, ks.zip ws⟩ (ps.zip (g us ws))
  rel : ∀ {vs : List V} {us : List Value} {zs : List V} {ws : List Value}, Vals vs us → Vals zs ws → Vals (gV vs zs) (g us ws)
def tCallK (sp : Sp) (gV : List V → List V → List V) (E : XK) (t tk : TA) : TE := fun σ H Q => t σ H fun vs H1 => tk σ H1 fun zs H2 => sp (gV vs zs) H2 Q E
variable {g : List Value → List Value → List Value} {gV : List V → List V → List V}
theorem run_fnk {pins : List (Addr × Obj)} {σ : St} {H : Hp} {s : Shared} {Q : VK} {us ws : List Value} {vs zs : List V} (F : FnOk X.prog X.w X.K X.mg X.base CX k f fd ps sp) (hr : Room k X.A) (hb : KBinds X.K fd ps ks g gV) (hx : Passes CX X E)
    (I : Inv X pins σ H s) (r : Vals vs us) (rz : Vals zs ws) (h : sp (gV vs zs) H Q E) : wpAny (model X.prog X.w) X.A (call (.ref f) us (ks.zip ws)) (EP X pins σ Q) X.xe s := by
  have r2 := hb.rel r rz
  have hl : (g us ws).length = ps.length := by rw [← r2.length]; exact F.len _ _ _ _ h
  refine wpAny_call (codeAny_mono (F.run X.A X.stack s H ⟨us, ks.zip ws⟩ (g us ws) (gV vs zs) Q E hr I.env0 (hb.to s us ws I.kIn hl) r2 h) fun r s' hq => ?_)
  cases r with
  | error e => exact hx pins σ H s e s' I hq
  | ok fl =>
    cases fl with
    | ret u => exact I.after hq
    | next => exact False.elim hq
    | brk => exact False.elim hq
    | cont => exact False.elim hq
/-- f(e, .., k = v, ..) -/
theorem pe_callK (F : FnOk X.prog X.w X.K X.mg X.base CX k f fd ps sp) (hr : Room k X.A) (hg : Gl X x) (hm : X.mg x = some (.ref f)) (hk : PySem.W.keepIn X.K (.ref f) = true) (hb : KBinds X.K fd ps ks g gV) (hx : Passes CX X E)
    (ha : PA X (e :: es) t) (hkw : PK X kws tk) (hall : (backToKw pos (keywordEach kws X.env)).all (·.1.isSome) = true := by rfl) (hks : (backToKw pos (keywordEach kws X.env)).filterMap (·.1) = ks := by rfl)
    (hdb : (x == ("__debug__" : Str)) = false := by decide) (he : starEach (e :: es) X.env = (false, eval e X.env) :: starEach es X.env := by rfl)
    (hpl : ((backTo pos (starEach (e :: es) X.env)).any (·.1) || (backToKw pos (keywordEach kws X.env)).any (·.1.isNone)) = false := by rfl) :
    PE X (.Call (.Name x p) (e :: es) kws pos) (tCallK sp gV E t tk) := by
  intro pins s σ H Q I h
  refine wpAny_Call_Name_kw (ld_glob I hg hm ?_ hdb)
  refine PySem.W.callWith_KW (h₀ := X.base) I.ok.mod.kin hk hall (thn (ha pos pins s σ H _ I h) fun us s1 ⟨vs, H1, I1, r, q⟩ => ?_) hpl he
  refine thn (hkw pos pins s1 σ H1 _ I1 q) fun ws s2 ⟨zs, H2, I2, rz, q2⟩ => ⟨I2.kIn, ?_⟩
  rw [hks]
  exact run_fnk F hr hb hx I2 r rz q2
end

/-! ### a def's body keeps its promise -/
/-- names: the parameters first -/
structure FnScope (N P : List Str) (sc : Scope) : Prop where
  kind : sc.kind = .function
  co : sc.isCoroutine = false
  gen : sc.isGenerator = false
  nd : N.Nodup
  pre : N.take P.length = P
  par : ∀ x ∈ P, sc.names.lookup x = some .local ∨ sc.names.lookup x = some .cell
  nofree : ∀ y ∈ sc.names, y.2 ≠ .free

theorem bindL_out {kindOf : Str → Option NameKind} {x : Str} : ∀ {binds : List (Str × Value)} {m : Str → Option Value}, (∀ v, (x, v) ∉ binds) → bindL kindOf binds m x = m x
  | [], _, _ => rfl
  | (n, v) :: r, m, h => by
    unfold bindL
    rw [bindL_out fun w hw => h w (List.mem_cons_of_mem _ hw)]
    split
    · have : x ≠ n := by rintro rfl; exact h v List.mem_cons_self
      simp [this]
    · rfl
theorem bindC_out {kindOf : Str → Option NameKind} {x : Str} : ∀ {binds : List (Str × Value)} {m : Str → Option Value}, (∀ v, (x, v) ∉ binds) → bindC kindOf binds m x = m x
  | [], _, _ => rfl
  | (n, v) :: r, m, h => by
    unfold bindC
    rw [bindC_out fun w hw => h w (List.mem_cons_of_mem _ hw)]
    split
    · rfl
    · have : x ≠ n := by rintro rfl; exact h v List.mem_cons_self
      simp [this]
theorem bindL_get {kindOf : Str → Option NameKind} {x : Str} {v : Value} : ∀ {P : List Str} {vs : List Value} {i : Nat} {m : Str → Option Value}, P.Nodup → P[i]? = some x → vs[i]? = some v → kindOf x = some .local →
    bindL kindOf (P.zip vs) m x = some v
  | [], _, _, _, _, h, _, _ => by simp at h
  | _ :: _, [], _, _, _, _, h, _ => by simp at h
  | p :: P, w :: vs, 0, m, nd, h1, h2, hk => by
    simp at h1 h2; subst h1; subst h2
    show bindL kindOf ((p, w) :: P.zip vs) m p = _
    unfold bindL
    rw [bindL_out fun v hv => (List.nodup_cons.mp nd).1 (List.of_mem_zip hv).1, if_pos hk]
    simp
  | p :: P, w :: vs, i + 1, m, nd, h1, h2, hk => by
    show bindL kindOf ((p, w) :: P.zip vs) m x = _
    unfold bindL
    exact bindL_get (i := i) (List.nodup_cons.mp nd).2 (by simpa using h1) (by simpa using h2) hk
theorem bindC_get {kindOf : Str → Option NameKind} {x : Str} {v : Value} : ∀ {P : List Str} {vs : List Value} {i : Nat} {m : Str → Option Value}, P.Nodup → P[i]? = some x → vs[i]? = some v → kindOf x ≠ some .local →
    bindC kindOf (P.zip vs) m x = some v
  | [], _, _, _, _, h, _, _ => by simp at h
  | _ :: _, [], _, _, _, _, h, _ => by simp at h
  | p :: P, w :: vs, 0, m, nd, h1, h2, hk => by
    simp at h1 h2; subst h1; subst h2
    show bindC kindOf ((p, w) :: P.zip vs) m p = _
    unfold bindC
    rw [bindC_out fun v hv => (List.nodup_cons.mp nd).1 (List.of_mem_zip hv).1, if_neg hk]
    simp
  | p :: P, w :: vs, i + 1, m, nd, h1, h2, hk => by
    show bindC kindOf ((p, w) :: P.zip vs) m x = _
    unfold bindC
    exact bindC_get (i := i) (List.nodup_cons.mp nd).2 (by simpa using h1) (by simpa using h2) hk

/-- the names' values at the entry -/
def start (N : List Str) (vs : List V) : St := vs.map some ++ List.replicate (N.length - vs.length) none

/-- the context of a def's body, at its entry; an exception leaves the frame, then lies as CX says -/
def cxOf (CX : CXT) (P : Program) (w : World) (K : PySem.W.Frag) (mg : Str → Option Value) (base : Heap) (N : List Str) (qual : Str) (scope : Scope) (f : Addr) (cd : Value) (A : Around) (outer : List Env) (s : Shared) (H : Hp) (E : XK) : Cx where
  prog := P
  w := w
  K := K
  mg := mg
  base := base
  A := A.deeper (envOfC qual scope s.heap.objs.size f cd)
  N := N
  s₀ := s
  H₀ := H
  env := envOfC qual scope s.heap.objs.size f cd
  outer := outer
  stack := envOfC qual scope s.heap.objs.size f cd :: outer
  ex := []
  calm := true
  fn := fun _ => true
  pn := []
  xe := fun e s' => wpAny (model P w) (A.deeper (envOfC qual scope s.heap.objs.size f cd)) (leaving (envOfC qual scope s.heap.objs.size f cd) e) (fun _ s'' => CX outer H s E e s'') (fun e' s'' => CX outer H s E e' s'') s'

theorem cell_has {sc : Scope} {n : Nat} {x : Str} (h : sc.names.lookup x = some .cell) : ∃ c, (cellsFrom n sc.names []).lookup x = some c := by
  have q := PySem.W.cellsFrom_some sc.names n [] (.inl h)
  exact Option.isSome_iff_exists.mp q

theorem inv_start {CX : CXT} {P : Program} {w : World} {K : PySem.W.Frag} {mg : Str → Option Value} {base : Heap} {N ps : List Str} {qual : Str} {scope : Scope} {f : Addr} {cd : Value} {A : Around} {outer : List Env} {s s1 : Shared} {H : Hp} {E : XK} {us : List Value} {vs : List V}
    (S : FnScope N ps scope) (hd : A.handled = none) (e0 : Env0 P w K mg base A outer s H) (hl : vs.length = ps.length) (r : Vals vs us)
    (x : InCallC s s.heap.objs.size (bindL (envOfC qual scope s.heap.objs.size f cd).kindOf (ps.zip us) fun _ => none) (cellsFrom (s.heap.objs.size + 1) scope.names []) (bindC (envOfC qual scope s.heap.objs.size f cd).kindOf (ps.zip us) fun _ => none) s1) :
    Inv (cxOf CX P w K mg base N qual scope f cd A outer s H E) [] (start N vs) H s1 := by
  have hpl : ps.length ≤ N.length := by have := congrArg List.length S.pre; rw [List.length_take] at this; omega
  obtain ⟨h1, tk, rfl, hk⟩ := x.done
  have noA : ∀ b : Addr, b ∉ (cxOf CX P w K mg base N qual scope f cd A outer s H E).ex := fun b z => absurd (show b ∈ ([] : List Addr) from z) (by simp)
  refine ⟨⟨e0.mod, S.kind, rfl, rfl, Nat.le_refl _, fun y z c h1 h2 => ?_, fun y hy => ?_, fun y c _ h => ?_, fun _ => hd, Around.frames_deeper e0.frames, .inr ⟨rfl, rfl⟩, fun b z => absurd z (noA b), e0.bs, e0.bsz, fun b _ _ => noA b, fun b z => absurd z (noA b), e0.funs, e0.frf⟩,
    rfl, e0.bare, Un.kept hk, ⟨_, x.toInCall.ns, fun i y v h1 h2 h3 => ?_⟩, fun y c h => ⟨_, x.cell y c h⟩, e0.hok.fresh (Nat.le_refl _), fun y c h => ?_, fun p hp => absurd (show p ∈ ([] : List (Addr × Obj)) from hp) (by simp), e0.hok.kept hk, ?_⟩
  · exact name_of_addr x.apart (PySem.mem_of_lookup h1) (PySem.mem_of_lookup h2)
  · have hy : scope.names.lookup y = some .cell ∨ scope.names.lookup y = some .free := hy
    rcases hy with hy | hy
    · exact cell_has hy
    · exact absurd rfl (S.nofree _ (PySem.mem_of_lookup hy))
  · exact Nat.le_of_lt (x.above y c (PySem.mem_of_lookup h))
  · have hi : i < vs.length := by
      unfold start at h2
      by_cases hi : i < vs.length
      · exact hi
      · rw [List.getElem?_append_right (by simpa using hi)] at h2
        rw [List.getElem?_replicate] at h2
        split at h2 <;> cases h2
    have ha : vs[i]? = some v := by
      unfold start at h2
      rw [List.getElem?_append_left (by simpa using hi), List.getElem?_map] at h2
      cases e : vs[i]? with
      | none => rw [e] at h2; cases h2
      | some a => rw [e] at h2; cases h2; rfl
    obtain ⟨u, hu, rv⟩ := r.get ha
    have hp : ps[i]? = some y := by
      rw [← S.pre, List.getElem?_take_of_lt (by omega)]; exact h1
    have ndP : ps.Nodup := by rw [← S.pre]; exact S.nd.sublist (List.take_sublist _ _)
    refine ⟨u, rv, ?_⟩
    rcases S.par y (List.mem_of_getElem? hp) with k | k
    · exact .inl ⟨k, bindL_get ndP hp hu k⟩
    · obtain ⟨c, e⟩ := cell_has (n := s.heap.objs.size + 1) k
      refine .inr ⟨.inl k, c, e, ?_⟩
      have q := x.cell y c e
      rw [bindC_get ndP hp hu (by show scope.names.lookup y ≠ _; rw [k]; decide)] at q
      exact q
  · exact e0.hok.fresh (Nat.le_of_lt (x.above y c (PySem.mem_of_lookup h)))
  · unfold start
    show _ = N.length
    rw [List.length_append, List.length_map, List.length_replicate]
    omega

/-- THE RULE: a def (or a method) of the text, by its body. The body's reading t is chosen for each entry; it is run at the parameters' values -/
theorem fn_of {CX : CXT} {P : Program} {w : World} {K : PySem.W.Frag} {mg : Str → Option Value} {base : Heap} {k : Nat} {f : Addr} {name qual : Str} {params : Arguments} {body : List Stmt} {scope : Scope} {dV kV doc pm cdv ct oc : Value} {an od : Option Addr}
    {osl : Array (Option Value)} {N ps : List Str} {sp : Sp} (lk : K.lookup f = some ⟨oc, od, .func (PySem.W.fnOf name qual params body scope dV kV doc pm an cdv ct), osl⟩) (hcd : PySem.W.codeIn K cdv qual = true) (S : FnScope N ps scope)
    (len : ∀ vs H Q E, sp vs H Q E → vs.length = ps.length)
    (hbody : ∀ (A : Around) (outer : List Env) (s : Shared) (H : Hp) (vs : List V) (Q : VK) (E : XK), Room k (A.deeper (envOfC qual scope s.heap.objs.size f cdv)) → sp vs H Q E →
      ∃ t, PSs (cxOf CX P w K mg base N qual scope f cdv A outer s H E) body t ∧ t { nx := fun _ H' => Q .non H', rt := Q } (start N vs) H) :
    FnOk P w K mg base CX (k + 1) f (PySem.W.fnOf name qual params body scope dV kV doc pm an cdv ct) ps sp := by
  refine ⟨len, fun A outer s H args us vs Q E hr e0 hb r hsp => ?_⟩
  have hl := len _ _ _ _ hsp
  have KX : K.In s.heap := e0.mod.kin.keeps fun b o e => (e0.bs b o e).1
  have lim : s.heap.NoLimit := e0.mod.nolimit.keeps fun b o e => (e0.bs b o e).1
  have hkind : ∀ y ∈ ps.zip us, scope.names.lookup y.1 = some .local ∨ (scope.names.lookup y.1 = some .cell ∧ ((cellsFrom (s.heap.objs.size + 1) scope.names []).lookup y.1).isSome = true) := fun ⟨n, v⟩ hy => by
    rcases S.par n (List.of_mem_zip hy).1 with q | q
    · exact .inl q
    · exact .inr ⟨q, PySem.W.cellsFrom_some _ _ _ (.inl q)⟩
  refine codeAny_call_function hr.depth (KX _ _ lk) rfl S.co S.gen rfl (PySem.W.codeRec_of KX hcd) (hb _ _ _ _ ?_)
  refine wpAny_newFunctionEnv_cells S.kind hkind fun env he s1 x => ?_
  subst he
  refine ⟨lim.keeps x.toInCall.keep, codeAny_func ?_⟩
  obtain ⟨t, ht, hq⟩ := hbody A outer s H vs Q E (hr.deeper _) hsp
  have I : Inv (cxOf CX P w K mg base N qual scope f cdv A outer s H E) [] (start N vs) H s1 := inv_start S hr.hd e0 hl r x
  refine wpAny_mono (ht [] s1 (start N vs) H _ I hq) (fun fl s' hs => ?_) fun e s' hs => hs
  have fin : ∀ {σ' : St} {H' : Hp} {v : V} {u : Value}, Inv (cxOf CX P w K mg base N qual scope f cdv A outer s H E) [] σ' H' s' → RelV v u → Q v H' → CE outer P w H s Q u s' :=
    fun {σ' H' v u} J rv q => ⟨v, H', J.os, J.bare, J.base, J.hok, rv, q⟩
  cases fl with
  | ret u =>
    obtain ⟨v, σ', H', J, rv, q⟩ := hs
    exact fin J rv q
  | next =>
    obtain ⟨σ', H', J, q⟩ := hs
    exact fin (v := V.non) (u := Value.none) J rfl q
  | brk =>
    obtain ⟨_, _, _, q⟩ := hs
    exact False.elim q
  | cont =>
    obtain ⟨_, _, _, q⟩ := hs
    exact False.elim q
end L2

namespace L2
open PySem PySem.Spec PyProof.Rows
section
variable {X : Cx} {x : Str} {p pos : Pos} {e : Expr} {es : List Expr} {t : TA} {id T : String} {r : List V → Hp → VK → Prop}

def tCB (r : List V → Hp → VK → Prop) (t : TA) : TE := fun σ H Q => t σ H fun vs H1 => r vs H1 Q
/-- f(e, ..), f a built-in function -/
theorem pe_callB (hc : CallR X (.builtin id) r) (hg : Gl X x) (hm : X.mg x = none) (hv : bootBuiltins x = some (.builtin id)) (ha : PA X (e :: es) t) (hn : x ≠ "__name__" := by decide) (hdb : (x == ("__debug__" : Str)) = false := by decide)
    (he : starEach (e :: es) X.env = (false, eval e X.env) :: starEach es X.env := by rfl) (hpl : (backTo pos (starEach es X.env)).any (·.1) = false := by rfl) : PE X (.Call (.Name x p) (e :: es) [] pos) (tCB r t) := by
  intro pins s σ H Q I h
  refine wpAny_Call_Name_kw (ld_blt I hg hm hv ?_ hn hdb)
  exact PyProof.Rows.callWith_builtin1 (thn (ha pos pins s σ H _ I h) fun us s1 ⟨vs, H1, I1, r1, q1⟩ => hc pins s1 σ H1 vs us Q I1 r1 q1) he hpl
/-- T(e, ..), T a built-in type -/
theorem pe_callTy (hc : CallR X (.type T) r) (hg : Gl X x) (hm : X.mg x = none) (hv : bootBuiltins x = some (.type T)) (ha : PA X (e :: es) t) (hn : x ≠ "__name__" := by decide) (hdb : (x == ("__debug__" : Str)) = false := by decide)
    (he : starEach (e :: es) X.env = (false, eval e X.env) :: starEach es X.env := by rfl) (hpl : (backTo pos (starEach es X.env)).any (·.1) = false := by rfl) : PE X (.Call (.Name x p) (e :: es) [] pos) (tCB r t) := by
  intro pins s σ H Q I h
  refine wpAny_Call_Name_kw (ld_blt I hg hm hv ?_ hn hdb)
  exact PyProof.Rows.callWith_type1 (thn (ha pos pins s σ H _ I h) fun us s1 ⟨vs, H1, I1, r1, q1⟩ => hc pins s1 σ H1 vs us Q I1 r1 q1) he hpl
/-- T() -/
theorem pe_callTy0 (hc : CallR X (.type T) r) (hg : Gl X x) (hm : X.mg x = none) (hv : bootBuiltins x = some (.type T)) (hn : x ≠ "__name__" := by decide) (hdb : (x == ("__debug__" : Str)) = false := by decide) :
    PE X (.Call (.Name x p) [] [] pos) (tCB r tNil) := by
  intro pins s σ H Q I h
  refine wpAny_Call_Name_kw (ld_blt I hg hm hv ?_ hn hdb)
  exact PyProof.Rows.callWith_type0 (hc pins s σ H [] [] Q I .nil h)
end
end L2

namespace HT
open PySem PyProof.Rows

/-- t < u of tuples of ints -/
def lexLt : List Int → List Int → Bool
  | [], [] => false
  | [], _ :: _ => true
  | _ :: _, [] => false
  | x :: xs, y :: ys => if x = y then lexLt xs ys else decide (x < y)
theorem lexLt_cons (x y : Int) (xs ys : List Int) : lexLt (x :: xs) (y :: ys) = if x = y then lexLt xs ys else decide (x < y) := rfl
theorem lexLt_nil_nil : lexLt [] [] = false := rfl
theorem lexLt_nil_cons (y : Int) (ys : List Int) : lexLt [] (y :: ys) = true := rfl
theorem lexLt_cons_nil (x : Int) (xs : List Int) : lexLt (x :: xs) [] = false := rfl

theorem eqAt_int (A : Around) (s : Shared) (a : Int) (t : Tok) (c : Int) (u : Tok) : ∃ e, SeqAt.EqAt A s (.int a t) (.int c u) e ∧ (e = true ↔ a = c) :=
  ⟨(a == c), SeqAt.EqAt.int_int a t c u, by simp⟩
theorem rcLt_int (A : Around) (s : Shared) (a : Int) (t : Tok) (c : Int) (u : Tok) (prog : Program) (w : World) (E : Value → Shared → Prop) (Q : Value → Shared → Prop) (h : Q (.bool (decide (a < c))) s) :
    wpAny (model prog w) A (richCompare .Lt (.int a t) (.int c u)) Q E s :=
  (PyProof.Rows.lt_int h : wpAny (model prog w) A (compareOp .Lt (.int a t) (.int c u)) Q E s)

section
open PySem.SeqAt
open PySem.AutoSeq1 (wpAny_loadPart')
open PySem.MeetsSeq PySem.MeetsSeq2 PySem.MeetsSeq3

theorem tuple_lt_ints (l b : Addr) (items items2 : Array Value) (n n2 : Nat) (dd dd2 : Option Addr) (sl sl2 : Array (Option Value)) (ns ms : List Int) (hi : IntsAre items.toList ns) (hj : IntsAre items2.toList ms) :
    Meets (Builtin.«tuple.__lt__» ⟨[.ref l, .ref b], []⟩)
      (fun _ R s => s.heap.get? l = some { cls := .type "tuple", dict := dd, data := .seq items n, slots := sl } ∧ s.heap.get? b = some { cls := .type "tuple", dict := dd2, data := .seq items2 n2, slots := sl2 } ∧
        R (.ok (.ret (.bool (lexLt ns ms)))) s) :=
  .of_wp fun prog w A R s h => by
    obtain ⟨hp, g, d, tk, os⟩ := s; obtain ⟨hl, hb, h⟩ := h
    have f2 := AutoSeq1.sub_tuple_tuple
    have z1 : items.size = ns.length := by rw [← hi.length]; simp
    have z2 : items2.size = ms.length := by rw [← hj.length]; simp
    wp_walk using wpAny_loadPart' hl, wpAny_loadPart' hb, wpAny_forIn_list _ (fun rest b s' => b.1 = none ∧ s' = ⟨hp, g, d, tk, os⟩ ∧ ∃ (vs ws : List Value) (ns' ms' : List Int), rest = vs.zip ws ∧
      IntsAre vs ns' ∧ IntsAre ws ms' ∧ ns'.length + items2.size = ms'.length + items.size ∧ R (.ok (.ret (.bool (lexLt ns' ms')))) ⟨hp, g, d, tk, os⟩) _
    case turn =>
      rintro ⟨y, x⟩ rest b s' ⟨hb', rfl, vs, ws, ns', ms', hz, hvi, hwi, hlen, hR⟩
      cases hvi with
      | nil => rw [List.zip_nil_left] at hz; cases hz
      | cons a t hvi' =>
        cases hwi with
        | nil => rw [List.zip_nil_right] at hz; cases hz
        | cons c u hwi' =>
          rw [List.zip_cons_cons] at hz
          injection hz with hyx hrest
          injection hyx with hy hx
          subst hy hx
          rw [lexLt_cons] at hR
          simp only [List.length_cons] at hlen
          obtain ⟨e, he, hiff⟩ := eqAt_int A.in1 ⟨hp, g, d, tk, os⟩ a t c u
          refine wpAny_bind (he prog w _ _ ?_)
          cases e with
          | true =>
            rw [if_pos (hiff.mp rfl)] at hR
            wp_walk
            exact ⟨rfl, rfl, _, _, _, _, hrest, hvi', hwi', by omega, hR⟩
          | false =>
            rw [if_neg (fun q => absurd (hiff.mpr q) Bool.false_ne_true)] at hR
            have hri := rcLt_int A.in1 ⟨hp, g, d, tk, os⟩ a t c u prog w
            wp_walk using hri
            exact ⟨_, rfl, by simpa using hR⟩
    case fin =>
      rintro ⟨b1, b2⟩ s' ⟨hb', rfl, vs, ws, ns', ms', hz, hvi, hwi, hlen, hR⟩
      simp only at hb'
      subst hb'
      have hv : lexLt ns' ms' = decide (items.size < items2.size) := by
        cases hvi with
        | nil =>
          cases hwi with
          | nil =>
            simp only [List.length_nil] at hlen
            rw [lexLt_nil_nil]
            exact (decide_eq_false (by omega)).symm
          | cons c u hw =>
            simp only [List.length_nil, List.length_cons] at hlen
            rw [lexLt_nil_cons]
            exact (decide_eq_true (by omega)).symm
        | cons a t hv =>
          cases hwi with
          | nil =>
            simp only [List.length_nil, List.length_cons] at hlen
            rw [lexLt_cons_nil]
            exact (decide_eq_false (by omega)).symm
          | cons c u hw =>
            rw [List.zip_cons_cons] at hz
            cases hz
      rw [hv] at hR
      wp_walk
      exact ⟨_, rfl, by simpa [Builtin.Tuple.tupleCompareSizes] using hR⟩
    case h =>
      exact ⟨rfl, rfl, items.toList, items2.toList, ns, ms, rfl, hi, hj, by omega, h⟩
end

section
variable {prog : Program} {w : World} {A : Around} {E : Value → Shared → Prop} {s : Shared}

theorem lt_tupInts {l b : Addr} {items items2 : Array Value} {ns ms : List Int} {Q : Value → Shared → Prop} (hl : IsTup s.heap l items) (hb : IsTup s.heap b items2) (hi : IntsAre items.toList ns) (hj : IntsAre items2.toList ms)
    (hu : A.units < cLine) (h : Q (.bool (lexLt ns ms)) s) : wpAny (model prog w) A (compareOp .Lt (.ref l) (.ref b)) Q E s := by
  obtain ⟨⟨cls, dd, data, sl⟩, ho, hc, n, hd⟩ := id hl
  obtain ⟨⟨cls2, dd2, data2, sl2⟩, ho2, hc2, n2, hd2⟩ := id hb
  simp only at hc hd hc2 hd2
  subst hc hd hc2 hd2
  exact richCompare_meets_room (op := .Lt) ⟨_, ho, rfl⟩ ⟨_, ho2, rfl⟩ PySem.F.slot_tuple_lt PySem.F.entry_tuple_lt (PySem.F.args_tuple_lt_2 _ _) (tuple_lt_ints l b items items2 n n2 dd dd2 sl sl2 ns ms hi hj)
    ⟨ho, ho2, show Value.bool (lexLt ns ms) ≠ Value.notImplemented ∧ Q (.bool (lexLt ns ms)) s from ⟨(fun x => nomatch x), h⟩⟩ hu

/-- t + u, t not empty -/
theorem cat_tup {t b : Addr} {vs ws : List Value} {Q : Value → Shared → Prop} (ht : IsTup s.heap t vs.toArray) (hb : IsTup s.heap b ws.toArray) (hv : vs ≠ [])
    (h1 : ws = [] → Q (.ref t) s) (h2 : ws ≠ [] → Q (.ref s.heap.objs.size) { s with heap := s.heap.push { cls := .type "tuple", data := .seq (vs ++ ws).toArray } })
    (hsz : vs.length + ws.length ≤ sizeLine) : wpAny (model prog w) A (binaryOp .Add (.ref t) (.ref b)) Q E s := by
  obtain ⟨⟨cls, dd, data, sl⟩, ho, hc, n, hd⟩ := id ht
  obtain ⟨⟨cls2, dd2, data2, sl2⟩, ho2, hc2, n2, hd2⟩ := id hb
  simp only at hc hd hc2 hd2
  subst hc hd hc2 hd2
  have e : vs.toArray ++ ws.toArray = (vs ++ ws).toArray := by simp
  by_cases hw : ws = []
  · exact concat_meets ⟨_, ho, rfl⟩ ⟨_, ho2, rfl⟩ noFill_tuple_add seq_tuple_add PySem.F.slot_tuple_add PySem.F.entry_tuple_add (PySem.F.args_tuple_add_2 _ _)
      (tuple_addW1 t b vs.toArray ws.toArray n n2 dd dd2 sl sl2 (by simpa using hv) (by simp [hw])) ⟨ho, ho2, h1 hw⟩
  · refine concat_meets ⟨_, ho, rfl⟩ ⟨_, ho2, rfl⟩ noFill_tuple_add seq_tuple_add PySem.F.slot_tuple_add PySem.F.entry_tuple_add (PySem.F.args_tuple_add_2 _ _)
      (tuple_addW2 t b vs.toArray ws.toArray n n2 dd dd2 sl sl2 (by simpa using hv) (by simpa using hw) (by rw [List.size_toArray, List.size_toArray]; exact hsz)) ⟨ho, ho2, ?_⟩
    rw [e]
    exact h2 hw

/-! ### t[a:b], not the whole -/
/-- a slice's bound as a place among n (d where it is left out) -/
def sIx (n d : Nat) : Option Int → Nat
  | none => d
  | some v => if v < 0 then (v + (n : Int)).toNat else min v.toNat n
theorem sIx_none (n d : Nat) : sIx n d none = d := rfl
theorem sIx_nat (n d k : Nat) : sIx n d (some (k : Int)) = min k n := by
  show (if (k : Int) < 0 then ((k : Int) + (n : Int)).toNat else min (k : Int).toNat n) = min k n
  rw [if_neg (by omega), Int.toNat_natCast]
theorem sIx_le (n d : Nat) (hd : d ≤ n) (o : Option Int) : sIx n d o ≤ n := by
  cases o with
  | none => exact hd
  | some v =>
    show (if v < 0 then (v + (n : Int)).toNat else min v.toNat n) ≤ n
    by_cases hv : v < 0
    · rw [if_pos hv]; omega
    · rw [if_neg hv]; exact Nat.min_le_right _ _
theorem clip_eq (v : Int) (n d : Nat) : (if v < 0 then max (v + (n : Int)) 0 else min v (n : Int)) = ((sIx n d (some v) : Nat) : Int) := by
  show (if v < 0 then max (v + (n : Int)) 0 else min v (n : Int)) = (((if v < 0 then (v + (n : Int)).toNat else min v.toNat n) : Nat) : Int)
  by_cases hv : v < 0
  · simp only [if_pos hv]; omega
  · simp only [if_neg hv]; omega
theorem adjust_gen (lo hi : Option Int) (n : Nat) : Builtin.Slice.sliceAdjust lo hi 1 (n : Int) = (((sIx n 0 lo : Nat) : Int), ((sIx n n hi : Nat) : Int)) := by
  have h1 : ¬ ((1 : Int) < 0) := by omega
  unfold Builtin.Slice.sliceAdjust
  simp only [h1, if_false]
  refine Prod.ext ?_ ?_
  · cases lo with
    | none => rfl
    | some v => exact clip_eq v n 0
  · cases hi with
    | none => rfl
    | some v => exact clip_eq v n n
theorem places_gen (i j : Nat) : Builtin.Slice.slicePlaces (i : Int) (j : Int) 1 = j - i := by
  unfold Builtin.Slice.slicePlaces
  have h1 : (1 : Int) > 0 := by omega
  simp only [h1, if_true, Int.ediv_one]
  split <;> omega
theorem slicePart_ {v : Value} {o : Option Int} {Q : Option Int → Shared → Prop} (p : IsPart v o) (h : Q o s) : wpAny (model prog w) A (Builtin.Slice.slicePartIndex v) Q E s := by
  cases p with
  | none => exact slicePart_none h
  | int i t => exact slicePart_int h
theorem sliceApplied_gen {sl : Addr} {vl vu : Value} {lo hi : Option Int} {n : Nat} {Q : Int × Int × Nat → Shared → Prop} (hs : s.heap.IsSliceOf sl vl vu .none) (pl : IsPart vl lo) (pu : IsPart vu hi)
    (h : Q (((sIx n 0 lo : Nat) : Int), 1, sIx n n hi - sIx n 0 lo) s) : wpAny (model prog w) A (Builtin.Slice.sliceApplied (.ref sl) (pure (n : Int))) Q E s := by
  obtain ⟨os, hos, hcs, hds⟩ := id hs
  unfold Builtin.Slice.sliceApplied Builtin.Slice.sliceFields
  refine wpAny_bind (wpAny_bind (wpAny_field hos hds (x := vl) rfl (wpAny_bind (wpAny_field hos hds (x := vu) rfl (wpAny_bind (wpAny_field hos hds (x := .none) rfl (wpAny_pure ?_)))))))
  refine wpAny_bind (slicePart_none ?_)
  show wpAny _ _ (if ((1 : Int) == 0) = true then _ else _) _ _ s
  rw [if_neg (by decide)]
  refine wpAny_bind (slicePart_ pl (wpAny_bind (slicePart_ pu (wpAny_bind (wpAny_pure ?_)))))
  show wpAny _ _ (match Builtin.Slice.sliceAdjust lo hi 1 (n : Int) with | (lo, hi) => pure (lo, (1 : Int), Builtin.Slice.slicePlaces lo hi 1)) _ _ s
  rw [adjust_gen lo hi n]
  show wpAny _ _ (pure (((sIx n 0 lo : Nat) : Int), (1 : Int), Builtin.Slice.slicePlaces ((sIx n 0 lo : Nat) : Int) ((sIx n n hi : Nat) : Int) 1)) _ _ s
  rw [places_gen]
  exact wpAny_pure h
theorem pick_gen (xs : Array Value) (i k : Nat) : ((List.range k).filterMap fun (m : Nat) => xs[((i : Int) + (m : Int) * 1).toNat]?).toArray = ((xs.toList.drop i).take k).toArray := by
  have e : (fun (m : Nat) => xs[((i : Int) + (m : Int) * 1).toNat]?) = fun m => xs[i + m]? := by
    funext m
    have : ((i : Int) + (m : Int) * 1).toNat = i + m := by omega
    rw [this]
  rw [e]
  have := pick_run xs i k
  rw [List.filterMap_map] at this
  have e2 : ((fun x => xs[x]?) ∘ fun x => i + x) = fun m => xs[i + m]? := rfl
  rw [e2] at this
  rw [this]

theorem getItem_tuple_cut {t sl : Addr} {items : Array Value} {vl vu : Value} {lo hi : Option Int} {Q : Value → Shared → Prop} (ht : IsTup s.heap t items) (hs : s.heap.IsSliceOf sl vl vu .none) (pl : IsPart vl lo) (pu : IsPart vu hi)
    (hw : ¬ (sIx items.size 0 lo = 0 ∧ sIx items.size items.size hi = items.size))
    (h : Q (.ref s.heap.objs.size) { s with heap := s.heap.push { cls := .type "tuple", data := .seq ((items.toList.drop (sIx items.size 0 lo)).take (sIx items.size items.size hi - sIx items.size 0 lo)).toArray } })
    (hsz : items.size ≤ sizeLine) : wpAny (model prog w) A (getItem (.ref t) (.ref sl)) Q E s := by
  have htake : sizeOk (.seq ((items.toList.drop (sIx items.size 0 lo)).take (sIx items.size items.size hi - sIx items.size 0 lo)).toArray) := by
    show ((items.toList.drop (sIx items.size 0 lo)).take (sIx items.size items.size hi - sIx items.size 0 lo)).toArray.size ≤ sizeLine
    rw [List.size_toArray, List.length_take, List.length_drop, Array.length_toList]
    omega
  have hj : sIx items.size items.size hi ≤ items.size := sIx_le _ _ (Nat.le_refl _) hi
  obtain ⟨os, hos, hcs, hds⟩ := id hs
  have hTs : s.TypeIs (.ref sl) "slice" := ⟨os, hos, hcs⟩
  unfold getItem
  try with_reducible refine wpAny_holding ?_
  first | refine wpAny_bind (wpAny_pure ?_) | skip
  refine wpAny_bind (wpAny_sequenceKey ht.typeIs (by decide) ?_)
  refine wpAny_bind (wpAny_callSpecial?_slot (name := Str.ofString "__getitem__") ht.typeIs PyProof.Rows.slot_tuple_getitem
    (wpAny_call_entry PyProof.Rows.slot_tuple_getitem ht.typeIs entry_tuple_getitem ?_ (args_tuple_getitem _ _)))
  show wpAny _ _ (Builtin.Tuple.tupleItemsOf (.ref t) >>= _) _ _ s
  refine wpAny_bind (tupleItemsOf_ ht ?_)
  refine wpAny_bind (wpAny_typeOf hTs ?_)
  rw [if_pos (by decide)]
  refine wpAny_bind (sliceApplied_gen hs pl pu ?_)
  have hno : ¬ ((((sIx items.size 0 lo : Nat) : Int) == 0 && (1 : Int) == 1 && (sIx items.size items.size hi - sIx items.size 0 lo) == items.size) = true) := by
    intro q
    rw [Bool.and_eq_true, Bool.and_eq_true] at q
    have q1 : ((sIx items.size 0 lo : Nat) : Int) = 0 := eq_of_beq q.1.1
    have q2 : sIx items.size items.size hi - sIx items.size 0 lo = items.size := eq_of_beq q.2
    exact hw ⟨by omega, by omega⟩
  show wpAny _ _ (if (((sIx items.size 0 lo : Nat) : Int) == 0 && (1 : Int) == 1 && (sIx items.size items.size hi - sIx items.size 0 lo) == items.size) = true then _ else _) _ _ s
  rw [if_neg hno, pick_gen]
  first
    | exact wpAny_bind (m := Builtin.Tuple.tupleExact _) (wpAny_newObj_type (wpAny_pure ⟨_, rfl, wpAny_pure h⟩) htake)
    | exact wpAny_bind (m := Builtin.Tuple.tupleExact _) (wpAny_newObj_type (wpAny_bind (wpAny_pure (wpAny_pure ⟨_, rfl, wpAny_pure h⟩))) htake)
    | exact wpAny_bind (wpAny_bind (m := Builtin.Tuple.tupleExact _) (wpAny_newObj_type (wpAny_pure (wpAny_pure ⟨_, rfl, wpAny_pure h⟩)) htake))
    | exact wpAny_bind (wpAny_bind (m := Builtin.Tuple.tupleExact _) (wpAny_newObj_type (wpAny_pure ⟨_, rfl, wpAny_pure h⟩) htake))
end
end HT

namespace L2
open PySem PySem.Spec PyProof.Rows

/-! ### the parts of a slice -/
abbrev TO := St → Hp → (Option Int → Hp → Prop) → Prop
/-- a slice's part (left out, or an int) -/
def PO (X : Cx) (e : Option Expr) (t : TO) : Prop :=
  ∀ (pins : List (Addr × Obj)) (s : Shared) (σ : St) (H : Hp) (Q : Option Int → Hp → Prop), Inv X pins σ H s → t σ H Q →
    wpAny (model X.prog X.w) X.A (evalPart e X.env) (fun u s' => ∃ o H', Inv X pins σ H' s' ∧ IsPart u o ∧ Q o H') X.xe s
def tNoPart : TO := fun _ H Q => Q none H
def tPart (t : TE) : TO := fun σ H Q => t σ H fun x H1 => ∃ i, x = .int i ∧ Q (some i) H1

theorem intsAre_of {ns : List Int} : ∀ {us : List Value}, Vals (ns.map V.int) us → IntsAre us ns := by
  induction ns with
  | nil => intro us r; rw [List.map_nil] at r; cases r; exact .nil
  | cons n ns ih =>
    intro us r
    rw [List.map_cons] at r
    cases r with
    | cons r1 r2 =>
      obtain ⟨t, e⟩ := r1
      subst e
      exact .cons n t (ih r2)

section
variable {X : Cx} {e : Expr} {te : TE} {lo hi : Option Expr} {tl th : TO} {pos p2 : Pos}

theorem po_none : PO X none tNoPart := by
  intro pins s σ H Q I h
  rw [evalPart_none]
  exact wpAny_pure ⟨none, H, I, .none, h⟩
theorem po_some (h : PE X e te) : PO X (some e) (tPart te) := by
  intro pins s σ H Q I hw
  rw [evalPart_some]
  refine thn (h pins s σ H _ I hw) fun u s1 ⟨x, H1, I1, r1, q1⟩ => ?_
  obtain ⟨i, rfl, q⟩ := q1
  obtain ⟨t, rfl⟩ := r1
  exact ⟨some i, H1, I1, .int i t, q⟩

/-- what a slice of a value is, by values: the slice object stands at sl -/
def SlR (X : Cx) (r : V → Option Int → Option Int → Hp → VK → Prop) : Prop :=
  ∀ (pins : List (Addr × Obj)) (s : Shared) (σ : St) (H : Hp) (x : V) (v vl vu : Value) (lo hi : Option Int) (sl : Addr) (Q : VK), Inv X pins σ H s → RelV x v → s.heap.IsSliceOf sl vl vu .none → IsPart vl lo → IsPart vu hi → r x lo hi H Q →
    ∃ T id, typeLookup (.type T) "__getitem__" = pure (some (.builtin id)) ∧ s.TypeIs v T ∧ wpAny (model X.prog X.w) X.A (getItem v (.ref sl)) (EP X pins σ Q) X.xe s
theorem SlR.or {r r' : V → Option Int → Option Int → Hp → VK → Prop} (h : SlR X r) (h' : SlR X r') : SlR X (fun x lo hi H Q => r x lo hi H Q ∨ r' x lo hi H Q) := by
  intro pins s σ H x v vl vu lo hi sl Q I rx hs pl pu q
  rcases q with q | q
  · exact h pins s σ H x v vl vu lo hi sl Q I rx hs pl pu q
  · exact h' pins s σ H x v vl vu lo hi sl Q I rx hs pl pu q
def tSl (r : V → Option Int → Option Int → Hp → VK → Prop) (te : TE) (tl th : TO) : TE := fun σ H Q => te σ H fun x H1 => tl σ H1 fun l H2 => th σ H2 fun u H3 => r x l u H3 Q
/-- a[lo:hi], any a -/
theorem pe_slice {r : V → Option Int → Option Int → Hp → VK → Prop} (hr : SlR X r) (he : PE X e te) (hl : PO X lo tl) (hu : PO X hi th) : PE X (.Subscript e (.Slice lo hi none p2) pos) (tSl r te tl th) := by
  intro pins s σ H Q I h
  refine Subscript_ (thn (he pins s σ H _ I h) fun v s1 ⟨x, H1, I1, r1, q1⟩ => ?_)
  refine wpAny_Slice (thn (hl pins s1 σ H1 _ I1 q1) fun vl s2 ⟨l, H2, I2, pl, q2⟩ => thn (hu pins s2 σ H2 _ I2 q2) fun vu s3 ⟨u, H3, I3, pu, q3⟩ => ?_)
  rw [evalPart_none]
  refine wpAny_pure ?_
  have I4 : Inv X pins σ H3 { s3 with heap := s3.heap.push { cls := .type "slice", data := .fields #[vl, vu, .none] } } := I3.kept (t' := s3.toks) fun b ob q => Heap.get?_push_of_some _ q
  obtain ⟨T, id, hT, ht, hg⟩ := hr pins { s3 with heap := s3.heap.push { cls := .type "slice", data := .fields #[vl, vu, .none] } } σ H3 x v vl vu l u s3.heap.objs.size Q I4 r1 (Heap.IsSliceOf.new ..) pl pu q3
  show wpAny (model X.prog X.w) X.A (subscriptTail e (.Slice lo hi none p2) v (.ref s3.heap.objs.size)) (EP X pins σ Q) X.xe { s3 with heap := s3.heap.push { cls := .type "slice", data := .fields #[vl, vu, .none] } }
  exact tail_any (ops := [.ref s3.heap.objs.size, v]) ht hT hg (by with_unfolding_all rfl)

/-- the items of xs[lo:hi] -/
def cutV (xs : List V) (lo hi : Option Int) : List V := (xs.drop (HT.sIx xs.length 0 lo)).take (HT.sIx xs.length xs.length hi - HT.sIx xs.length 0 lo)
theorem cutV_length (xs : List V) (lo hi : Option Int) : (cutV xs lo hi).length ≤ xs.length := by
  unfold cutV
  rw [List.length_take, List.length_drop]
  omega
/-- t[lo:hi], not the whole of it (the whole would be t itself) -/
def rSlT (K : PySem.W.Frag) : V → Option Int → Option Int → Hp → VK → Prop := fun x lo hi H Q => ∃ a xs, x = .ref a ∧ SqT K H a xs ∧
  ¬ (HT.sIx xs.length 0 lo = 0 ∧ HT.sIx xs.length xs.length hi = xs.length) ∧ ∀ p, H p = none → Q (.ref p) (upd H p (.tup (cutV xs lo hi)))
theorem sl_tup : SlR X (rSlT X.K) := by
  intro pins s σ H x v vl vu lo hi sl Q I rx hs pl pu h
  obtain ⟨a, xs, rfl, hx, hw, q⟩ := h
  cases rx
  obtain ⟨its, r, ht, hz⟩ := I.tuple hx
  have hlen : its.toArray.size = xs.length := by rw [List.size_toArray]; exact r.length.symm
  refine ⟨"tuple", _, PyProof.Rows.slot_tuple_getitem.lookup, ht.typeIs, ?_⟩
  refine HT.getItem_tuple_cut ht hs pl pu (by rw [hlen]; exact hw) ?_ (by rw [hlen]; exact hz)
  rw [hlen]
  refine ⟨.ref s.heap.objs.size, _, I.laid (t' := s.toks) (o := .tup (cutV xs lo hi)) (fun b ob q => Heap.get?_push_of_some _ q) (Nat.le_refl _) ?_, rfl, q _ (I.hok.fresh (Nat.le_refl _))⟩
  exact ⟨Nat.le_trans (cutV_length xs lo hi) hz, _, (r.drop (HT.sIx xs.length 0 lo)).take (HT.sIx xs.length xs.length hi - HT.sIx xs.length 0 lo), IsTup.new _ _⟩

/-! ### t < u, t + u -/
def rLtT (K : PySem.W.Frag) : R2 := fun x y H Q => ∃ a b ns ms, x = .ref a ∧ y = .ref b ∧ SqT K H a (ns.map V.int) ∧ SqT K H b (ms.map V.int) ∧ Q (.bl (HT.lexLt ns ms)) H
theorem op_ltT (hu : X.A.units < cLine) : OpR X (compareOp .Lt) (rLtT X.K) := by
  intro pins s σ H x y v u Q I rx ry h
  obtain ⟨a, b, ns, ms, rfl, rfl, ha, hb, q⟩ := h
  cases rx
  cases ry
  obtain ⟨its, r1, p1, _⟩ := I.tuple ha
  obtain ⟨its2, r2, p2, _⟩ := I.tuple hb
  have i1 : IntsAre its.toArray.toList ns := intsAre_of r1
  have i2 : IntsAre its2.toArray.toList ms := intsAre_of r2
  exact HT.lt_tupInts p1 p2 i1 i2 hu ⟨.bl (HT.lexLt ns ms), H, I, rfl, q⟩
/-- t + u, t not empty: u empty gives t itself -/
def rCatT (K : PySem.W.Frag) : R2 := fun x y H Q => ∃ a b xs ys, x = .ref a ∧ y = .ref b ∧ SqT K H a xs ∧ SqT K H b ys ∧ xs ≠ [] ∧ xs.length + ys.length ≤ sizeLine ∧
  (ys = [] → Q (.ref a) H) ∧ (ys ≠ [] → ∀ p, H p = none → Q (.ref p) (upd H p (.tup (xs ++ ys))))
theorem Vals.nil_iff {xs : List V} {us : List Value} (r : Vals xs us) : us = [] ↔ xs = [] := by
  cases r with
  | nil => simp
  | cons _ _ => simp
theorem op_catT : OpR X (binaryOp .Add) (rCatT X.K) := by
  intro pins s σ H x y v u Q I rx ry h
  obtain ⟨a, b, xs, ys, rfl, rfl, ha, hb, hx, hz, q1, q2⟩ := h
  cases rx
  cases ry
  obtain ⟨its, r1, p1, _⟩ := I.tuple ha
  obtain ⟨its2, r2, p2, _⟩ := I.tuple hb
  refine HT.cat_tup p1 p2 (fun z => hx (r1.nil_iff.mp z)) (fun z => ⟨.ref a, H, I, rfl, q1 (r2.nil_iff.mp z)⟩) (fun z => ?_) (by rw [← r1.length, ← r2.length]; exact hz)
  refine ⟨.ref s.heap.objs.size, _, I.laid (t' := s.toks) (o := .tup (xs ++ ys)) (fun b ob q => Heap.get?_push_of_some _ q) (Nat.le_refl _) ?_, rfl, q2 (fun w => z (r2.nil_iff.mpr w)) _ (I.hok.fresh (Nat.le_refl _))⟩
  exact ⟨by rw [List.length_append]; exact hz, _, r1.append r2, IsTup.new _ _⟩
/-- tuple(t) -/
theorem call_tupleT : CallR X (.type "tuple") (fun xs H Q => ∃ a ys, xs = [.ref a] ∧ SqT X.K H a ys ∧ Q (.ref a) H) := by
  intro pins s σ H xs us Q I r h
  obtain ⟨a, ys, rfl, ha, q⟩ := h
  obtain ⟨u, rfl, ru⟩ := vals1 r
  cases ru
  obtain ⟨its, _, p1, _⟩ := I.tuple ha
  exact call_tuple_same (items := its.toArray) p1 ⟨.ref a, H, I, rfl, q⟩
end
end L2

namespace L2
open PySem PySem.Spec PyProof.Rows

/-! ### places -/
/-- the place that an index of any sign means -/
def ixN (n : Nat) (i : Int) : Option Nat := if 0 ≤ i then (if i < n then some i.toNat else none) else if -(n : Int) ≤ i then some (i + n).toNat else none
def atI {α : Type} (xs : List α) (i : Int) : Option α := (ixN xs.length i).bind fun j => xs[j]?
theorem ixN_seq {n : Nat} {i : Int} {j : Nat} (h : ixN n i = some j) : seqIndex? i n = some j ∧ j < n ∧ -(n : Int) ≤ i ∧ i < n := by
  unfold ixN at h
  by_cases h0 : 0 ≤ i
  · rw [if_pos h0] at h
    by_cases h1 : i < n
    · rw [if_pos h1] at h
      have e : i.toNat = j := Option.some.inj h
      exact ⟨by rw [seqIndex_of h0 h1, e], by omega, by omega, h1⟩
    · rw [if_neg h1] at h; cases h
  · rw [if_neg h0] at h
    by_cases h1 : -(n : Int) ≤ i
    · rw [if_pos h1] at h
      have e : (i + n).toNat = j := Option.some.inj h
      exact ⟨by rw [seqIndex_neg (by omega) h1, e], by omega, h1, by omega⟩
    · rw [if_neg h1] at h; cases h
theorem atI_get {α : Type} {xs : List α} {i : Int} {v : α} (h : atI xs i = some v) : ∃ j, seqIndex? i xs.length = some j ∧ xs[j]? = some v ∧ j < xs.length ∧ -(xs.length : Int) ≤ i ∧ i < xs.length := by
  unfold atI at h
  cases e : ixN xs.length i with
  | none => rw [e] at h; cases h
  | some j =>
    rw [e] at h
    obtain ⟨h1, h2, h3, h4⟩ := ixN_seq e
    exact ⟨j, h1, h, h2, h3, h4⟩
theorem atI_nat {α : Type} {xs : List α} {j : Nat} {v : α} (h : xs[j]? = some v) : atI xs (j : Int) = some v := by
  have hj : j < xs.length := (List.getElem?_eq_some_iff.mp h).1
  have e : ixN xs.length (j : Int) = some j := by
    unfold ixN
    rw [if_pos (by omega), if_pos (by omega)]; simp
  unfold atI; rw [e]; exact h
theorem atI_last {α : Type} (xs : List α) (v : α) : atI (xs ++ [v]) (-1) = some v := by
  have hl : (xs ++ [v]).length = xs.length + 1 := by simp
  have e : ixN (xs ++ [v]).length (-1) = some xs.length := by
    unfold ixN
    rw [hl, if_neg (by decide), if_pos (by omega)]
    congr 1
    omega
  unfold atI
  rw [e]
  show (xs ++ [v])[xs.length]? = some v
  simp

/-! ### what may be subscripted -/
/-- what stands as an index of a plain subscript -/
def PlainIx (b : Expr) : Prop := ∀ o i, subscripted b false o i = operate [o, i] (getItem o i)
/-- a subscript by values -/
def IxR (X : Cx) (r : R2) : Prop :=
  ∀ (value slice : Expr) (pins : List (Addr × Obj)) (s : Shared) (σ : St) (H : Hp) (x y : V) (v u : Value) (Q : VK), Inv X pins σ H s → RelV x v → RelV y u → r x y H Q →
    subscripted slice false v u = operate [v, u] (getItem v u) → wpAny (model X.prog X.w) X.A (subscriptTail value slice v u) (EP X pins σ Q) X.xe s
/-- a call of a builtin's method by values: the receiver, the arguments -/
def MtR (X : Cx) (id : String) (r : V → List V → Hp → VK → Prop) : Prop :=
  ∀ (pins : List (Addr × Obj)) (s : Shared) (σ : St) (H : Hp) (x : V) (xs : List V) (v : Value) (us : List Value) (Q : VK), Inv X pins σ H s → RelV x v → Vals xs us → r x xs H Q →
    wpAny (model X.prog X.w) X.A (call (.builtin id) (v :: us)) (EP X pins σ Q) X.xe s
section
variable {X : Cx} {a b : Expr} {ta tb : TE} {pos : Pos}
theorem IxR.or {r r' : R2} (h : IxR X r) (h' : IxR X r') : IxR X (fun x y H Q => r x y H Q ∨ r' x y H Q) := by
  intro value slice pins s σ H x y v u Q I rx ry q hs
  rcases q with q | q
  · exact h value slice pins s σ H x y v u Q I rx ry q hs
  · exact h' value slice pins s σ H x y v u Q I rx ry q hs
theorem MtR.or {id : String} {r r' : V → List V → Hp → VK → Prop} (h : MtR X id r) (h' : MtR X id r') : MtR X id (fun x xs H Q => r x xs H Q ∨ r' x xs H Q) := by
  intro pins s σ H x xs v us Q I rx rs q
  rcases q with q | q
  · exact h pins s σ H x xs v us Q I rx rs q
  · exact h' pins s σ H x xs v us Q I rx rs q
/-- a[b] -/
theorem pe_ix {r : R2} (hr : IxR X r) (ha : PE X a ta) (hb : PE X b tb) (hs : PlainIx b) : PE X (.Subscript a b pos) (tOp r ta tb) := by
  intro pins s σ H Q I h
  exact Subscript_ (binT ha hb I h fun v u s2 x y H2 I2 rx ry q => hr a b pins s2 σ H2 x y v u Q I2 rx ry q (hs _ _))

def rIxL (K : PySem.W.Frag) : R2 := fun x y H Q => ∃ p xs i v, x = .ref p ∧ y = .int i ∧ SqL K H p xs ∧ atI xs i = some v ∧ Q v H
def rIxT (K : PySem.W.Frag) : R2 := fun x y H Q => ∃ p xs i v, x = .ref p ∧ y = .int i ∧ SqT K H p xs ∧ atI xs i = some v ∧ Q v H
def rIxS : R2 := fun x y H Q => ∃ z i c, x = .str z ∧ y = .int i ∧ z.length ≤ sizeLine ∧ atI z.cps.toList i = some c ∧ Q (.str ⟨#[c]⟩) H
theorem ix_list : IxR X (rIxL X.K) := by
  intro value slice pins s σ H x y v u Q I rx ry h hs
  obtain ⟨p, xs, i, z, rfl, rfl, hq, he, q⟩ := h
  cases rx
  obtain ⟨t, rfl⟩ := ry
  obtain ⟨its, r, pl, hz⟩ := I.list hq
  obtain ⟨j, h1, h2, h3, h4, h5⟩ := atI_get he
  obtain ⟨w, ew, rw'⟩ := r.get h2
  have hl := r.length
  have hn := line63
  have fin : EP X pins σ Q w s := ⟨z, H, I, rw', q⟩
  by_cases h0 : 0 ≤ i
  · have hj : i.toNat = j := by
      rw [seqIndex_of h0 h5] at h1
      exact Option.some.inj h1
    exact item_listR pl.isList h0 (by omega) (by rw [hj]; simpa using ew) fin hs
  · have hj : (i + (its.toArray.size : Int)).toNat = j := by
      rw [seqIndex_neg (by omega) h4] at h1
      rw [List.size_toArray, ← hl]
      exact Option.some.inj h1
    exact subscriptTail_builtinR (x := w) pl.isList.typeIs slot_list_getitem.lookup
      (wpAny_getItem_list_neg (Q := fun r s' => r = w ∧ EP X pins σ Q r s') pl.isList (by omega) (by rw [List.size_toArray] <;> omega) (by omega) (by rw [hj]; simpa using ew) ⟨rfl, fin⟩) hs
theorem ix_tup : IxR X (rIxT X.K) := by
  intro value slice pins s σ H x y v u Q I rx ry h hs
  obtain ⟨p, xs, i, z, rfl, rfl, hq, he, q⟩ := h
  cases rx
  obtain ⟨t, rfl⟩ := ry
  obtain ⟨its, r, pl, hz⟩ := I.tuple hq
  obtain ⟨j, h1, h2, h3, h4, h5⟩ := atI_get he
  obtain ⟨w, ew, rw'⟩ := r.get h2
  have hl := r.length
  have hn := line63
  have fin : EP X pins σ Q w s := ⟨z, H, I, rw', q⟩
  exact subscriptTail_builtinR (x := w) pl.typeIs slot_tuple_getitem.lookup
    (getItem_tuple (j := j) (Q := fun r s' => r = w ∧ EP X pins σ Q r s') pl (by omega) (by omega) (by rw [List.size_toArray, ← hl]; exact h1) (by simpa using ew) ⟨rfl, fin⟩) hs
theorem ix_str : IxR X rIxS := by
  intro value slice pins s σ H x y v u Q I rx ry h hs
  obtain ⟨z, i, c, rfl, rfl, hz, he, q⟩ := h
  obtain ⟨t, rfl⟩ := rx
  obtain ⟨t', rfl⟩ := ry
  obtain ⟨j, h1, h2, h3, h4, h5⟩ := atI_get he
  have hl : z.cps.toList.length = z.length := by simp [Str.length]
  rw [hl] at h1 h4 h5
  have hn := line63
  exact tail_any (typeIs_str s z t) slot_str_getitem.lookup (getItem_str (c := c) (by
    have e1 : decide (i < -(2 ^ 63 : Int)) = false := decide_eq_false (by omega)
    have e2 : decide (i ≥ 2 ^ 63) = false := decide_eq_false (by omega)
    rw [e1, e2, Bool.or_false]) (by rw [h1]; simpa using h2) ⟨.str ⟨#[c]⟩, H, I.tok _, ⟨_, rfl⟩, q⟩) hs
/-- list, tuple or str -/
def rIx (K : PySem.W.Frag) : R2 := fun x y H Q => rIxL K x y H Q ∨ rIxT K x y H Q ∨ rIxS x y H Q
theorem ix_seq : IxR X (rIx X.K) := ix_list.or (ix_tup.or ix_str)

/-! ### xs[i] = v, any sign -/
/-- the list's object behind a store -/
theorem mapSeq_set (its : List Value) (n j : Nat) (u : Value) : Obj.mapSeq (·.setIfInBounds j u) { cls := .type "list", data := .seq its.toArray n } = { cls := .type "list", data := .seq (its.set j u).toArray n } := by
  simp [Obj.mapSeq]
theorem Inv.lst {pins : List (Addr × Obj)} {σ : St} {H : Hp} {s : Shared} {p : Addr} {xs : List V} (I : Inv X pins σ H s) (h : H p = some (.lst xs)) :
    ∃ (its : List Value) (n : Nat), Vals xs its ∧ s.heap.get? p = some { cls := .type "list", data := .seq its.toArray n } ∧ xs.length ≤ sizeLine := by
  obtain ⟨z, its, n, r, e⟩ := I.hok p _ h
  exact ⟨its, n, r, e, z⟩
/-- the list at p is written by an update of its object -/
theorem Inv.lstUpd {pins : List (Addr × Obj)} {σ : St} {H : Hp} {s : Shared} {p : Addr} {xs ys : List V} {its its' : List Value} {n n' : Nat} {f : Obj → Obj} (I : Inv X pins σ H s) (h : H p = some (.lst xs))
    (ho : s.heap.get? p = some { cls := .type "list", data := .seq its.toArray n }) (hf : f { cls := .type "list", data := .seq its.toArray n } = { cls := .type "list", data := .seq its'.toArray n' }) (r : Vals ys its') (hz : ys.length ≤ sizeLine) (t : Nat) :
    Inv X pins σ (upd H p (.lst ys)) { s with heap := s.heap.update p f, toks := t } := by
  have e : (s.heap.update p f).get? p = some { cls := .type "list", data := .seq its'.toArray n' } := by
    rw [Heap.get?_update_self f ho (by rw [hf] <;> rfl), hf]
  refine I.write (x := p) (e := p) (by rw [h]; trivial) (.inl rfl) (fun b u hb q => (Heap.get?_update_other _ _ (Ne.symm hb)).trans q) ⟨_, e⟩ ?_
  exact ⟨hz, its', n', r, e⟩
def rSetL : V → V → V → Hp → (Hp → Prop) → Prop := fun o i v H Q => ∃ p xs k j, o = .ref p ∧ i = .int k ∧ H p = some (.lst xs) ∧ ixN xs.length k = some j ∧ Q (upd H p (.lst (xs.set j v)))
theorem set_list : PSet X rSetL := by
  intro pins s σ H o i v ov iv u Q I ro ri rv h
  obtain ⟨p, xs, k, j, rfl, rfl, hp, hj, q⟩ := h
  cases ro
  obtain ⟨t, rfl⟩ := ri
  obtain ⟨its, n, r, ho, hz⟩ := I.lst hp
  obtain ⟨h1, h2, h3, h4⟩ := ixN_seq hj
  have hl := r.length
  have hn := line63
  have I' : Inv X pins σ (upd H p (.lst (xs.set j v))) { s with heap := s.heap.update p (Obj.mapSeq (·.setIfInBounds j u)) } :=
    I.lstUpd hp ho (mapSeq_set its n j u) (r.set rv j) (by rw [List.length_set]; exact hz) s.toks
  by_cases h0 : 0 ≤ k
  · have hk : k.toNat = j := by
      rw [seqIndex_of h0 h4] at h1
      exact Option.some.inj h1
    exact PySem.W.ki_setAt ho h0 (by omega) (by rw [List.size_toArray, ← hl]; exact h4) (by rw [hk]; exact ⟨_, I', q⟩)
  · have hk : (k + (its.toArray.size : Int)).toNat = j := by
      rw [seqIndex_neg (by omega) h3] at h1
      rw [List.size_toArray, ← hl]
      exact Option.some.inj h1
    exact PySem.W.ki_setBack ho (by omega) (by rw [List.size_toArray, ← hl]; exact h3) (by omega) (by rw [hk]; exact ⟨_, I', q⟩)

/-! ### slices -/
theorem slice_bounds (lo hi : Option Int) (n : Nat) : (sliceBounds lo hi none n).1 = ((HT.sIx n 0 lo : Nat) : Int) ∧ (sliceBounds lo hi none n).2.1 = ((HT.sIx n n hi : Nat) : Int) ∧ (sliceBounds lo hi none n).2.2 = 1 := by
  refine ⟨?_, ?_, rfl⟩
  · cases lo with
    | none => simp [sliceBounds, HT.sIx]
    | some i =>
      simp only [sliceBounds, HT.sIx, Option.getD_none, show (1 : Int) > 0 by decide, if_true]
      by_cases h : i < 0
      · simp only [h, if_true] <;> omega
      · simp only [h, if_false] <;> omega
  · cases hi with
    | none => simp [sliceBounds, HT.sIx]
    | some i =>
      simp only [sliceBounds, HT.sIx, Option.getD_none, show (1 : Int) > 0 by decide, if_true]
      by_cases h : i < 0
      · simp only [h, if_true] <;> omega
      · simp only [h, if_false] <;> omega
theorem slicePick_cut (its : List Value) (lo hi : Option Int) : slicePick its.toArray lo hi none = ((its.drop (HT.sIx its.length 0 lo)).take (HT.sIx its.length its.length hi - HT.sIx its.length 0 lo)).toArray := by
  obtain ⟨h1, h2, h3⟩ := slice_bounds lo hi its.toArray.size
  unfold slicePick
  rw [h1, h2, h3]
  simp only [sliceRange_one, pick_run, List.size_toArray] <;> rfl
/-- xs[lo:hi] of a list: a new list -/
def rSlL (K : PySem.W.Frag) : V → Option Int → Option Int → Hp → VK → Prop := fun x lo hi H Q => ∃ a xs, x = .ref a ∧ SqL K H a xs ∧ ∀ p, H p = none → Q (.ref p) (upd H p (.lst (cutV xs lo hi)))
theorem sl_list : SlR X (rSlL X.K) := by
  intro pins s σ H x v vl vu lo hi sl Q I rx hs pl pu h
  obtain ⟨a, xs, rfl, hx, q⟩ := h
  cases rx
  obtain ⟨its, r, ht, hz⟩ := I.list hx
  have hlen := r.length
  refine ⟨"list", _, slot_list_getitem.lookup, ht.isList.typeIs, ?_⟩
  refine wpAny_getItem_list_slice ht.isList hs pl pu .none (by simp) ?_ (by rw [List.size_toArray] <;> omega)
  rw [slicePick_cut, ← hlen]
  refine ⟨.ref s.heap.objs.size, _, I.laid (t' := s.toks) (o := .lst (cutV xs lo hi)) (fun b ob q => Heap.get?_push_of_some _ q) (Nat.le_refl _) ?_, rfl, q _ (I.hok.fresh (Nat.le_refl _))⟩
  exact ⟨Nat.le_trans (cutV_length xs lo hi) hz, _, 0, (r.drop (HT.sIx xs.length 0 lo)).take (HT.sIx xs.length xs.length hi - HT.sIx xs.length 0 lo), Heap.get?_push_size _ rfl⟩

/-! ### in, not in: flat items -/
def flatV : V → Bool
  | .non => true
  | .bl _ => true
  | .int _ => true
  | .str _ => true
  | _ => false
/-- == of flat values -/
def eqV : V → V → Bool
  | .non, .non => true
  | .bl a, .bl b => a == b
  | .bl a, .int b => (if a then 1 else 0) == b
  | .int a, .bl b => a == (if b then 1 else 0)
  | .int a, .int b => a == b
  | .str a, .str b => a == b
  | _, _ => false
theorem eqAt_V {A : Around} {s : Shared} {y x : V} {u v : Value} (ry : RelV y u) (rx : RelV x v) (fy : flatV y = true) (fx : flatV x = true) : SeqAt.EqAt A s u v (eqV y x) := by
  cases y with
  | non =>
    cases ry
    cases x with
    | non => cases rx; exact SeqAt.EqAt.same _
    | bl b => cases rx; exact SeqAt.EqAt.none_bool b
    | int b => obtain ⟨t, rfl⟩ := rx; exact SeqAt.EqAt.none_int b t
    | str b => obtain ⟨t, rfl⟩ := rx; exact SeqAt.EqAt.none_str b t
    | _ => exact absurd (show false = true from fx) Bool.false_ne_true
  | bl a =>
    cases ry
    cases x with
    | non => cases rx; exact SeqAt.EqAt.bool_none a
    | bl b => cases rx; exact SeqAt.EqAt.bool_bool a b
    | int b => obtain ⟨t, rfl⟩ := rx; exact SeqAt.EqAt.bool_int a b t
    | str b => obtain ⟨t, rfl⟩ := rx; exact SeqAt.EqAt.bool_str a b t
    | _ => exact absurd (show false = true from fx) Bool.false_ne_true
  | int a =>
    obtain ⟨t', rfl⟩ := ry
    cases x with
    | non => cases rx; exact SeqAt.EqAt.int_none a t'
    | bl b => cases rx; exact SeqAt.EqAt.int_bool a t' b
    | int b => obtain ⟨t, rfl⟩ := rx; exact SeqAt.EqAt.int_int a t' b t
    | str b => obtain ⟨t, rfl⟩ := rx; exact SeqAt.EqAt.int_str a t' b t
    | _ => exact absurd (show false = true from fx) Bool.false_ne_true
  | str a =>
    obtain ⟨t', rfl⟩ := ry
    cases x with
    | non => cases rx; exact SeqAt.EqAt.str_none a t'
    | bl b => cases rx; exact SeqAt.EqAt.str_bool a t' b
    | int b => obtain ⟨t, rfl⟩ := rx; exact SeqAt.EqAt.str_int a t' b t
    | str b => obtain ⟨t, rfl⟩ := rx; exact SeqAt.EqAt.str_str a t' b t
    | _ => exact absurd (show false = true from fx) Bool.false_ne_true
  | _ => exact absurd (show false = true from fy) Bool.false_ne_true
/-- the items' answers, read off the values (a value's own answer does not lean on its token) -/
def eqU (x : V) (u : Value) : Bool := match u with
  | .none => eqV .non x
  | .bool b => eqV (.bl b) x
  | .int i _ => eqV (.int i) x
  | .str z _ => eqV (.str z) x
  | _ => false
theorem eqU_of {x y : V} {u : Value} (r : RelV y u) (f : flatV y = true) : eqU x u = eqV y x := by
  cases y with
  | non => cases r; rfl
  | bl b => cases r; rfl
  | int i => obtain ⟨t, rfl⟩ := r; rfl
  | str z => obtain ⟨t, rfl⟩ := r; rfl
  | _ => exact absurd (show false = true from f) Bool.false_ne_true
theorem any_eqU {x : V} : ∀ {xs : List V} {us : List Value}, Vals xs us → xs.all flatV = true → us.any (eqU x) = xs.any fun y => eqV y x
  | _, _, .nil, _ => rfl
  | y :: xs, u :: us, .cons r t, f => by
    rw [List.all_cons, Bool.and_eq_true] at f
    rw [List.any_cons, List.any_cons, eqU_of r f.1, any_eqU t f.2]
theorem mem_eqAt {A : Around} {s : Shared} {x : V} {v : Value} (rx : RelV x v) (fx : flatV x = true) : ∀ {xs : List V} {us : List Value}, Vals xs us → xs.all flatV = true → ∀ u ∈ us, SeqAt.EqAt A s u v (eqU x u)
  | _, _, .nil, _ => fun u hu => by cases hu
  | y :: xs, u :: us, .cons r t, f => fun u' hu => by
    rw [List.all_cons, Bool.and_eq_true] at f
    rcases List.mem_cons.mp hu with rfl | hu
    · rw [eqU_of r f.1]; exact eqAt_V r rx f.1 fx
    · exact mem_eqAt rx fx t f.2 u' hu
def inV (x : V) (xs : List V) : Bool := xs.any fun y => eqV y x
/-- x in a list or tuple of flat items -/
def rIn (K : PySem.W.Frag) (neg : Bool) : R2 := fun x y H Q => ∃ p xs, y = .ref p ∧ (SqL K H p xs ∨ SqT K H p xs) ∧ flatV x = true ∧ xs.all flatV = true ∧ Q (.bl (if neg then !inV x xs else inV x xs)) H
theorem op_in_seq : OpR X (compareOp .In) (rIn X.K false) := by
  intro pins s σ H x y v u Q I rx ry h
  obtain ⟨p, xs, rfl, hq, fx, fs, q⟩ := h
  cases ry
  rcases hq with hq | hq
  · obtain ⟨its, r, pl, hz⟩ := I.list hq
    refine SeqAt.in_listAt (eqU x) pl.isList (fun w hw => mem_eqAt rx fx r fs w (by simpa using hw)) ⟨.bl _, H, I, rfl, ?_⟩
    rw [show its.toArray.any (eqU x) = its.any (eqU x) by simp, any_eqU r fs]
    exact q
  · obtain ⟨its, r, pl, hz⟩ := I.tuple hq
    refine SeqAt.in_tupleAt (eqU x) pl (fun w hw => mem_eqAt rx fx r fs w (by simpa using hw)) ⟨.bl _, H, I, rfl, ?_⟩
    rw [show its.toArray.any (eqU x) = its.any (eqU x) by simp, any_eqU r fs]
    exact q
theorem op_notIn_seq : OpR X (compareOp .NotIn) (rIn X.K true) := by
  intro pins s σ H x y v u Q I rx ry h
  obtain ⟨p, xs, rfl, hq, fx, fs, q⟩ := h
  cases ry
  rcases hq with hq | hq
  · obtain ⟨its, r, pl, hz⟩ := I.list hq
    refine SeqAt.notIn_listAt (eqU x) pl.isList (fun w hw => mem_eqAt rx fx r fs w (by simpa using hw)) ⟨.bl _, H, I, rfl, ?_⟩
    rw [show its.toArray.any (eqU x) = its.any (eqU x) by simp, any_eqU r fs]
    exact q
  · obtain ⟨its, r, pl, hz⟩ := I.tuple hq
    refine SeqAt.notIn_tupleAt (eqU x) pl (fun w hw => mem_eqAt rx fx r fs w (by simpa using hw)) ⟨.bl _, H, I, rfl, ?_⟩
    rw [show its.toArray.any (eqU x) = its.any (eqU x) by simp, any_eqU r fs]
    exact q
theorem op_notIn_str : OpR X (compareOp .NotIn) (fun x y H Q => ∃ i j, x = .str i ∧ y = .str j ∧ Q (.bl (!(!(Builtin.Str.occurrences j i 0 j.length 1).isEmpty))) H) := by
  intro pins s σ H x y v u Q I rx ry h
  obtain ⟨i, j, rfl, rfl, q⟩ := h
  obtain ⟨t, rfl⟩ := rx
  obtain ⟨t', rfl⟩ := ry
  exact notIn_str ⟨.bl _, H, I, rfl, q⟩

/-! ### len, list(x), tuple(x) of any list or tuple that is read -/
theorem call_len_seq : CallR X (.builtin "len") (fun xs H Q => ∃ p ys, xs = [.ref p] ∧ (SqL X.K H p ys ∨ SqT X.K H p ys) ∧ Q (.int ys.length) H) := by
  intro pins s σ H xs us Q I r h
  obtain ⟨p, ys, rfl, hq, q⟩ := h
  obtain ⟨u, rfl, rx⟩ := vals1 r
  cases rx
  have hn := line63
  rcases hq with hq | hq
  · obtain ⟨its, r', pl, hz⟩ := I.list hq
    have hlen := r'.length
    exact Calls.call_len_list pl.isList (by simp only [List.size_toArray] <;> omega) ⟨.int ys.length, H, I.tok _, ⟨s.toks + 1, by rw [List.size_toArray, hlen]⟩, q⟩
  · obtain ⟨its, r', pl, hz⟩ := I.tuple hq
    have hlen := r'.length
    exact len_tuple pl (by simp only [List.size_toArray] <;> omega) ⟨.int ys.length, H, I.tok _, ⟨s.toks + 1, by rw [List.size_toArray, hlen]⟩, q⟩
theorem call_len_str : CallR X (.builtin "len") (fun xs H Q => ∃ z, xs = [.str z] ∧ z.length ≤ sizeLine ∧ Q (.int z.length) H) := by
  intro pins s σ H xs us Q I r h
  obtain ⟨z, rfl, hz, q⟩ := h
  obtain ⟨u, rfl, t, rfl⟩ := vals1 r
  have hn := line63
  exact len_str (by omega) ⟨.int z.length, H, I.tok _, ⟨_, rfl⟩, q⟩
theorem CallR.or {f : Value} {r r' : List V → Hp → VK → Prop} (h : CallR X f r) (h' : CallR X f r') : CallR X f (fun xs H Q => r xs H Q ∨ r' xs H Q) := by
  intro pins s σ H xs us Q I rs q
  rcases q with q | q
  · exact h pins s σ H xs us Q I rs q
  · exact h' pins s σ H xs us Q I rs q
theorem call_list_of : CallR X (.type "list") (fun xs H Q => ∃ p ys, xs = [.ref p] ∧ (SqL X.K H p ys ∨ SqT X.K H p ys) ∧ ∀ l, H l = none → Q (.ref l) (upd H l (.lst ys))) := by
  intro pins s σ H xs us Q I r h
  obtain ⟨p, ys, rfl, hq, q⟩ := h
  obtain ⟨u, rfl, rx⟩ := vals1 r
  cases rx
  have fin : ∀ (its : List Value), Vals ys its → ys.length ≤ sizeLine → ∀ (h' : Heap) (c' : Nat), (∀ b o', s.heap.get? b = some o' → h'.get? b = some o') →
      h'.get? s.heap.objs.size = some { cls := .type "list", dict := none, data := .seq its.toArray c', slots := #[] } → EP X pins σ Q (.ref s.heap.objs.size) { s with heap := h' } := fun its r' hz h' c' kp e =>
    ⟨.ref s.heap.objs.size, _, I.laid (t' := s.toks) kp (Nat.le_refl _) (show ObjOk X.prog X.w _ h' _ (.lst ys) from ⟨hz, its, c', r', e⟩), rfl, q _ (I.hok.fresh (Nat.le_refl _))⟩
  rcases hq with hq | hq
  · obtain ⟨its, r', pl, hz⟩ := I.list hq
    have hlen := r'.length
    obtain ⟨o, ho, hc, n, hd⟩ := pl.isList
    exact call_list_seq p (.inl rfl) ho hc hd (fun h' c' kp e => fin its r' hz h' c' kp e) (by simp only [List.size_toArray] <;> omega)
  · obtain ⟨its, r', pl, hz⟩ := I.tuple hq
    have hlen := r'.length
    obtain ⟨o, ho, hc, n, hd⟩ := pl
    exact call_list_seq p (.inr rfl) ho hc hd (fun h' c' kp e => fin its r' hz h' c' kp e) (by simp only [List.size_toArray] <;> omega)
theorem call_tuple_of : CallR X (.type "tuple") (fun xs H Q => ∃ p ys, xs = [.ref p] ∧ ((SqL X.K H p ys ∧ ∀ l, H l = none → Q (.ref l) (upd H l (.tup ys))) ∨ (SqT X.K H p ys ∧ Q (.ref p) H))) := by
  intro pins s σ H xs us Q I r h
  obtain ⟨p, ys, rfl, h⟩ := h
  obtain ⟨u, rfl, rx⟩ := vals1 r
  cases rx
  rcases h with ⟨hq, q⟩ | ⟨hq, q⟩
  · obtain ⟨its, r', pl, hz⟩ := I.list hq
    have hlen := r'.length
    refine call_tuple_list pl.isList (fun h' kp => ?_) (by simp only [List.size_toArray] <;> omega)
    have I1 : Inv X pins σ H { s with heap := h' } := I.kept (t' := s.toks) kp
    have I2 : Inv X pins σ (upd H h'.objs.size (.tup ys)) { s with heap := h'.push { cls := .type "tuple", data := .seq its.toArray } } :=
      I1.laid (t' := s.toks) (fun b o e => Heap.get?_push_of_some _ e) (Nat.le_refl _) (show ObjOk X.prog X.w _ _ _ (.tup ys) from ⟨hz, its, r', IsTup.new _ _⟩)
    exact ⟨.ref h'.objs.size, _, I2, rfl, q _ (I1.hok.fresh (Nat.le_refl _))⟩
  · obtain ⟨its, r', pl, hz⟩ := I.tuple hq
    exact call_tuple_same pl ⟨.ref p, H, I, rfl, q⟩

/-! ### the call of a builtin's method: o.m(..) -/
/-- the value is of that builtin type -/
def tyV (K : PySem.W.Frag) (T : String) (x : V) (H : Hp) : Prop := match x with
  | .str _ => T = "str"
  | .int _ => T = "int"
  | .ref p => (T = "list" ∧ ∃ xs, SqL K H p xs) ∨ (T = "tuple" ∧ ∃ o, K.lookup p = some o ∧ o.cls = .type "tuple" ∧ o.dict = none) ∨
      (T = "dict" ∧ ((∃ kvs, H p = some (.dK kvs)) ∨ ∃ kvs, H p = some (.dT kvs))) ∨ (T = "set" ∧ ∃ S n, H p = some (.set S n))
  | _ => False
theorem tyV_is {pins : List (Addr × Obj)} {σ : St} {H : Hp} {s : Shared} {T : String} {x : V} {v : Value} (I : Inv X pins σ H s) (r : RelV x v) (ty : tyV X.K T x H) :
    s.TypeIs v T ∧ ∀ a, v = .ref a → ∃ ob, s.heap.get? a = some ob ∧ ob.dict = none := by
  cases x with
  | str z =>
    obtain ⟨t, rfl⟩ := r
    cases (show T = "str" from ty)
    exact ⟨typeIs_str s z t, fun _ e => nomatch e⟩
  | int i =>
    obtain ⟨t, rfl⟩ := r
    cases (show T = "int" from ty)
    exact ⟨typeIs_int s i t, fun _ e => nomatch e⟩
  | ref p =>
    cases r
    rcases ty with ⟨rfl, xs, hq⟩ | ⟨rfl, o, hk, hc, hd⟩ | ⟨rfl, hk⟩ | ⟨rfl, S, n, hk⟩
    · obtain ⟨its, _, pl, _⟩ := I.list hq
      refine ⟨pl.isList.typeIs, fun a e => ?_⟩
      cases e
      obtain ⟨o, n, e, c, hd, _⟩ := pl
      exact ⟨o, e, hd⟩
    · refine ⟨⟨o, I.kIn p o hk, hc⟩, fun a e => ?_⟩
      cases e
      exact ⟨o, I.kIn _ o hk, hd⟩
    · have z : ∃ o, s.heap.get? p = some o ∧ o.ExactDict := by
        rcases hk with ⟨kvs, hk⟩ | ⟨kvs, hk⟩
        · obtain ⟨_, _, _, _, o, _, _, e, ex, _⟩ := I.hok p _ hk
          exact ⟨o, e, ex⟩
        · obtain ⟨_, _, _, _, o, _, _, e, ex, _⟩ := I.hok p _ hk
          exact ⟨o, e, ex⟩
      obtain ⟨o, e, ex⟩ := z
      refine ⟨⟨o, e, ex.1⟩, fun a e2 => ?_⟩
      cases e2
      exact ⟨o, e, ex.2.1⟩
    · obtain ⟨o, _, _, _, e, ex, _⟩ := I.hok p _ hk
      refine ⟨⟨o, e, ex.1⟩, fun a e2 => ?_⟩
      cases e2
      exact ⟨o, e, ex.2.1⟩
  | _ => exact False.elim ty
def tBM0 (K : PySem.W.Frag) (T : String) (r : V → List V → Hp → VK → Prop) (to : TE) : TE := fun σ H Q => to σ H fun x H1 => tyV K T x H1 ∧ r x [] H1 Q
def tBM (K : PySem.W.Frag) (T : String) (r : V → List V → Hp → VK → Prop) (to : TE) (t : TA) : TE := fun σ H Q => to σ H fun x H1 => tyV K T x H1 ∧ t σ H1 fun xs H2 => r x xs H2 Q
variable {o e : Expr} {es : List Expr} {to : TE} {t : TA} {name : Str} {apos cpos : Pos} {T id : String} {r : V → List V → Hp → VK → Prop}
theorem pe_bm0 (pa : PlainAttrs T) (slot : Slot T name id) (hty : typeOf (.builtin id) = pure (.type "method_descriptor")) (hm : MtR X id r) (ho : PE X o to)
    (hbase : attributeBase o name X.env (eval o X.env) = eval o X.env := by rfl) (hline : (apos.endLine == cpos.line) = true := by rfl) : PE X (.Call (.Attribute o name apos) [] [] cpos) (tBM0 X.K T r to) := by
  intro pins s σ H Q I h
  refine wpAny_Call_method0_late hbase hline (thn (ho pins s σ H _ I h) fun v s1 ⟨x, H1, I1, r1, ty, q1⟩ => ?_)
  obtain ⟨h1, h2⟩ := tyV_is I1 r1 ty
  exact ⟨T, id, pa, slot, hty, h1, h2, Calls.callWith_builtin rfl (PySem.evalArgs_none (hm pins s1 σ H1 x [] v [] Q I1 r1 .nil q1))⟩
theorem pe_bm (pa : PlainAttrs T) (slot : Slot T name id) (hty : typeOf (.builtin id) = pure (.type "method_descriptor")) (hm : MtR X id r) (ho : PE X o to) (ha : PA X (e :: es) t)
    (hbase : attributeBase o name X.env (eval o X.env) = eval o X.env := by rfl)
    (hfew : ((backTo cpos (starEach (e :: es) X.env)).all (fun x => !x.1) && (backToKw cpos (keywordEach [] X.env)).all (fun x => x.1.isSome)
      && decide ((e :: es).length + ([] : List Keyword).length + (if ([] : List Keyword).isEmpty then 0 else 1) < 30)) = true := by rfl)
    (hline : (apos.endLine == cpos.line) = true := by rfl) (hs : starEach (e :: es) X.env = (false, eval e X.env) :: starEach es X.env := by rfl) (hplain : (backTo cpos (starEach es X.env)).any (·.1) = false := by rfl) :
    PE X (.Call (.Attribute o name apos) (e :: es) [] cpos) (tBM X.K T r to t) := by
  intro pins s σ H Q I h
  refine wpAny_Call_method_late hbase hfew hline rfl (thn (ho pins s σ H _ I h) fun v s1 ⟨x, H1, I1, r1, ty, q1⟩ => ?_)
  obtain ⟨h1, h2⟩ := tyV_is I1 r1 ty
  refine ⟨T, id, pa, slot, hty, h1, h2, ?_⟩
  have hA := ha cpos pins s1 σ H1 _ I1 q1
  rw [hs] at hA ⊢
  refine Calls.callWith_builtin (by show (false || (backTo cpos (starEach es X.env)).any (·.1)) = false; rw [hplain] <;> rfl) (Calls.evalArgs_plain ?_)
  exact thn hA fun us s2 ⟨vs, H2, I2, r2, q2⟩ => hm pins s2 σ H2 x vs v us Q I2 r1 r2 q2
/- xs.append(e), list.index on a module's tuple .. are MtR facts of 06m -/
end
end L2

namespace L2
open PySem PySem.Spec PyProof.Rows

def MtM (X : Cx) (id : String) (r : V → List V → Hp → VK → Prop) : Prop :=
  ∀ (pins : List (Addr × Obj)) (s : Shared) (σ : St) (H : Hp) (x : V) (xs : List V) (v : Value) (us : List Value) (Q : VK), Inv X pins σ H s → RelV x v → Vals xs us → r x xs H Q →
    wpAny (model X.prog X.w) X.A (call (.builtin id) (v :: us)) (EP X pins σ Q) X.xe s

/-! ### lists of values -/
theorem Vals.one : ∀ {x : V} {us : List Value}, Vals [x] us → ∃ u, us = [u] ∧ RelV x u
  | _, _, .cons r .nil => ⟨_, rfl, r⟩
theorem Vals.two : ∀ {x y : V} {us : List Value}, Vals [x, y] us → ∃ u v, us = [u, v] ∧ RelV x u ∧ RelV y v
  | _, _, _, .cons r (.cons q .nil) => ⟨_, _, rfl, r, q⟩
theorem Vals.zero : ∀ {us : List Value}, Vals [] us → us = []
  | _, .nil => rfl
theorem Vals.dropLast {xs : List V} {us : List Value} (h : Vals xs us) : Vals xs.dropLast us.dropLast := by
  induction h with
  | nil => exact .nil
  | cons r t ih =>
    cases t with
    | nil => exact .nil
    | cons q t' => exact .cons r ih
theorem Vals.eraseIdx : ∀ {xs : List V} {us : List Value} (i : Nat), Vals xs us → Vals (xs.eraseIdx i) (us.eraseIdx i)
  | _, _, _, .nil => .nil
  | _, _, 0, .cons _ t => t
  | _, _, i + 1, .cons r t => .cons r (Vals.eraseIdx i t)
theorem Vals.reverse {xs : List V} {us : List Value} (h : Vals xs us) : Vals xs.reverse us.reverse := by
  induction h with
  | nil => exact .nil
  | cons r t ih => rw [List.reverse_cons, List.reverse_cons]; exact Vals.append ih (.cons r .nil)
theorem Vals.rep {xs : List V} {us : List Value} (h : Vals xs us) : ∀ k : Nat, Vals (List.replicate k xs).flatten (List.replicate k us).flatten
  | 0 => .nil
  | k + 1 => by
    rw [List.replicate_succ, List.replicate_succ, List.flatten_cons, List.flatten_cons]
    exact Vals.append h (Vals.rep h k)
theorem erase_last {α : Type} (l : List α) : l.eraseIdx (l.length - 1) = l.dropLast := by
  induction l with
  | nil => rfl
  | cons a r ih =>
    cases r with
    | nil => rfl
    | cons b r =>
      have e : (a :: b :: r).length - 1 = ((b :: r).length - 1) + 1 := by
        have h1 : (a :: b :: r).length = r.length + 2 := rfl
        have h2 : (b :: r).length = r.length + 1 := rfl
        omega
      rw [e, List.eraseIdx_cons_succ, ih]
      all_goals rfl
theorem len_erase {α : Type} : ∀ (l : List α) (i : Nat), (l.eraseIdx i).length ≤ l.length
  | [], _ => Nat.le_refl _
  | _ :: _, 0 => Nat.le_succ _
  | _ :: r, i + 1 => Nat.succ_le_succ (len_erase r i)
theorem foldl_rep (its : List Value) : ∀ (k : Nat) (acc : List Value),
    List.foldl (fun x1 x2 => x1 ++ x2) acc.toArray (List.replicate k its.toArray) = (acc ++ (List.replicate k its).flatten).toArray
  | 0, acc => by simp
  | k + 1, acc => by
    have e : acc.toArray ++ its.toArray = (acc ++ its).toArray := by simp
    have e2 : (acc ++ its) ++ (List.replicate k its).flatten = acc ++ (List.replicate (k + 1) its).flatten := by
      rw [List.replicate_succ, List.flatten_cons, List.append_assoc]
    rw [← e2, ← foldl_rep its k (acc ++ its), ← e, List.replicate_succ, List.foldl_cons]

section
variable {X : Cx} {pins : List (Addr × Obj)} {σ : St} {H : Hp} {s : Shared} {l b : Addr} {xs ys zs : List V}

/-! ### the two steps: a tracked list is rewritten, a new list is laid -/
theorem Inv.lset {its its' : List Value} {n : Nat} {f : Array Value → Array Value} {t' : Nat} (I : Inv X pins σ H s) (hH : H l = some (.lst xs))
    (e : s.heap.get? l = some { cls := .type "list", data := .seq its.toArray n }) (hf : f its.toArray = its'.toArray) (hv : Vals ys its') (hz : ys.length ≤ sizeLine) :
    Inv X pins σ (upd H l (.lst ys)) { s with heap := s.heap.update l (Obj.mapSeq f), toks := t' } := by
  have q := PySem.IsL.update e f
  rw [hf] at q
  refine I.write (x := l) (e := l) (by rw [hH]; exact trivial) (.inl rfl) (fun b' u hb hu => (Heap.get?_update_other s.heap (Obj.mapSeq f) (Ne.symm hb)).trans hu) ⟨_, q⟩ ?_
  exact ⟨hz, its', _, hv, q⟩
theorem Inv.lnew {its : List Value} {t' : Nat} (I : Inv X pins σ H s) (hv : Vals ys its) (hz : ys.length ≤ sizeLine) :
    Inv X pins σ (upd H s.heap.objs.size (.lst ys)) { s with heap := s.heap.push { cls := .type "list", data := .seq its.toArray }, toks := t' } :=
  I.laid (fun _ _ q => Heap.get?_push_of_some _ q) (Nat.le_refl _) ⟨hz, its, 0, hv, Heap.get?_push_size _ rfl⟩
theorem Inv.fresh (I : Inv X pins σ H s) : H s.heap.objs.size = none := I.hok.fresh (Nat.le_refl _)
theorem Inv.lstM (I : Inv X pins σ H s) (hH : H l = some (.lst xs)) : xs.length ≤ sizeLine ∧ ∃ (its : List Value) (n : Nat), Vals xs its ∧ xs.length = its.length ∧ s.heap.get? l = some { cls := .type "list", data := .seq its.toArray n } := by
  obtain ⟨z, its, n, r, e⟩ := I.hok l _ hH
  exact ⟨z, its, n, r, r.length, e⟩

theorem notLongL {n : Nat} (h : n ≤ sizeLine) : Builtin.List.listTooLong n = false := by
  unfold Builtin.List.listTooLong
  exact decide_eq_false (by omega)
end

section
variable {X : Cx}

/-! ### methods -/
def rAppend : V → List V → Hp → VK → Prop := fun x vs H Q => ∃ l xs y, x = .ref l ∧ vs = [y] ∧ H l = some (.lst xs) ∧ xs.length < sizeLine ∧ Q .non (upd H l (.lst (xs ++ [y])))
theorem mt_append : MtM X "list.append" rAppend := by
  intro pins s σ H x vs v us Q I rx rv h
  obtain ⟨l, xs, y, rfl, rfl, hH, hz, q⟩ := h
  cases rx
  obtain ⟨u, rfl, ru⟩ := rv.one
  obtain ⟨z, its, n, r, hl, e⟩ := I.lstM hH
  refine call_meets F.slot_list_append ⟨_, e, rfl⟩ F.entry_list_append (F.args_list_append_2 _ _) (PySem.list_append l its.toArray n u (by rw [List.size_toArray]; omega)) ⟨e, ?_⟩
  refine ⟨.non, _, I.lset (its' := its ++ [u]) hH e (by simp) (r.append (.cons ru .nil)) ?_, rfl, q⟩
  rw [List.length_append, List.length_singleton]
  omega

def rExtend : V → List V → Hp → VK → Prop := fun x vs H Q => ∃ l b xs zs, x = .ref l ∧ vs = [.ref b] ∧ H l = some (.lst xs) ∧ H b = some (.lst zs) ∧ xs.length + zs.length ≤ sizeLine ∧ Q .non (upd H l (.lst (xs ++ zs)))
theorem mt_extend : MtM X "list.extend" rExtend := by
  intro pins s σ H x vs v us Q I rx rv h
  obtain ⟨l, b, xs, zs, rfl, rfl, hH, hB, hz, q⟩ := h
  cases rx
  obtain ⟨u, rfl, ru⟩ := rv.one
  cases ru
  obtain ⟨z, its, n, r, hl, e⟩ := I.lstM hH
  obtain ⟨z2, its2, n2, r2, hl2, e2⟩ := I.lstM hB
  have hsz : its.toArray.size + its2.toArray.size ≤ sizeLine := by rw [List.size_toArray, List.size_toArray]; omega
  have hlong : ¬ (!its.toArray.isEmpty && Builtin.List.listTooLong (its.toArray.size + its2.toArray.size)) = true := by
    rw [notLongL hsz, Bool.and_false]
    exact Bool.false_ne_true
  refine call_meets F.slot_list_extend ⟨_, e, rfl⟩ F.entry_list_extend (F.args_list_extend_2 _ _)
    (AutoSeq1.list_extend_list_list_0 l its.toArray n b its2.toArray n2 hlong (by rw [List.size_toArray]; omega) (by omega)) ⟨e, e2, ?_⟩
  refine ⟨.non, _, I.lset (its' := its ++ its2) hH e (by simp) (r.append r2) ?_, rfl, q⟩
  rw [List.length_append]
  omega

def rPop : V → List V → Hp → VK → Prop := fun x vs H Q => ∃ l xs y, x = .ref l ∧ vs = [] ∧ H l = some (.lst xs) ∧ xs[xs.length - 1]? = some y ∧ Q y (upd H l (.lst xs.dropLast))
theorem mt_pop : MtM X "list.pop" rPop := by
  intro pins s σ H x vs v us Q I rx rv h
  obtain ⟨l, xs, y, rfl, rfl, hH, hy, q⟩ := h
  cases rx
  have hus := rv.zero
  subst hus
  obtain ⟨z, its, n, r, hl, e⟩ := I.lstM hH
  obtain ⟨u, hu, ru⟩ := r.get hy
  have hy' : its.toArray[its.toArray.size - 1]? = some u := by
    show its.toArray[its.length - 1]? = some u
    rw [← Array.getElem?_toList, ← hl]
    exact hu
  refine call_meets F.slot_list_pop ⟨_, e, rfl⟩ F.entry_list_pop (F.args_list_pop_1 _) (MeetsSeq.list_pop_last l its.toArray n u hy' (by rw [List.size_toArray]; omega)) ⟨e, ?_⟩
  refine ⟨y, _, I.lset (its' := its.dropLast) hH e ?_ r.dropLast ?_, ru, q⟩
  · show its.toArray.eraseIdxIfInBounds (its.toArray.size - 1) = its.dropLast.toArray
    rw [List.size_toArray, List.eraseIdxIfInBounds_toArray, erase_last]
  · rw [List.length_dropLast]
    omega

def rPopAt : V → List V → Hp → VK → Prop := fun x vs H Q => ∃ l xs i k y, x = .ref l ∧ vs = [.int i] ∧ H l = some (.lst xs) ∧ -(2 ^ 63) ≤ i ∧ i < 2 ^ 63 ∧ seqIndex? i xs.length = some k ∧ xs[k]? = some y ∧ Q y (upd H l (.lst (xs.eraseIdx k)))
theorem mt_popAt : MtM X "list.pop" rPopAt := by
  intro pins s σ H x vs v us Q I rx rv h
  obtain ⟨l, xs, i, k, y, rfl, rfl, hH, h1, h2, hk, hy, q⟩ := h
  cases rx
  obtain ⟨u, rfl, ru⟩ := rv.one
  obtain ⟨t, rfl⟩ := ru
  obtain ⟨z, its, n, r, hl, e⟩ := I.lstM hH
  obtain ⟨w, hw, rw'⟩ := r.get hy
  refine call_meets F.slot_list_pop ⟨_, e, rfl⟩ F.entry_list_pop (F.args_list_pop_2 _ _)
    (MeetsSeq.list_pop_at l its.toArray n i t k w (fitsIndex_both h1 h2) (by rw [List.size_toArray, ← hl]; exact hk) (by rw [← Array.getElem?_toList]; exact hw) (by rw [List.size_toArray]; omega)) ⟨e, ?_⟩
  refine ⟨y, _, I.lset (its' := its.eraseIdx k) hH e ?_ (r.eraseIdx k) ?_, rw', q⟩
  · show its.toArray.eraseIdxIfInBounds k = (its.eraseIdx k).toArray
    rw [List.eraseIdxIfInBounds_toArray]
  · have := len_erase xs k
    omega

def rReverse : V → List V → Hp → VK → Prop := fun x vs H Q => ∃ l xs, x = .ref l ∧ vs = [] ∧ H l = some (.lst xs) ∧ Q .non (upd H l (.lst xs.reverse))
theorem mt_reverse : MtM X "list.reverse" rReverse := by
  intro pins s σ H x vs v us Q I rx rv h
  obtain ⟨l, xs, rfl, rfl, hH, q⟩ := h
  cases rx
  have hus := rv.zero
  subst hus
  obtain ⟨z, its, n, r, hl, e⟩ := I.lstM hH
  refine call_meets F.slot_list_reverse ⟨_, e, rfl⟩ F.entry_list_reverse (F.args_list_reverse_1 _) (AutoSeq1.list_reverse_list_0 l its.toArray n (by rw [List.size_toArray]; omega)) ⟨e, ?_⟩
  refine ⟨.non, _, I.lset (its' := its.reverse) hH e (by simp) r.reverse ?_, rfl, q⟩
  rw [List.length_reverse]
  omega

def rClear : V → List V → Hp → VK → Prop := fun x vs H Q => ∃ l xs, x = .ref l ∧ vs = [] ∧ H l = some (.lst xs) ∧ Q .non (upd H l (.lst []))
theorem mt_clear : MtM X "list.clear" rClear := by
  intro pins s σ H x vs v us Q I rx rv h
  obtain ⟨l, xs, rfl, rfl, hH, q⟩ := h
  cases rx
  have hus := rv.zero
  subst hus
  obtain ⟨z, its, n, r, hl, e⟩ := I.lstM hH
  refine call_meets F.slot_list_clear ⟨_, e, rfl⟩ F.entry_list_clear (F.args_list_clear_1 _) (AutoSeq1.list_clear_list_0 l its.toArray n (by rw [List.size_toArray]; omega)) ⟨e, ?_⟩
  exact ⟨.non, _, I.lset (its' := []) (ys := []) hH e rfl .nil (Nat.zero_le _), rfl, q⟩

/-! ### list + list, list += list, list * int -/
def rCat : R2 := fun x y H Q => ∃ l b xs zs, x = .ref l ∧ y = .ref b ∧ H l = some (.lst xs) ∧ H b = some (.lst zs) ∧ xs.length + zs.length ≤ sizeLine ∧ ∀ p, H p = none → Q (.ref p) (upd H p (.lst (xs ++ zs)))
theorem op_cat : OpR X (binaryOp .Add) rCat := by
  intro pins s σ H x y v u Q I rx ry h
  obtain ⟨l, b, xs, zs, rfl, rfl, hH, hB, hz, q⟩ := h
  cases rx
  cases ry
  obtain ⟨z, its, n, r, hl, e⟩ := I.lstM hH
  obtain ⟨z2, its2, n2, r2, hl2, e2⟩ := I.lstM hB
  refine PySem.P.add_list e e2 ?_ (by rw [List.size_toArray, List.size_toArray]; omega)
  have ea : its.toArray ++ its2.toArray = (its ++ its2).toArray := by simp
  rw [ea]
  exact ⟨.ref _, _, I.lnew (t' := s.toks) (r.append r2) (by rw [List.length_append]; omega), rfl, q _ I.fresh⟩
/-- a list times an int (a negative one is nothing) -/
def rRep : R2 := fun x y H Q => ∃ l k xs, x = .ref l ∧ y = .int k ∧ H l = some (.lst xs) ∧ -(2 ^ 63) ≤ k ∧ k < 2 ^ 63 ∧ xs.length * k.toNat ≤ sizeLine ∧
  ∀ p, H p = none → Q (.ref p) (upd H p (.lst (List.replicate k.toNat xs).flatten))
theorem len_rep {α : Type} (xs : List α) (k : Nat) : (List.replicate k xs).flatten.length = k * xs.length := by
  induction k with
  | zero => simp
  | succ k ih => rw [List.replicate_succ, List.flatten_cons, List.length_append, ih, Nat.succ_mul, Nat.add_comm]
theorem op_rep : OpR X (binaryOp .Mult) rRep := by
  intro pins s σ H x y v u Q I rx ry h
  obtain ⟨l, k, xs, rfl, rfl, hH, h1, h2, hz, q⟩ := h
  cases rx
  obtain ⟨t, rfl⟩ := ry
  obtain ⟨z, its, n, r, hl, e⟩ := I.lstM hH
  have hlen : its.toArray.size * k.toNat ≤ sizeLine := by rw [List.size_toArray, ← hl]; exact hz
  have hcap : ¬ its.toArray.size * k.toNat > (2 ^ 63 - 1) / 8 := by
    have : (sizeLine : Nat) ≤ (2 ^ 63 - 1) / 8 := by decide
    omega
  have hfit : ¬ (!Builtin.List.listFitsIndex k) = true := by
    rw [fitsIndex_both h1 h2]
    exact Bool.false_ne_true
  have hlong : ¬ Builtin.List.listTooLong (its.toArray.size * k.toNat) = true := by
    rw [notLongL hlen]
    exact Bool.false_ne_true
  have hnew : List.foldl (fun x1 x2 => x1 ++ x2) #[] (List.replicate (if its.toArray.isEmpty = true then 0 else k.toNat) its.toArray) = (List.replicate k.toNat its).flatten.toArray := by
    have f0 : ∀ m : Nat, List.foldl (fun x1 x2 => x1 ++ x2) #[] (List.replicate m its.toArray) = (List.replicate m its).flatten.toArray := fun m => by
      have := foldl_rep its m []
      rw [List.nil_append] at this
      exact this
    rw [f0]
    cases its with
    | nil => simp
    | cons a r' => rw [if_neg (by simp)]
  refine wpAny_binaryOp_repeat_ref (T := "list") (U := "int") (by decide) ⟨_, e, rfl⟩ (fun s' => typeIs_int s' k t) noFill_list_mul F.fills_int_mul F.slot_int_rmul repeat_list F.slot_int_index.lookup
    (call_meets F.slot_int_rmul (typeIs_int s k t) F.entry_int_rmul (F.args_int_rmul_2 _ _) (int___rmul___int_list k t l its.toArray n)
      ⟨e, rfl, ⟨_, e, rfl⟩, call_meets F.slot_list_mul ⟨_, e, rfl⟩ F.entry_list_mul (F.args_list_mul_2 _ _) (AutoListH.list___mul___list_int_3 l its.toArray n k t hfit hcap hlong) ⟨e, ?_⟩⟩)
  rw [hnew]
  exact ⟨.ref _, _, I.lnew (t' := s.toks) (r.rep k.toNat) (by rw [len_rep, Nat.mul_comm]; exact hz), rfl, q _ I.fresh⟩

/-! ### del xs[i] -/
theorem del_list {pins : List (Addr × Obj)} {s : Shared} {σ : St} {H : Hp} {l : Addr} {xs : List V} {i : Int} {t : Tok} {k : Nat} {Q : Unit → Shared → Prop} (I : Inv X pins σ H s) (hH : H l = some (.lst xs))
    (h1 : -(2 ^ 63) ≤ i) (h2 : i < 2 ^ 63) (hk : seqIndex? i xs.length = some k) (h : ∀ s', Inv X pins σ (upd H l (.lst (xs.eraseIdx k))) s' → Q () s') :
    wpAny (model X.prog X.w) X.A (delItem (.ref l) (.int i t)) Q X.xe s := by
  obtain ⟨z, its, n, r, hl, e⟩ := I.lstM hH
  refine PySem.P.delItem_list (k := k) e (fitsIndex_both h1 h2) (by rw [List.size_toArray, ← hl]; exact hk) (h _ ?_) (by rw [List.size_toArray]; omega)
  refine I.lset (its' := its.eraseIdx k) (t' := s.toks) hH e ?_ (r.eraseIdx k) ?_
  · show its.toArray.eraseIdxIfInBounds k = (its.eraseIdx k).toArray
    rw [List.eraseIdxIfInBounds_toArray]
  · have := len_erase xs k
    omega
end

/-! ### xs[a:b] = ys -/
section
variable {prog : Program} {w : World} {A : Around} {E : Value → Shared → Prop} {s : Shared}
theorem splice_eq (its its2 : List Value) (a c : Nat) : its.toArray.extract 0 a ++ its2.toArray ++ its.toArray.extract c its.toArray.size = (its.take a ++ its2 ++ its.drop c).toArray := by
  apply Array.toList_inj.mp
  first
    | (simp
       exact List.take_of_length_le (by simp))
    | simp [List.take_of_length_le]
    | simp
theorem bounds_run {a c n : Nat} (hac : a ≤ c) (hc : c ≤ n) : sliceBounds (some (a : Int)) (some (c : Int)) none n = ((a : Int), (c : Int), 1) := by
  simp only [sliceBounds, Option.getD_none]
  have h1 : ¬ ((a : Int) < 0) := by omega
  have h2 : ¬ ((c : Int) < 0) := by omega
  simp only [h1, h2, if_false, show (1 : Int) > 0 by decide, if_true]
  congr 1
  · omega
  · congr 1; omega
/-- list.__setitem__ with a slice of step one and another list -/
theorem setItem_slice {l b sl : Addr} {items new : Array Value} {n n2 : Nat} {vl vu : Value} {a c : Nat} {Q : Unit → Shared → Prop}
    (e : s.heap.get? l = some { cls := .type "list", data := .seq items n }) (e2 : s.heap.get? b = some { cls := .type "list", data := .seq new n2 }) (hne : l ≠ b)
    (hs : s.heap.IsSliceOf sl vl vu .none) (pl : IsPart vl (some (a : Int))) (pu : IsPart vu (some (c : Int))) (hac : a ≤ c) (hc : c ≤ items.size)
    (hsz : items.size + new.size ≤ sizeLine) (h : Q () { s with heap := s.heap.update l (Obj.mapSeq fun xs => xs.extract 0 a ++ new ++ xs.extract c xs.size) }) :
    wpAny (model prog w) A (setItem (.ref l) (.ref sl) (.ref b)) Q E s := by
  have hl : s.heap.IsList l items := PySem.IsL.isList e
  have hb : s.heap.IsList b new := PySem.IsL.isList e2
  obtain ⟨os, hos, hcs, hds⟩ := id hs
  have hTs : s.TypeIs (.ref sl) "slice" := ⟨os, hos, hcs⟩
  have hstep : ¬ ((rawPart none == rawInt 0) = true) := Bool.false_ne_true
  have hsame : Builtin.List.listSameRef (.ref l) (.ref b) = false := by
    unfold Builtin.List.listSameRef
    exact beq_eq_false_iff_ne.mpr hne
  have hmax : (max (a : Int) (c : Int)).toNat = c := by omega
  have hz' : ((fun xs : Array Value => xs.extract 0 a ++ new ++ xs.extract c xs.size) items).size ≤ sizeLine + 1 := by
    simp only [Array.size_append, Array.size_extract]
    omega
  unfold setItem
  try with_reducible refine wpAny_holding ?_
  first | refine wpAny_bind (wpAny_pure ?_) | skip
  refine wpAny_bind (wpAny_sequenceKey hl.typeIs (by decide) ?_)
  refine wpAny_bind (wpAny_callSpecial?_slot (name := Str.ofString "__setitem__") hl.typeIs slot_list_setitem
    (wpAny_call_entry slot_list_setitem hl.typeIs entry_list_setitem ?_ (args_list_setitem _ _ _)))
  show wpAny _ _ (Builtin.List.listSubscript? (.ref sl) >>= _) _ _ s
  refine wpAny_bind ?_
  unfold Builtin.List.listSubscript?
  refine wpAny_bind (wpAny_specialOf hTs slice_no_index ?_)
  simp only [Option.isNone_none, if_true]
  refine wpAny_pure ?_
  show wpAny _ _ (typeOf (.ref sl) >>= _) _ _ s
  refine wpAny_bind (wpAny_typeOf hTs ?_)
  first
    | rw [if_neg (by decide)]
    | refine PySem.W.KFB.if_not (by decide) ?_
  rw [listSliceParts_eq]
  refine wpAny_bind (wpAny_bind (wpAny_field hos hds (x := .none) rfl (wpAny_bind (wpAny_listPart .none ?_))))
  rw [if_neg hstep]
  refine wpAny_bind (wpAny_field hos hds (x := vl) rfl (wpAny_bind (wpAny_listPart pl ?_)))
  refine wpAny_bind (wpAny_field hos hds (x := vu) rfl (wpAny_bind (wpAny_listPart pu (wpAny_pure ?_))))
  first
    | simp only [hsame, Bool.false_eq_true, if_false]
    | refine PySem.W.KFB.if_not hsame ?_
    | (dsimp only
       rw [if_neg (by rw [hsame]; exact Bool.false_ne_true)])
  refine wpAny_bind (m := Builtin.List.listAllItems (.ref b) "must assign iterable to extended slice") ?_
  unfold Builtin.List.listAllItems
  refine wpAny_bind (wpAny_typeOf hb.typeIs ?_)
  first
    | refine PySem.W.KFB.if_so (by decide) ?_
    | rw [if_pos (by decide)]
    | simp only [beq_self_eq_true, Bool.true_or, if_true]
  unfold Builtin.List.listItems
  refine wpAny_bind (wpAny_seqItems e2 rfl (wpAny_pure ?_))
  refine wpAny_bind (wpAny_bind (wpAny_seqItems e rfl (wpAny_pure ?_)))
  refine wpAny_bind (wpAny_of_eq ((sliceIndices_raw (some (a : Int)) (some (c : Int)) none items.size (by simp)).trans (congrArg (pure : Int × Int × Int → Sem (Int × Int × Int)) (bounds_run hac hc))) ?_)
  show wpAny _ _ (if ((1 : Int) == 1) = true then _ else _) _ _ s
  rw [if_pos (by decide)]
  refine wpAny_bind (wpAny_rule ?_)
  first
    | simp only [notLongL hsz, Bool.false_eq_true, if_false]
    | refine PySem.W.KFB.if_not (notLongL hsz) ?_
  first | refine wpAny_bind (wpAny_pure ?_) | skip
  show wpAny _ _ (updateSeq l (fun xs => xs.extract 0 ((a : Int)).toNat ++ new ++ xs.extract (max (a : Int) (c : Int)).toNat xs.size) >>= _) _ _ s
  rw [hmax, Int.toNat_natCast]
  refine wpAny_bind (wpAny_updateSeq (hz := Nat.le_trans (Nat.le_add_right _ _) hsz) (_hz' := hz') e rfl ?_)
  refine wpAny_bind (wpAny_letGo ?_)
  first
    | exact wpAny_bind (wpAny_pure (wpAny_pure ⟨.none, rfl, wpAny_pure h⟩))
    | exact wpAny_pure ⟨.none, rfl, wpAny_pure h⟩
end

section
variable {X : Cx}
/-- xs[a:c] = ys of another list, at the value level: sl is the slice object that was just made -/
theorem set_slice {pins : List (Addr × Obj)} {s : Shared} {σ : St} {H : Hp} {l b sl : Addr} {xs ys : List V} {a c : Int} {vl vu : Value} {Q : Unit → Shared → Prop} (I : Inv X pins σ H s)
    (hH : H l = some (.lst xs)) (hB : H b = some (.lst ys)) (hne : l ≠ b) (hs : s.heap.IsSliceOf sl vl vu .none) (ra : RelV (.int a) vl) (rc : RelV (.int c) vu) (h0 : 0 ≤ a) (hac : a ≤ c) (hc : c ≤ xs.length)
    (hz : xs.length + ys.length ≤ sizeLine) (h : ∀ s', Inv X pins σ (upd H l (.lst (xs.take a.toNat ++ ys ++ xs.drop c.toNat))) s' → Q () s') :
    wpAny (model X.prog X.w) X.A (setItem (.ref l) (.ref sl) (.ref b)) Q X.xe s := by
  obtain ⟨ta, rfl⟩ := ra
  obtain ⟨tc, rfl⟩ := rc
  obtain ⟨z, its, n, r, hl, e⟩ := I.lstM hH
  obtain ⟨z2, its2, n2, r2, hl2, e2⟩ := I.lstM hB
  obtain ⟨a', rfl⟩ := Int.eq_ofNat_of_zero_le h0
  obtain ⟨c', rfl⟩ := Int.eq_ofNat_of_zero_le (Int.le_trans h0 hac)
  simp only [Int.toNat_natCast] at h
  refine setItem_slice (a := a') (c := c') e e2 hne hs (.int _ _) (.int _ _) (by omega) (by rw [List.size_toArray]; omega) (by rw [List.size_toArray, List.size_toArray]; omega) (h _ ?_)
  refine I.lset (its' := its.take a' ++ its2 ++ its.drop c') (t' := s.toks) hH e ?_ (Vals.append (Vals.append (r.take _) r2) (r.drop _)) ?_
  · exact splice_eq its its2 a' c'
  · rw [List.length_append, List.length_append, List.length_take, List.length_drop]
    omega
end
end L2

namespace Att
open PySem PySem.W PySem.Calls PyProof.Rows

/-! ### the script -/
theorem ints_of_wellAll {P : Params} {h : Heap} : ∀ (ns : List Int) (vs : List Value), WellAll P h vs (ns.map WData.int) → IntsAre vs ns := by
  intro ns
  induction ns with
  | nil =>
    intro vs w
    rw [List.map_nil] at w
    cases w
    exact .nil
  | cons n ns ih =>
    intro vs w
    rw [List.map_cons] at w
    cases w with
    | cons a b =>
      cases a
      exact .cons _ _ (ih _ b)

theorem script_of {l : OpenLaw} {n : Nat} (hn : l.most = some n) {P : Params} {h : Heap} {args : List WData} {vals : List Value}
    (hpre : l.row.toRowW.claim.pre args = true) (hwl : WellAll P h vals args) :
    ∃ a vs ns, vals = [Value.ref a] ∧ args = [WData.list (ns.map WData.int)] ∧ h.get? a = some { cls := .type "list", data := .seq vs.toArray } ∧ IntsAre vs ns ∧ ns.length ≤ n := by
  have hsh : WShape.hasAll [] args [.list .int] = true := (pre_splitW hpre).1
  have hc : l.pre.holds [] { args := args } = true := (pre_splitW hpre).2
  obtain ⟨d, r, rfl, h1, h2⟩ := hasAllW_cons hsh
  obtain rfl := hasAllW_nil h2
  obtain ⟨xs, rfl, h3⟩ := hasW_list h1
  obtain ⟨ns, rfl⟩ := items_int h3
  have hlen : ns.length ≤ n := by
    unfold OpenLaw.pre at hc
    have h4 : (WTm.not (.lt (.lit (.int (n : Int))) (.len (.arg 0)))).holds [] { args := [.list (ns.map .int)] } = true := by
      have h4 := (holds_andW hc).1
      rw [hn] at h4
      exact h4
    have h5 := condW_of h4 (w_not (w_lt w_lit (w_len_list (w_arg rfl))))
    rw [List.length_map] at h5
    refine Nat.le_of_not_lt fun q => ?_
    have q' : (n : Int) < ((ns.length : Nat) : Int) := by omega
    first
      | (rw [decide_eq_true q'] at h5; exact absurd h5 (by decide))
      | (simp at h5; omega)
  cases hwl with
  | cons w1 w2 =>
    cases w2
    cases w1 with
    | list ho hall => exact ⟨_, _, ns, rfl, rfl, ho, ints_of_wellAll ns _ hall, hlen⟩

theorem post_true (l : OpenLaw) (args : List WData) : l.row.toRowW.claim.post args (.bool true) args = true :=
  postW_of (r := l.row.toRowW) (X := (true == true))
    (show WShape.has [] (.bool true) .bool = true by first | rfl | decide | simp [WShape.has, WShape.arms, WShape.armsAll])
    (show (WTm.eq .res (.lit (.bool true))).value [] { args := args, res := some (.bool true), after := args } = some (.bool (true == true)) from w_eq_bool (w_res rfl) w_lit) rfl

/-! ### the attachment: holds_open's last premise (the goal 'hc' behind k_head) from a wpAny of the law's body -/
theorem attach {l : OpenLaw} {n : Nat} {q : Program} {loose : List Str} {XP : (Str → Option Value) → Heap → Prop} {YP : World → Heap → Prop} {d : DefRec} {x : Str}
    (hn : l.most = some n) (hdf : d.params.defaults = [])
    (hbind : ∀ pm cd doc v : Value, bindArgs (docDef d.name d.params d.body d.scope pm cd doc) ⟨[v], []⟩ = pure [(x, v)])
    (hx : d.scope.names.lookup x = some .local ∨ d.scope.names.lookup x = some .cell)
    (hk : d.scope.kind = .function) (hco : d.scope.isCoroutine = false) (hgen : d.scope.isGenerator = false)
    (body : ∀ (w : World) (s₀ s₁ s : Shared) (mg mb : Str → Option Value) (fa : Addr) (o : Obj) (pm cd doc : Value) (a : Addr) (vs : List Value) (ns : List Int),
      Ground q loose [] XP w s₀ mg mb s₁.heap → YP w s₁.heap →
      s₁.heap.get? fa = some o → o.data = .func (docDef d.name d.params d.body d.scope pm cd doc) → s₁.heap.CodeRec cd d.name → mg d.name = some (.ref fa) →
      s₁.heap.get? a = some { cls := .type "list", data := .seq vs.toArray } → IntsAre vs ns → ns.length ≤ n →
      s.gens = #[] → s.os = s₁.os →
      Fr s₁.heap s₁.heap.objs.size s.heap (bindL (envOfC d.name d.scope s₁.heap.objs.size fa cd).kindOf [(x, .ref a)] fun _ => none) →
      Cl s₁.heap.objs.size (cellsFrom (s₁.heap.objs.size + 1) d.scope.names []) s.heap (bindC (envOfC d.name d.scope s₁.heap.objs.size fa cd).kindOf [(x, .ref a)] fun _ => none) →
      wpAny (model l.prog w) (callerA.deeper (envOfC d.name d.scope s₁.heap.objs.size fa cd)) (execs d.body (envOfC d.name d.scope s₁.heap.objs.size fa cd))
        (fun f s' => f = .ret (.bool true) ∧ OldK s₁.heap s'.heap ∧ s'.os = s₁.os ∧ AllBare s'.gens) (fun _ _ => False) s) :
    WalkO q loose XP YP l.row.toRowW d [] (fun f vs => PySem.call f vs) := by
  intro w s₀ s₁ mg mb G Y fa o pm cd doc dV kV ho hd hcd hD hmg hg args vals as hpre hlay hrd hwl hlo
  obtain rfl : dV = .none := Dflts.none hD hdf
  obtain rfl : kV = .none := Dflts.noKw hD
  obtain ⟨a, vs, ns, rfl, rfl, hobj, hints, hlen⟩ := script_of hn hpre hwl
  refine enter_call ?_
  refine call_cells_ret (o := o) (by rw [depth_caller]; decide) ho (fd_plain hd) G.T.nolimit hcd (hbind pm cd doc (.ref a)) (fun y hy => ?_) (fun h₁ tk F X => ?_) hco hgen hk
  · obtain rfl : y = (x, Value.ref a) := List.mem_singleton.mp hy
    rcases hx with e | e
    · exact .inl e
    · exact .inr ⟨e, cellsFrom_some _ _ _ (.inl e)⟩
  · refine wpAny_mono (body w s₀ s₁ { s₁ with heap := h₁, toks := tk } mg mb fa o pm cd doc a vs ns G Y ho (fd_plain hd) hcd hmg hobj hints hlen hg rfl F X) (fun f s' hq => ?_) (fun _ _ hq => hq)
    obtain ⟨rfl, h2, h3, h4⟩ := hq
    exact ⟨.inl ⟨.bool true, .bool true, [], rfl, fun _ => rfl, .bool true, post_true l _, fun _ => ⟨List.Pairwise.nil, fun _ hm => (nomatch hm)⟩⟩, h2, h3, h4⟩

/-- the same from a codeAny of the CALL (for a layer whose function contracts speak of calls) -/
theorem attach_call {l : OpenLaw} {n : Nat} {q : Program} {loose : List Str} {XP : (Str → Option Value) → Heap → Prop} {YP : World → Heap → Prop} {d : DefRec}
    (hn : l.most = some n) (hdf : d.params.defaults = [])
    (call : ∀ (w : World) (s₀ s₁ : Shared) (mg mb : Str → Option Value) (fa : Addr) (o : Obj) (pm cd doc : Value) (a : Addr) (vs : List Value) (ns : List Int),
      Ground q loose [] XP w s₀ mg mb s₁.heap → YP w s₁.heap →
      s₁.heap.get? fa = some o → o.data = .func (docDef d.name d.params d.body d.scope pm cd doc) → s₁.heap.CodeRec cd d.name → mg d.name = some (.ref fa) →
      s₁.heap.get? a = some { cls := .type "list", data := .seq vs.toArray } → IntsAre vs ns → ns.length ≤ n → s₁.gens = #[] →
      codeAny (model l.prog w) callerA (.call (.ref fa) ⟨[.ref a], []⟩) (fun r s' => r = .ok (.ret (.bool true)) ∧ OldK s₁.heap s'.heap ∧ s'.os = s₁.os ∧ AllBare s'.gens) s₁) :
    WalkO q loose XP YP l.row.toRowW d [] (fun f vs => PySem.call f vs) := by
  intro w s₀ s₁ mg mb G Y fa o pm cd doc dV kV ho hd hcd hD hmg hg args vals as hpre hlay hrd hwl hlo
  obtain rfl : dV = .none := Dflts.none hD hdf
  obtain rfl : kV = .none := Dflts.noKw hD
  obtain ⟨a, vs, ns, rfl, rfl, hobj, hints, hlen⟩ := script_of hn hpre hwl
  refine enter_call (codeAny_mono (call w s₀ s₁ mg mb fa o pm cd doc a vs ns G Y ho (fd_plain hd) hcd hmg hobj hints hlen hg) fun r s' hq => ?_)
  obtain ⟨rfl, h2, h3, h4⟩ := hq
  exact ⟨.inl ⟨.bool true, .bool true, [], rfl, fun _ => rfl, .bool true, post_true l _, fun _ => ⟨List.Pairwise.nil, fun _ hm => (nomatch hm)⟩⟩, h2, h3, h4⟩

/-- the same where the top left finished generators (o_head chose holds_openN): nothing may have changed at all and no generator may be left -/
theorem attachN {l : OpenLaw} {n : Nat} {q : Program} {loose : List Str} {XP : (Str → Option Value) → Heap → Prop} {YP : World → Heap → Prop} {d : DefRec} {x : Str}
    (hn : l.most = some n) (hdf : d.params.defaults = [])
    (hbind : ∀ pm cd doc v : Value, bindArgs (docDef d.name d.params d.body d.scope pm cd doc) ⟨[v], []⟩ = pure [(x, v)])
    (hx : d.scope.names.lookup x = some .local ∨ d.scope.names.lookup x = some .cell)
    (hk : d.scope.kind = .function) (hco : d.scope.isCoroutine = false) (hgen : d.scope.isGenerator = false)
    (body : ∀ (w : World) (s₀ s₁ s : Shared) (mg mb : Str → Option Value) (fa : Addr) (o : Obj) (pm cd doc : Value) (a : Addr) (vs : List Value) (ns : List Int),
      Ground q loose [] XP w s₀ mg mb s₁.heap → YP w s₁.heap →
      s₁.heap.get? fa = some o → o.data = .func (docDef d.name d.params d.body d.scope pm cd doc) → s₁.heap.CodeRec cd d.name → mg d.name = some (.ref fa) →
      s₁.heap.get? a = some { cls := .type "list", data := .seq vs.toArray } → IntsAre vs ns → ns.length ≤ n →
      s.gens = #[] → s.os = s₁.os →
      Fr s₁.heap s₁.heap.objs.size s.heap (bindL (envOfC d.name d.scope s₁.heap.objs.size fa cd).kindOf [(x, .ref a)] fun _ => none) →
      Cl s₁.heap.objs.size (cellsFrom (s₁.heap.objs.size + 1) d.scope.names []) s.heap (bindC (envOfC d.name d.scope s₁.heap.objs.size fa cd).kindOf [(x, .ref a)] fun _ => none) →
      wpAny (model l.prog w) (callerA.deeper (envOfC d.name d.scope s₁.heap.objs.size fa cd)) (execs d.body (envOfC d.name d.scope s₁.heap.objs.size fa cd))
        (fun f s' => f = .ret (.bool true) ∧ (∀ b o, s₁.heap.get? b = some o → s'.heap.get? b = some o) ∧ s'.os = s₁.os ∧ s'.gens = #[]) (fun _ _ => False) s) :
    WalkN q loose XP YP l.row.toRowW d [] (fun f vs => PySem.call f vs) := by
  intro w s₀ s₁ mg mb G Y fa o pm cd doc dV kV ho hd hcd hD hmg hg args vals as hpre hlay hrd hwl hlo
  obtain rfl : dV = .none := Dflts.none hD hdf
  obtain rfl : kV = .none := Dflts.noKw hD
  obtain ⟨a, vs, ns, rfl, rfl, hobj, hints, hlen⟩ := script_of hn hpre hwl
  refine enter_callW ?_
  refine call_cells_ret (o := o) (by rw [depth_caller]; decide) ho (fd_plain hd) G.T.nolimit hcd (hbind pm cd doc (.ref a)) (fun y hy => ?_) (fun h₁ tk F X => ?_) hco hgen hk
  · obtain rfl : y = (x, Value.ref a) := List.mem_singleton.mp hy
    rcases hx with e | e
    · exact .inl e
    · exact .inr ⟨e, cellsFrom_some _ _ _ (.inl e)⟩
  · refine wpAny_mono (body w s₀ s₁ { s₁ with heap := h₁, toks := tk } mg mb fa o pm cd doc a vs ns G Y ho (fd_plain hd) hcd hmg hobj hints hlen hg rfl F X) (fun f s' hq => ?_) (fun _ _ hq => hq)
    obtain ⟨rfl, h2, h3, h4⟩ := hq
    exact ⟨.inl ⟨.bool true, .bool true, [], rfl, fun _ => rfl, .bool true, post_true l _, fun _ => ⟨List.Pairwise.nil, fun _ hm => (nomatch hm)⟩⟩, h2, h3, h4⟩

/-! ### rules over ANY heap (no ledger) from facts about the written part K: the library's own take a ledger (News) for what they write -/
section
variable {prog : Program} {w : World} {A : Around} {E : Value → Shared → Prop} {s : Shared} {K : Frag}

/-- a def of the module, or a method (qual 'C.m'), entered: the frame is the next address; cells behind it -/
theorem call_fn {R : Result → Shared → Prop} {name qual : Str} {params : Arguments} {body : List Stmt} {scope : Scope} {dV kV doc pm cdv ct oc : Value} {an od : Option Addr} {osl : Array (Option Value)} {f : Addr} {args : Args} {binds : List (Str × Value)}
    (X : K.In s.heap) (hlim : s.heap.NoLimit) (ho : K.lookup f = some ⟨oc, od, .func (fnOf name qual params body scope dV kV doc pm an cdv ct), osl⟩) (hcd : codeIn K cdv qual = true) (hroom : A.depth < recursionLimit)
    (hbind : BindsTo s (fnOf name qual params body scope dV kV doc pm an cdv ct) args binds)
    (hkind : (binds.all fun y => scope.names.lookup y.1 == some .local || scope.names.lookup y.1 == some .cell) = true)
    (h : ∀ s₁, InCallC s s.heap.objs.size (bindL (envOfC qual scope s.heap.objs.size f cdv).kindOf binds fun _ => none) (cellsFrom (s.heap.objs.size + 1) scope.names [])
        (bindC (envOfC qual scope s.heap.objs.size f cdv).kindOf binds fun _ => none) s₁ →
      wpAny (model prog w) (A.deeper (envOfC qual scope s.heap.objs.size f cdv)) (execs body (envOfC qual scope s.heap.objs.size f cdv))
        (fun fl s' => R (.ok (.ret (match fl with | .ret v => v | _ => .none))) s')
        (fun e s' => wpAny (model prog w) (A.deeper (envOfC qual scope s.heap.objs.size f cdv)) (leaving (envOfC qual scope s.heap.objs.size f cdv) e) (fun _ s'' => R (.error e) s'') (fun e' s'' => R (.error e') s'') s') s₁)
    (hco : scope.isCoroutine = false) (hgen : scope.isGenerator = false) (hk : scope.kind = .function) : codeAny (model prog w) A (.call (.ref f) args) R s := by
  refine codeAny_call_function hroom (X _ _ ho) rfl hco hgen rfl (codeRec_of X hcd) (hbind _ _ _ _ ?_)
  refine wpAny_newFunctionEnv_cells hk (kindsX hkind _) fun env he s₁ x => ?_
  subst he
  exact ⟨hlim.keeps x.toInCall.keep, codeAny_func (h s₁ x)⟩

/-- C(..): dict at size, instance at size + 1, then __init__ -/
theorem make_obj {R : Result → Shared → Prop} {C fI : Addr} {rest : List Value} {kw : List (Str × Value)}
    (X : K.In s.heap) (hm : makesIn K C = true) (hi : findIn K (.ref C) "__init__" = some (some (.ref fI))) (hf : isFn K (.ref fI) = true)
    (h : codeAny (model prog w) (A.under (.builtin "type.__call__" ⟨.ref C :: rest, kw⟩)) (.call (.ref fI) ⟨.ref (s.heap.objs.size + 1) :: rest, kw⟩) (InitBack (s.heap.objs.size + 1) R)
      { s with heap := (s.heap.push emptyDict).push (instObj C s.heap.objs.size) }) : codeAny (model prog w) A (.call (.ref C) ⟨rest, kw⟩) R s := by
  obtain ⟨hh, g, d, t, os⟩ := s
  exact make_core (makes_of X hm) (looks_findIn X hi) (fun self => bind_fn X self (beq_iff_eq.mp hf)) (.inl rfl) h

/-- x.name where the instance's dict holds the name and the class does not -/
theorem get_field {x C : Addr} {ox : Obj} {es : List DictEntry} {n : Nat} {name : Str} {expr : Bool} {v : Value} {Q : Value → Shared → Prop}
    (X : K.In s.heap) (I : PySem.W.InstAt s.heap x ox C (some (dictOf es n))) (hg : plainGet K C name = true) (hh : hasDictIn K C = true) (ha : findIn K (.ref C) name = some none)
    (hl : getL name es = some (some v)) (hv : handedIn v = true) (h : Q v { s with toks := s.toks + 1 }) : wpAny (model prog w) A (getAttr (.ref x) name expr) Q E s :=
  get_value X I (plainGet_of hg).1 (findObj_own hh ha rfl hl) hv h

/-- x.m(..): the method found in the class -/
theorem get_method {x C f : Addr} {ox : Obj} {es : List DictEntry} {n : Nat} {name : Str} {pl : Sem Bool} {Q : Value × List Value → Shared → Prop}
    (X : K.In s.heap) (I : PySem.W.InstAt s.heap x ox C (some (dictOf es n))) (hg : plainGet K C name = true) (hf : findIn K (.ref C) name = some (some (.ref f))) (ht : isFn K (.ref f) = true)
    (hl : getL name es = some none) (h : Q (.ref f, [.ref x]) s) : wpAny (model prog w) A (getMethod (.ref x) name pl) Q E s :=
  method_fn X I (plainGet_of hg).1 (plainGet_of hg).2 hf (beq_iff_eq.mp ht) (by show (lookIn name (dictOf es n)).map _ = _; rw [lookIn_dict, hl]; rfl) h

/-! the whole heap as the ledger: makes every rule that writes through a ledger a rule over any heap -/
def noObjs (h : Heap) : Heap := { h with objs := #[] }
theorem noObjs_get (h : Heap) (b : Addr) : (noObjs h).get? b = none := by
  cases e : (noObjs h).get? b with
  | none => rfl
  | some o => exact absurd (Heap.lt_size e) (Nat.not_lt_zero _)
def ledger (h : Heap) (L d : Addr) : List (Addr × Obj) := (List.range h.objs.size).filterMap fun a => if a = L ∨ a = d then none else (h.get? a).map fun o => (a, o)
theorem mem_ledger {h : Heap} {L d a : Addr} {o : Obj} : (a, o) ∈ ledger h L d ↔ a ≠ L ∧ a ≠ d ∧ h.get? a = some o := by
  unfold ledger
  rw [List.mem_filterMap]
  constructor
  · rintro ⟨b, _, e⟩
    split at e
    · cases e
    · rename_i hb
      obtain ⟨o', ho, e'⟩ := Option.map_eq_some_iff.mp e
      cases e'
      exact ⟨fun q => hb (.inl q), fun q => hb (.inr q), ho⟩
  · rintro ⟨n1, n2, ho⟩
    refine ⟨a, List.mem_range.mpr (Heap.lt_size ho), ?_⟩
    rw [if_neg (show ¬ (a = L ∨ a = d) from fun q => q.elim n1 n2), ho] <;> rfl
theorem news_ledger {h : Heap} {L d : Addr} {od : Obj} (hne : d ≠ L) (ho : h.get? d = some od) : News (noObjs h) L h ([] ++ (d, od) :: ledger h L d) := by
  rintro ⟨a, o⟩ hp
  rcases List.mem_cons.mp hp with e | hp
  · cases e
    exact ⟨ho, hne, noObjs_get _ _⟩
  · obtain ⟨n1, n2, e⟩ := mem_ledger.mp hp
    exact ⟨e, n1, noObjs_get _ _⟩
theorem fr_all {h : Heap} {L : Addr} {m : Str → Option Value} (n : h.Ns L m) : Fr (noObjs h) L h m :=
  ⟨n, fun b o e => (by rw [noObjs_get] at e; cases e), Nat.zero_le _⟩
/-- Upd of the head entry (for append_K, setItem_K ..) -/
theorem upd_ledger {h : Heap} {L d : Addr} {o o' : Obj} : Upd d o o' ((d, o) :: ledger h L d) ((d, o') :: ledger h L d) :=
  .head fun ⟨_, _⟩ hp => (mem_ledger.mp hp).2.1

/-- x.name = v over any heap: L is any namespace of the heap (the frame's, say): its map stays, its object is not told; all else but the dict stays -/
theorem set_field {x C dx L : Addr} {ox : Obj} {m : Str → Option Value} {es es' : List DictEntry} {n n' : Nat} {name : Str} {v : Value} {Q : Unit → Shared → Prop}
    (X : K.In s.heap) (I : PySem.W.InstAt s.heap x ox C (some (dictOf es n))) (hd : ox.dict = some dx) (hL : s.heap.Ns L m) (hne : dx ≠ L)
    (hs : findIn K (.ref C) "__setattr__" = some (some (.builtin "object.__setattr__"))) (hp : plainOver K C = true) (ht : takerIn K C name = some none) (hh : hasDictIn K C = true) (hl : (getL name es).isSome = true)
    (e : (putL name (PyData.keyHash w.params name) (.str name (s.toks + 1)) v es, putN name es n) = (es', n')) (hz : es'.length ≤ 1000)
    (h : ∀ h' : Heap, h'.Ns L m → h'.get? dx = some (dictOf es' n') → (∀ b o, b ≠ dx → b ≠ L → s.heap.get? b = some o → h'.get? b = some o) → Q () { s with heap := h', toks := s.toks + 2 }) :
    wpAny (model prog w) A (setAttr (.ref x) name v) Q E s := by
  obtain ⟨e1, e2⟩ := Prod.mk.inj e
  have hdx : s.heap.get? dx = some (dictOf es n) := by
    have := I.dict
    rw [hd] at this
    exact this
  refine set_plain X I hs (osa_dict (s := { s with toks := s.toks + 1 }) (h₀ := noObjs s.heap) (L := L) (m := m) (od := dictOf es n) (od' := dictOf es' n') (es := es') (n := n') (pre := []) (post := ledger s.heap L dx)
    (fr_all hL) (news_ledger hne hdx) X I hd hp ht hh hl (fun _ q => nomatch q) (fun ⟨_, _⟩ q => (mem_ledger.mp q).2.1) (by rw [putName_dict, e1, e2]) rfl hz fun h' F' N' => ?_)
  exact h h' F'.ns (N'.get (List.Mem.head _)) fun b o n1 n2 ho => N'.get (List.Mem.tail _ (mem_ledger.mpr ⟨n2, n1, ho⟩))
end
end Att

namespace L2
open PySem PySem.Spec PyProof.Rows

theorem vals_ints : ∀ {vs : List Value} {ns : List Int}, IntsAre vs ns → Vals (ns.map V.int) vs
  | _, _, .nil => .nil
  | _, _, .cons n t h => .cons ⟨t, rfl⟩ (vals_ints h)

/-- nothing is tracked but the script, known to the object (or it is an object of the module) -/
def Only (H : Hp) : Prop := ∀ b, H b = none ∨ ∃ o xs, H b = some (.frz o (.lst xs))

/-- THE HEAD: the law's promise, at the heap behind the top. F, the promise of the law's def, may use that base is part of the heap (so K.In base, base.Ns mainGlobals mg stand in Mod) -/
theorem law_call {P : Program} {w : World} {K : PySem.W.Frag} {mg mb : Str → Option Value} {CX : CXT} {k : Nat} {fa a : Addr} {fd : FuncData} {x : Str} {sp : Sp} {s₁ : Shared} {vs : List Value} {ns : List Int}
    (KX : K.In s₁.heap) (hns : s₁.heap.Ns mainGlobals mg) (hb : s₁.heap.Ns builtinsNs mb) (hbb : ∀ x : Str, x ≠ "__name__" → mb x = bootBuiltins x) (hlim : s₁.heap.NoLimit) (hg : s₁.gens = #[])
    (ha : s₁.heap.get? a = some { cls := .type "list", data := .seq vs.toArray }) (hi : IntsAre vs ns) (hl : ns.length ≤ sizeLine) (hr : Room k callerA)
    (F : ∀ base : Heap, K.In base → base.Ns mainGlobals mg → FnOk P w K mg base CX k fa fd [x] sp) (hbind : ∀ (s : Shared) (u : Value), BindsTo s fd ⟨[u], []⟩ [(x, u)])
    (hsp : ∀ H : Hp, Only H → SqL K H a (ns.map V.int) → sp [.ref a] H (fun v _ => v = .bl true) fun _ _ _ => False)
    (hCX : ∀ H e s', CX [] H s₁ (fun _ _ _ => False) e s' → False) :
    codeAny (model P w) callerA (.call (.ref fa) ⟨[.ref a], []⟩) (fun r s' => r = .ok (.ret (.bool true)) ∧ OldK s₁.heap s'.heap ∧ s'.os = s₁.os ∧ AllBare s'.gens) s₁ := by
  have rv := vals_ints hi
  have lenV := hi.length
  -- from an abstract heap in which nothing but the script may be tracked
  have core : ∀ H : Hp, Only H → SqL K H a (ns.map V.int) → HOk P w H s₁.heap → (∀ b, H b ≠ none → b = a) → (H a ≠ none → K.lookup a = none) →
      codeAny (model P w) callerA (.call (.ref fa) ⟨[.ref a], []⟩) (fun r s' => r = .ok (.ret (.bool true)) ∧ OldK s₁.heap s'.heap ∧ s'.os = s₁.os ∧ AllBare s'.gens) s₁ := by
    intro H hO hS hok hA hK
    have base_of : ∀ {b : Addr} {o : Obj}, s₁.heap.get? b = some o → H b = none → (hidT s₁.heap H).get? b = some o := fun e n => hidT_get e n
    have noA : ∀ {b : Addr} {o : Obj} {es : Array DictEntry} {ep : Nat}, s₁.heap.get? b = some o → o.data = .dict es ep → H b = none := fun {b o es ep} e d => by
      cases q : H b with
      | none => rfl
      | some u =>
        have e' : b = a := hA b (by rw [q]; simp)
        subst e'
        rw [ha] at e; cases e
        have d' : Data.seq vs.toArray _ = Data.dict es ep := d
        cases d'
    have nsK : ∀ {b : Addr} {m : Str → Option Value}, s₁.heap.Ns b m → (hidT s₁.heap H).Ns b m := fun {b m} ⟨o, es, ep, e, d, r⟩ => ⟨o, es, ep, base_of e (noA e d), d, r⟩
    have hKb : K.In (hidT s₁.heap H) := fun b o e => base_of (KX b o e) (by
      cases q : H b with
      | none => rfl
      | some u =>
        have e' : b = a := hA b (by rw [q]; simp)
        subst e'
        rw [hK (by rw [q]; simp)] at e; cases e)
    have hM : Mod K mg (hidT s₁.heap H) := ⟨hKb, nsK hns, ⟨mb, nsK hb, hbb⟩, let ⟨mc, h1, h2⟩ := hlim; ⟨mc, nsK h1, h2⟩⟩
    have e0 : Env0 P w K mg (hidT s₁.heap H) callerA [] s₁ H := ⟨rfl, hM, fun b o e => of_hidT e, Nat.le_of_eq (hidT_size _ _), trivial, fun b hb => absurd (show b ∈ ([] : List Addr) from hb) (by simp), hok, .of_eq hg⟩
    refine codeAny_mono ((F _ hKb (nsK hns)).run callerA [] s₁ H ⟨[.ref a], []⟩ [.ref a] [.ref a] _ _ hr e0 (hbind s₁ (.ref a)) (.cons rfl .nil) (hsp H hO hS)) fun r s' h => ?_
    cases r with
    | error e => exact (hCX H e s' h).elim
    | ok fl =>
      cases fl with
      | next => exact False.elim h
      | brk => exact False.elim h
      | cont => exact False.elim h
      | ret u =>
        obtain ⟨v, H', os, bare, un, hok', r', q⟩ := h
        have q' : v = .bl true := q
        subst q'
        obtain rfl : u = Value.bool true := r'
        refine ⟨rfl, OldK.of_keep fun b o e => ?_, os, bare⟩
        cases q : H b with
        | none => exact un.keep b o e q (by intro z; exact absurd (show b ∈ ([] : List Addr) from z) (by simp)) (by simp)
        | some u =>
          rcases hO b with z | ⟨ob, xs, z⟩
          · rw [q] at z; cases z
          · have z2 := un.frzs b ob _ z
            obtain ⟨e1, _⟩ := hok b _ z
            obtain ⟨e2, _⟩ := hok' b _ z2
            rw [e] at e1; cases e1
            exact e2
  cases hk : K.lookup a with
  | some o =>
    -- the script is one of the module's own objects
    have e := KX a o hk
    rw [ha] at e
    cases e
    refine core (fun _ => none) (fun _ => .inl rfl) (.inr ⟨_, vs.toArray, _, hk, rfl, rfl, rfl, by rw [List.size_toArray, lenV]; exact hl, by simpa using rv⟩) (fun b u z => by have z' : (none : Option HO) = some u := z; cases z') (fun b z => absurd rfl z) fun z => absurd rfl z
  | none =>
    refine core (fun b => if b = a then some (.frz { cls := .type "list", data := .seq vs.toArray } (.lst (ns.map V.int))) else none) (fun b => ?_) (.inl (.inr ⟨{ cls := .type "list", data := .seq vs.toArray }, if_pos rfl⟩)) (fun b u z => ?_) (fun b z => ?_) fun _ => hk
    · by_cases hb : b = a
      · exact .inr ⟨_, _, if_pos hb⟩
      · exact .inl (if_neg hb)
    · by_cases hb : b = a
      · have z' := (if_pos hb).symm.trans z
        cases z'
        subst hb
        exact ⟨ha, by rw [List.length_map]; exact hl, vs, _, rv, ha⟩
      · have z' := (if_neg hb).symm.trans z
        cases z'
    · by_cases hb : b = a
      · exact hb
      · exact absurd (if_neg hb) z
end L2

namespace L2
open PySem PySem.Spec PyProof.Rows

abbrev KOf {K : PySem.W.Frag} {h : Heap} (_ : K.In h) : PySem.W.Frag := K

/-- the goal that k_head leaves (case hc), from the law's promise. F gives the function object fd (K's own) once, then the promise over every base -/
theorem walk_of {l : PySem.W.OpenLaw} {n k : Nat} {q : Program} {loose : List Str} {XP : (Str → Option Value) → Heap → Prop} {YP : World → Heap → Prop} {d : DefRec} {K : Params → PySem.W.Frag} {CX : World → CXT} {sp : World → Sp} {x : Str}
    (hn : l.most = some n) (hn2 : n ≤ sizeLine) (hdf : d.params.defaults = []) (hr : Room k callerA)
    (hY : ∀ (w : World) (h : Heap), YP w h → (K w.params).In h)
    (F : ∀ (w : World) (mg : Str → Option Value) (fa : Addr) (h : Heap), (K w.params).In h → h.Ns mainGlobals mg → mg d.name = some (.ref fa) →
      ∃ fd : FuncData, (∀ (s : Shared) (u : Value), BindsTo s fd ⟨[u], []⟩ [(x, u)]) ∧
        ∀ base : Heap, (K w.params).In base → base.Ns mainGlobals mg → FnOk l.prog w (K w.params) mg base (CX w) k fa fd [x] (sp w))
    (hsp : ∀ (w : World) (H : Hp) (a : Addr) (ns : List Int), ns.length ≤ n → Only H → SqL (K w.params) H a (ns.map V.int) → sp w [.ref a] H (fun v _ => v = .bl true) fun _ _ _ => False)
    (hCX : ∀ (w : World) (H : Hp) (s : Shared) (e : Value) (s' : Shared), CX w [] H s (fun _ _ _ => False) e s' → False) :
    PySem.W.WalkO q loose XP YP l.row.toRowW d [] (fun f vs => PySem.call f vs) := by
  refine Att.attach_call hn hdf fun w s₀ s₁ mg mb fa o pm cd doc a vs ns G Y ho hd hcd hmg hobj hints hlen hg => ?_
  have KX := hY w _ Y
  obtain ⟨fd, hb, hF⟩ := F w mg fa _ KX G.T.g hmg
  exact law_call KX G.T.g G.T.b G.T.builtins G.T.nolimit hg hobj hints (Nat.le_trans hlen hn2) hr hF hb (fun H hO hS => hsp w H a ns hlen hO hS) fun H e s' => hCX w H s₁ e s'
/-- the same where the promise hangs on the written part alone: (sp := My.sp_law), no hole under a binder -/
theorem walk_ofK {l : PySem.W.OpenLaw} {n k : Nat} {q : Program} {loose : List Str} {XP : (Str → Option Value) → Heap → Prop} {YP : World → Heap → Prop} {d : DefRec} {K : Params → PySem.W.Frag} {CX : CXT} {sp : PySem.W.Frag → Sp} {x : Str}
    (hn : l.most = some n) (hn2 : n ≤ sizeLine) (hdf : d.params.defaults = []) (hr : Room k callerA)
    (hY : ∀ (w : World) (h : Heap), YP w h → (K w.params).In h)
    (F : ∀ (w : World) (mg : Str → Option Value) (fa : Addr) (h : Heap), (K w.params).In h → h.Ns mainGlobals mg → mg d.name = some (.ref fa) →
      ∃ fd : FuncData, (∀ (s : Shared) (u : Value), BindsTo s fd ⟨[u], []⟩ [(x, u)]) ∧
        ∀ base : Heap, (K w.params).In base → base.Ns mainGlobals mg → FnOk l.prog w (K w.params) mg base CX k fa fd [x] (sp (K w.params)))
    (hsp : ∀ (K : PySem.W.Frag) (H : Hp) (a : Addr) (ns : List Int), ns.length ≤ n → Only H → SqL K H a (ns.map V.int) → sp K [.ref a] H (fun v _ => v = .bl true) fun _ _ _ => False)
    (hCX : ∀ (H : Hp) (s : Shared) (e : Value) (s' : Shared), CX [] H s (fun _ _ _ => False) e s' → False) :
    PySem.W.WalkO q loose XP YP l.row.toRowW d [] (fun f vs => PySem.call f vs) :=
  walk_of (K := K) (CX := fun _ => CX) (sp := fun w => sp (K w.params)) hn hn2 hdf hr hY F (fun w H a ns h1 h2 h3 => hsp (K w.params) H a ns h1 h2 h3) fun _ H s e s' => hCX H s e s'
end L2

/- THE LAST THEOREM (shape; LID, My.* are yours):
   My.Adr: a structure of the addresses that your layer names (classes, functions); My.Txt K t: a structure (Prop) of the equations over K;
   My.txt_mk : {K} {implicit addresses ..} (e1 : nsIn K mainGlobals "law" = some (some (.ref f))) (e2 : K.lookup f = some ⟨oc, od, .func (fnOf "law" "law" params body scope dV kV doc pm an cdv ct), sl⟩) (e3 : codeIn K cdv "law" = true) .. : ∃ t, My.Txt K t

set_option maxHeartbeats 0 in
theorem PySem.Challenge.cw_LID_holds : PySem.Challenge.rw_LID.Holds := by
  w_on; o_law; k_head; (case hw => w_witness2)
  k_fill
  refine L2.walk_of (l := PySem.Challenge.rw_LID) (n := 63) (k := 40) (x := "script") (CX := fun w => ..) (sp := fun _ => My.sp_law) rfl (by decide) rfl ⟨rfl, by decide, by decide⟩ (fun w h Y => PySem.W.kIn_of Y) ?F ?S ?C
  case F =>
    intro w mg fa h KX G hmg
    have T : ∃ t, My.Txt (L2.KOf KX) t := by
      dsimp only [L2.KOf]                          -- K must stand as «<heap const> w.params» for k_is
      refine' My.txt_mk ?e1 ?e2 ?e3 ..
      (case e1 => PySem.W.k_is)                    -- in the order: a name -> its address -> its object -> its parts
      (case e2 => PySem.W.k_is)
      ..
    obtain ⟨t, T⟩ := T
    have e0 := hmg.symm.trans (PySem.W.mg_of KX G T.law)
    cases e0                                       -- fa is the law's own address
    exact ⟨_, fun s u => .of_eq rfl, fun base kb nb => My.law_fn T kb nb⟩     -- if «.of_eq rfl» comes too early: refine' ⟨_, ?b, fun base kb nb => My.law_fn T kb nb⟩; exact fun s u => .of_eq rfl
  case S => exact fun w H a ns hl hO hS => ..
  case C => exact ..
(the tactic k_is has no namespace: write k_is) -/

/-! SHORT WORDS over the layer: a def of the text, its body, what a loop and a test want. -/
namespace L2
open PySem PySem.Spec PyProof.Rows

/-! ### the text by places -/
/-- the j-th statement of a class's body -/
def inClass (s : Stmt) (j : Nat) : Stmt := match s with
  | .ClassDef _ _ _ body _ _ _ _ _ _ _ => body.getD j (.Pass ⟨0, 0, 0, 0⟩)
  | _ => .Pass ⟨0, 0, 0, 0⟩
def defArgs (s : Stmt) : Arguments := match s with
  | .FunctionDef _ a _ _ _ _ _ _ _ _ => a
  | _ => { posonlyargs := [], args := [], vararg := none, kwonlyargs := [], kw_defaults := [], kwarg := none, defaults := [] }
def defBody (s : Stmt) : List Stmt := match s with
  | .FunctionDef _ _ b _ _ _ _ _ _ _ => b
  | _ => []
def defScope (s : Stmt) : Scope := match s with
  | .FunctionDef _ _ _ _ _ _ sc _ _ _ => sc
  | _ => { kind := .function, names := [], isGenerator := false, isCoroutine := false }

/-! ### no exception leaves a def -/
abbrev CX0 : CXT := fun _ _ _ _ _ _ => False
abbrev E0 : XK := fun _ _ _ => False
theorem pass0 {X : Cx} : Passes CX0 X E0 := fun _ _ _ _ _ _ _ h => h.elim

/-! ### a def (or method) of the text as it stands behind the top -/
structure Fun (K : PySem.W.Frag) (x qual : Str) (st : Stmt) (f : Addr) (fd : FuncData) : Prop where
  ex : ∃ (oc : Value) (od : Option Addr) (kV doc pm : Value) (an : Option Addr) (cdv ct : Value) (osl : Array (Option Value)),
    fd = PySem.W.fnOf x qual (defArgs st) (defBody st) (defScope st) .none kV doc pm an cdv ct ∧ K.lookup f = some ⟨oc, od, .func fd, osl⟩ ∧ PySem.W.codeIn K cdv qual = true
  kp : PySem.W.keepIn K (.ref f) = true
section
variable {P : Program} {w : World} {K : PySem.W.Frag} {mg : Str → Option Value} {base : Heap}
/-- THE RULE for a def: its body as a term of rules, and the reading of that term -/
theorem Fun.ok {x qual : Str} {st : Stmt} {f : Addr} {fd : FuncData} {N ps : List Str} {k : Nat} {sp : Sp} (F : Fun K x qual st f fd) (S : FnScope N ps (defScope st)) (len : ∀ vs H Q E, sp vs H Q E → vs.length = ps.length)
    (hbody : ∀ (cdv : Value) (A : Around) (outer : List Env) (s : Shared) (H : Hp) (vs : List V) (Q : VK) (E : XK), Room k (A.deeper (envOfC qual (defScope st) s.heap.objs.size f cdv)) → sp vs H Q E →
      ∃ t, PSs (cxOf CX0 P w K mg base N qual (defScope st) f cdv A outer s H E).nox (defBody st) t ∧ t { nx := fun _ H' => Q .non H', rt := Q } (start N vs) H) : FnOk P w K mg base CX0 (k + 1) f fd ps sp := by
  obtain ⟨oc, od, kV, doc, pm, an, cdv, ct, osl, rfl, lk, hcd⟩ := F.ex
  refine fn_of lk hcd S len fun A outer s H vs Q E hr hsp => ?_
  obtain ⟨t, h, q⟩ := hbody cdv A outer s H vs Q E hr hsp
  exact ⟨t, h.nox, q⟩
/-- how its arguments bind (no defaults): h is «fun _ _ _ _ _ _ us hl => match us, hl with | [_, _], _ => rfl», one _ a parameter -/
theorem Fun.binds {x qual : Str} {st : Stmt} {f : Addr} {fd : FuncData} {ps : List Str} (F : Fun K x qual st f fd)
    (h : ∀ (kV doc pm : Value) (an : Option Addr) (cdv ct : Value) (us : List Value), us.length = ps.length → bindArgs (PySem.W.fnOf x qual (defArgs st) (defBody st) (defScope st) .none kV doc pm an cdv ct) ⟨us, []⟩ = pure (ps.zip us)) : Binds K fd ps [] := by
  obtain ⟨oc, od, kV, doc, pm, an, cdv, ct, osl, rfl, lk, hcd⟩ := F.ex
  exact .all (h kV doc pm an cdv ct)
theorem fun_mk {x qual : Str} {st : Stmt} {f : Addr} {oc : Value} {od an : Option Addr} {osl : Array (Option Value)} {kV doc pm cdv ct : Value} (l : K.lookup f = some ⟨oc, od, .func (PySem.W.fnOf x qual (defArgs st) (defBody st) (defScope st) .none kV doc pm an cdv ct), osl⟩)
    (c : PySem.W.codeIn K cdv qual = true) (k : PySem.W.keepIn K (.ref f) = true) : Fun K x qual st f (PySem.W.fnOf x qual (defArgs st) (defBody st) (defScope st) .none kV doc pm an cdv ct) := ⟨⟨oc, od, kV, doc, pm, an, cdv, ct, osl, rfl, l, c⟩, k⟩
end
theorem hu_of {A : Around} {k : Nat} (hr : Room k A) : A.units + 1 < cLine := Nat.lt_of_le_of_lt (Nat.add_le_add_left (by decide : 1 ≤ 64) _) hr.units
theorem small1000 {n : Nat} (h : n ≤ 1000) : n < sizeLine := Nat.lt_of_le_of_lt h (by decide)

/-! ### expressions in short: the name that stands in the i-th slot -/
section
variable {X : Cx}
theorem pv (i : Nat) {x : Str} {pos : Pos} (hN : X.N[i]? = some x := by rfl) (hv : Vis X.env.scope x := by first | exact Or.inl rfl | exact Or.inr (Or.inl rfl) | exact Or.inr (Or.inr rfl)) (hd : (x == ("__debug__" : Str)) = false := by decide)
    (hcd : (x == ("__classdict__" : Str)) = false := by decide) : PE X (.Name x pos) (tVar i) := pe_var hN hv hd hcd
end

/-! ### tests -/
theorem iteF {A B : Prop} (h : B) : if false = true then A else B := by
  rw [if_neg Bool.false_ne_true]
  exact h
theorem iteT {A B : Prop} (h : A) : if true = true then A else B := by
  rw [if_pos rfl]
  exact h
theorem ite2 {c A B : Prop} [Decidable c] (h1 : c → A) (h2 : ¬ c → B) : if c then A else B := by
  by_cases h : c
  · rw [if_pos h]
    exact h1 h
  · rw [if_neg h]
    exact h2 h
theorem iteNS {c A B : Prop} [Decidable c] (hc : c) (h : B) : if (!decide c) = true then A else B := by
  rw [decide_eq_true hc]
  exact iteF h

/-! ### heaps -/
/-- all that was tracked is as it was -/
def Same (H H' : Hp) : Prop := ∀ b o, H b = some o → H' b = some o
theorem Same.refl (H : Hp) : Same H H := fun _ _ h => h
theorem Same.trans {H H1 H2 : Hp} (a : Same H H1) (b : Same H1 H2) : Same H H2 := fun c o h => b c o (a c o h)
theorem Same.free {H H' : Hp} (e : Same H H') {l : Addr} (h : H' l = Option.none) : H l = Option.none := by
  cases q : H l with
  | none => rfl
  | some o =>
    rw [e l o q] at h
    cases h
theorem Same.seq {K : PySem.W.Frag} {H H' : Hp} {a : Addr} {xs : List V} (e : Same H H') (h : SqL K H a xs) : SqL K H' a xs := by
  rcases h with (h | ⟨o, h⟩) | h
  · exact .inl (.inl (e _ _ h))
  · exact .inl (.inr ⟨o, e _ _ h⟩)
  · exact .inr h

end L2

/-! more rules over the layer: products and quotients of great numbers, isinstance -/
namespace L2
open PySem PySem.Spec PyProof.Rows Mt
section
variable {X : Cx}
theorem bits_of {i : Int} {n : Nat} (h : Bd n i) (p : 0 < n) : Builtin.Int.intBits i ≤ n := by
  unfold Builtin.Int.intBits
  split
  · exact Nat.zero_le _
  · have := h.log p
    omega
def CMulX (i j : Int) : Prop := CMul i j ∨ (Bd 20000 i ∧ Bd 20000 j)
theorem CMulX.ok {i j : Int} (h : CMulX i j) : IntMulOk i j := by
  rcases h with h | ⟨h, g⟩
  · exact h.ok
  · exact IntMulOk.of_le (bits_of h (by decide)) (bits_of g (by decide)) (by decide)
theorem op_mulX : OpR X (binaryOp .Mult) (rI CMulX fun i j => .int (i * j)) := opI fun _ _ _ _ _ _ _ hc q => mul_int q hc.ok
/-- // by a divisor of either sign, of up to 8000 bits -/
def CDivX (_ j : Int) : Prop := j ≠ 0 ∧ Bd 8000 j
theorem op_fdivX : OpR X (binaryOp .FloorDiv) (rI CDivX fun i j => .int (i.fdiv j)) := opI fun _ _ _ _ _ _ _ hc q =>
  floordiv_int hc.1 q (.inl (PyProof.noPylong_of_log2 (Nat.lt_of_lt_of_le (hc.2.log (by decide)) (by decide))))
/-- // by a positive divisor of up to 8000 bits -/
def CDivP (_ j : Int) : Prop := 0 < j ∧ Bd 8000 j
theorem op_fdivP : OpR X (binaryOp .FloorDiv) (rI CDivP fun i j => .int (i / j)) := opI fun i j _ _ _ _ _ hc q => by
  have h1 : (0 : Int) < j := hc.1
  exact floordiv_int (by omega) (by rw [Int.fdiv_eq_ediv_of_nonneg i (by omega)]; exact q) (.inl (PyProof.noPylong_of_log2 (Nat.lt_of_lt_of_le (hc.2.log (by decide)) (by decide))))
/-- isinstance(x, T), T a built-in type -/
theorem call_isinst : CallR X (.builtin "isinstance") (fun vs H Q => ∃ x T t b, vs = [x, .ty T] ∧ TyOf X.K H x t ∧ PySem.W.kitOne X.K t (.type T) = some b ∧ Q (.bl b) H) := by
  intro pins s σ H vs us Q I rv q
  obtain ⟨x, T, t, b, rfl, ty, e, q⟩ := q
  obtain ⟨u, c, rfl, ru, rc⟩ := Vals.two rv
  cases (show c = Value.type T from rc)
  exact isinst_ok I ru ty e fun tk => ⟨.bl b, H, I.tok tk, rfl, q⟩
theorem kit_same {K : PySem.W.Frag} (t : Value) (h : (t == t) = true := by rfl) : PySem.W.kitOne K t t = some true := by
  unfold PySem.W.kitOne
  rw [if_pos h]
/-- written ints, one after another -/
def intsE : List Expr → Option (List Int)
  | [] => some []
  | .Constant (.int i) _ _ :: r => (intsE r).map (i :: ·)
  | _ => none
theorem pa_ints : ∀ {es : List Expr} {is : List Int}, intsE es = some is → PA X es (fun _ H Q => Q (is.map V.int) H)
  | [], is, h => by
    cases (show some [] = some is from h)
    exact pa_nil
  | .Constant c j p :: r, is, h => by
    cases c with
    | int i =>
      have h' : (intsE r).map (i :: ·) = some is := h
      cases q : intsE r with
      | none => rw [q] at h'; cases h'
      | some is' =>
        rw [q] at h'
        cases h'
        exact pa_cons (t := fun _ H Q => Q (is'.map V.int) H) pe_int (pa_ints q)
    | _ => cases h
/-- a def of the text that stands at the top under its name -/
def Here (K : PySem.W.Frag) (mg : Str → Option Value) (x : Str) (st : Stmt) (ps : List Str) : Prop :=
  ∃ (f : Addr) (fd : FuncData), Fun K x x st f fd ∧ mg x = some (.ref f) ∧ Binds K fd ps []
/-- .. and keeps a promise, with at most k frames -/
def DefOk (P : Program) (w : World) (K : PySem.W.Frag) (mg : Str → Option Value) (base : Heap) (x : Str) (ps : List Str) (k : Nat) (sp : Sp) : Prop :=
  ∃ (f : Addr) (fd : FuncData), FnOk P w K mg base CX0 k f fd ps sp ∧ mg x = some (.ref f) ∧ PySem.W.keepIn K (.ref f) = true ∧ Binds K fd ps []
theorem pe_callD {x : Str} {ps : List Str} {k j : Nat} {sp : Sp} {p pos : Pos} {e : Expr} {es : List Expr} {t : TA} (D : DefOk X.prog X.w X.K X.mg X.base x ps k sp) (hr : Room j X.A) (ha : PA X (e :: es) t)
    (hkj : k ≤ j := by decide) (hg : Gl X x := by rfl) (h1 : (x == ("__debug__" : Str)) = false := by decide) (h2 : starEach (e :: es) X.env = (false, eval e X.env) :: starEach es X.env := by rfl) (h3 : (backTo pos (starEach es X.env)).any (·.1) = false := by rfl) : PE X (.Call (.Name x p) (e :: es) [] pos) (tCall sp [] E0 t) := by
  obtain ⟨f, fd, F, hm, hk, hb⟩ := D
  exact pe_call F (hr.mono hkj) hg hm hk hb .nil pass0 ha h1 h2 h3
theorem iteDT {c A B : Prop} [Decidable c] (hc : c) (h : A) : if decide c = true then A else B := by
  rw [decide_eq_true hc]
  exact iteT h
theorem iteDF {c A B : Prop} [Decidable c] (hc : ¬ c) (h : B) : if decide c = true then A else B := by
  rw [decide_eq_false hc]
  exact iteF h
theorem iteD {c A B : Prop} [Decidable c] (h1 : c → A) (h2 : ¬ c → B) : if decide c = true then A else B := by
  by_cases h : c
  · exact iteDT h (h1 h)
  · exact iteDF h (h2 h)
theorem iteND {c A B : Prop} [Decidable c] (h1 : ¬ c → A) (h2 : c → B) : if (!decide c) = true then A else B := by
  by_cases h : c
  · exact iteNS h (h2 h)
  · rw [decide_eq_false h]
    exact iteT (h1 h)
/-- an item of a short written list -/
theorem at2 {x y : V} {i : Int} (h0 : 0 ≤ i) (h1 : i < 2) : ∃ v, atI [x, y] i = some v ∧ (i = 0 ∧ v = x ∨ i = 1 ∧ v = y) := by
  rcases (by omega : i = 0 ∨ i = 1) with e | e <;> subst e
  · exact ⟨x, rfl, .inl ⟨rfl, rfl⟩⟩
  · exact ⟨y, rfl, .inr ⟨rfl, rfl⟩⟩
theorem at3 {x y z : V} {i : Int} (h0 : 0 ≤ i) (h1 : i < 3) : ∃ v, atI [x, y, z] i = some v ∧ (i = 0 ∧ v = x ∨ i = 1 ∧ v = y ∨ i = 2 ∧ v = z) := by
  rcases (by omega : i = 0 ∨ i = 1 ∨ i = 2) with e | e | e <;> subst e
  · exact ⟨x, rfl, .inl ⟨rfl, rfl⟩⟩
  · exact ⟨y, rfl, .inr (.inl ⟨rfl, rfl⟩)⟩
  · exact ⟨z, rfl, .inr (.inr ⟨rfl, rfl⟩)⟩
/-- .. of ints, with a fact that all of them bear -/
theorem at2i {a b : Int} {i : Int} (φ : Int → Prop) (h0 : 0 ≤ i) (h1 : i < 2) (ha : φ a) (hb : φ b) : ∃ v : Int, atI [V.int a, V.int b] i = some (.int v) ∧ φ v := by
  rcases (by omega : i = 0 ∨ i = 1) with e | e <;> subst e
  · exact ⟨a, rfl, ha⟩
  · exact ⟨b, rfl, hb⟩
theorem at3i {a b c : Int} {i : Int} (φ : Int → Prop) (h0 : 0 ≤ i) (h1 : i < 3) (ha : φ a) (hb : φ b) (hc : φ c) : ∃ v : Int, atI [V.int a, V.int b, V.int c] i = some (.int v) ∧ φ v := by
  rcases (by omega : i = 0 ∨ i = 1 ∨ i = 2) with e | e | e <;> subst e
  · exact ⟨a, rfl, ha⟩
  · exact ⟨b, rfl, hb⟩
  · exact ⟨c, rfl, hc⟩
theorem qT {Q : VK} {b : Bool} {H : Hp} (h : b = true) (q : Q (.bl true) H) : Q (.bl b) H := by rw [h]; exact q
theorem same_new {H : Hp} {p : Addr} (h : H p = none) (o : HO) : Same H (upd H p o) := fun b u q => by rw [upd_ne (ne_of_none q h)]; exact q
end
end L2

/-! a list comprehension of one clause, whose element and test may call -/
namespace L2
open PySem PySem.Spec PyProof.Rows
theorem lk_mem {β : Type} {y : Str} {c : β} : ∀ {l : List (Str × β)}, l.lookup y = some c → (y, c) ∈ l
  | [], h => by simp at h
  | (n, k) :: r, h => by
    rw [List.lookup_cons] at h
    cases q : y == n with
    | true =>
      rw [q] at h
      have e : y = n := by simpa using q
      cases h; rw [e]; exact List.mem_cons_self
    | false =>
      rw [q] at h
      exact List.mem_cons_of_mem _ (lk_mem h)
theorem lk_some {β : Type} {y : Str} {c : β} : ∀ {l : List (Str × β)}, (y, c) ∈ l → ∃ d, l.lookup y = some d
  | (n, k) :: r, h => by
    rw [List.lookup_cons]
    cases q : y == n with
    | true => exact ⟨k, rfl⟩
    | false =>
      rcases List.mem_cons.mp h with z | z
      · cases z; simp at q
      · exact lk_some z
/-- the kinds of a block's names, as the block sees them -/
theorem lk_relabel {env : Env} {y : Str} : ∀ {l : List (Str × NameKind)},
    (l.map fun (n, k) => if (k == NameKind.free && env.scope.kind == .function && env.kindOf n == some .cell) then (n, NameKind.cell) else (n, k)).lookup y =
      (l.lookup y).map fun k => if (k == NameKind.free && env.scope.kind == .function && env.kindOf y == some .cell) then NameKind.cell else k
  | [] => rfl
  | (n, k) :: r => by
    have ih := lk_relabel (env := env) (y := y) (l := r)
    rw [List.map_cons, List.lookup_cons (as := r)]
    by_cases hc : (k == .free && env.scope.kind == .function && env.kindOf n == some .cell) = true
    · dsimp only
      rw [if_pos hc, List.lookup_cons]
      cases q : y == n with
      | true =>
        have e : y = n := by simpa using q
        subst e
        dsimp only [Option.map]
        rw [if_pos hc]
      | false => exact ih
    · dsimp only
      rw [if_neg hc, List.lookup_cons]
      cases q : y == n with
      | true =>
        have e : y = n := by simpa using q
        subst e
        dsimp only [Option.map]
        rw [if_neg hc]
      | false => exact ih
/-- the cells that a block takes along -/
theorem clos_of {env : Env} {scope : Scope} (h : ∀ p ∈ scope.names, p.2 = .free → ∃ c, env.cells.lookup p.1 = some c) :
    ∃ cl, closureFor scope env = pure cl ∧ (∀ p ∈ cl, env.cells.lookup p.1 = some p.2) ∧ ∀ p ∈ scope.names, p.2 = .free → ∃ c, (p.1, c) ∈ cl := by
  have all : ∀ (l : List (Str × NameKind)) (acc : List (Str × Addr)), (∀ p ∈ l, p.2 = .free → ∃ c, env.cells.lookup p.1 = some c) → (∀ p ∈ acc, env.cells.lookup p.1 = some p.2) →
      ∃ cl, (forIn l acc fun x r => (if (x.2 == NameKind.free) = true then do let c ← cellOf env x.1; pure (ForInStep.yield ((x.1, c) :: r)) else pure (ForInStep.yield r) : Sem _)) = pure cl ∧ (∀ p ∈ cl, env.cells.lookup p.1 = some p.2) ∧ (∀ p ∈ acc, p ∈ cl) ∧ ∀ p ∈ l, p.2 = .free → ∃ c, (p.1, c) ∈ cl := by
    intro l
    induction l with
    | nil => intro acc _ h2; exact ⟨acc, rfl, h2, fun _ z => z, fun _ z => by simp at z⟩
    | cons x r ih =>
      intro acc h1 h2
      obtain ⟨n, k⟩ := x
      cases q : k == NameKind.free with
      | true =>
        have e : k = .free := by simpa using q
        subst e
        obtain ⟨c, hc⟩ := h1 (n, .free) List.mem_cons_self rfl
        obtain ⟨cl, e1, e2, e3, e4⟩ := ih ((n, c) :: acc) (fun p hp => h1 p (List.mem_cons_of_mem _ hp)) (fun p hp => by
          rcases List.mem_cons.mp hp with z | z
          · subst z; exact hc
          · exact h2 p z)
        refine ⟨cl, ?_, e2, fun p hp => e3 p (List.mem_cons_of_mem _ hp), fun p hp f => ?_⟩
        · rw [List.forIn_cons]
          have ec : cellOf env n = pure c := by unfold cellOf; rw [hc]
          simp only [ec, beq_self_eq_true, if_true, pure_bind]
          exact e1
        · rcases List.mem_cons.mp hp with z | z
          · subst z; exact ⟨c, e3 _ List.mem_cons_self⟩
          · exact e4 p z f
      | false =>
        obtain ⟨cl, e1, e2, e3, e4⟩ := ih acc (fun p hp => h1 p (List.mem_cons_of_mem _ hp)) h2
        refine ⟨cl, ?_, e2, e3, fun p hp f => ?_⟩
        · rw [List.forIn_cons]
          simp only [q, Bool.false_eq_true, if_false, pure_bind]
          exact e1
        · rcases List.mem_cons.mp hp with z | z
          · subst z; rw [show k = .free from f] at q; simp at q
          · exact e4 p z f
  obtain ⟨cl, e1, e2, _, e4⟩ := all scope.names [] h (fun _ z => by simp at z)
  refine ⟨cl, ?_, e2, e4⟩
  show (forIn scope.names [] _ >>= fun r => pure r) = _
  rw [bind_pure]
  exact e1

/-- the context of a comprehension's block: its own name first, then the names around it -/
def compCx (X : Cx) (x : Str) (scope : Scope) (cl : List (Str × Addr)) (C : Addr) (s : Shared) (H : Hp) (fp : List Addr) (pins : List (Addr × Obj)) : Cx :=
  { X with N := x :: X.N, s₀ := s, H₀ := H, env := compEnvC scope cl C X.env, outer := X.stack, ex := fp, fn := fun _ => false, pn := X.pn ++ pins, xe := fun _ _ => False }
/-- W i m H ys: i items taken, ys in the new list at D; m falls -/
def tComp (wi : TI) (tt : TT) (te : TE) : TE := fun σ H Q => wi σ H fun J H1 => ∀ D, H1 D = none → ∃ W : Nat → Nat → Hp → List V → Prop, (∃ m, W 0 m (upd H1 D (.lst [])) []) ∧
  ∀ i m H2 ys, W i m H2 ys → H2 D = some (.lst ys) ∧ ((J.stop i H2 ∧ Q (.ref D) H2) ∨ (J.go i H2 ∧ ∀ x H3, J.yld i H2 x H3 → tt (some x :: σ) H3 fun b H4 =>
    if b = true then te (some x :: σ) H4 fun v H5 => H5 D = some (.lst ys) ∧ ys.length < sizeLine ∧ ∃ m', m' < m ∧ W (i + 1) m' (upd H5 D (.lst (ys ++ [v]))) (ys ++ [v])
    else ∃ m', m' < m ∧ W (i + 1) m' H4 ys))
section
variable {X : Cx} {pins : List (Addr × Obj)} {σ : St} {H : Hp} {s : Shared} {x : Str} {scope sc : Scope} {cl : List (Str × Addr)} {fp : List Addr} {N : List Str}
/-- what the texts of the block and of the def around it must show, all of it closed -/
structure CompOk (x : Str) (scope sc : Scope) (N : List Str) : Prop where
  cell : ∀ y ∈ scope.names, y.2 ≠ .cell
  kind : scope.kind = .function
  names : ∀ y ∈ scope.names, y.2 = .local → scope.names.lookup y.1 = some .local
  own : scope.names.lookup x = some .local
  fk : sc.kind = .function
  free : ∀ p ∈ scope.names, p.2 = .free → sc.names.lookup p.1 = some .cell
  nd : (x :: N).Nodup
  loc : ∀ y ∈ N, scope.names.lookup y ≠ some .local
theorem comp_kind (O : CompOk x scope X.env.scope X.N) {y : Str} (h : (relabel scope X.env).names.lookup y = some .cell ∨ (relabel scope X.env).names.lookup y = some .free) :
    X.env.kindOf y = some .cell ∧ ∃ k, (y, k) ∈ scope.names ∧ k = .free := by
  have e : (relabel scope X.env).names.lookup y = _ := lk_relabel (env := X.env) (y := y) (l := scope.names)
  rw [e] at h
  cases q : scope.names.lookup y with
  | none => rw [q] at h; rcases h with h | h <;> cases h
  | some k =>
    have hm := lk_mem q
    rw [q] at h
    by_cases f : k = .free
    · exact ⟨O.free _ hm f, k, hm, f⟩
    · exfalso
      have f' : (k == NameKind.free) = false := by simpa using f
      rw [Option.map_some, f', Bool.false_and, Bool.false_and, if_neg Bool.false_ne_true] at h
      rcases h with h | h
      · exact O.cell _ hm (Option.some.inj h)
      · exact f (Option.some.inj h)
theorem comp_ok (O : CompOk x scope X.env.scope X.N) (I : Inv X pins σ H s) (h1 : ∀ p ∈ cl, X.env.cells.lookup p.1 = some p.2) (h2 : ∀ p ∈ scope.names, p.2 = .free → ∃ c, (p.1, c) ∈ cl)
    (hf : ∀ b ∈ fp, FpOk X pins H b) (ho : ∀ b ∈ fp, ∃ o, s.heap.get? b = some o) : (compCx X x scope cl s.heap.objs.size s H fp pins).Ok where
  mod := I.ok.mod
  kind := O.kind
  glob := I.ok.glob
  blt := I.ok.blt
  above := Nat.le_refl _
  inj := fun y z c e1 e2 => I.ok.inj y z c (h1 _ (lk_mem e1)) (h1 _ (lk_mem e2))
  has := fun y e => by
    obtain ⟨_, k, hm, f⟩ := comp_kind O e
    obtain ⟨c, hc⟩ := h2 _ hm f
    exact lk_some hc
  cab := fun _ _ e => nomatch e
  hd := I.ok.hd
  frames := I.ok.frames
  stk := .inl rfl
  exf := fun b hb => ⟨by obtain ⟨o, e⟩ := ho b hb; exact Nat.ne_of_lt (Heap.lt_size e), fun y c e => (hf b hb).2.2.2.2.1 y c (h1 _ (lk_mem e))⟩
  bs := I.bs
  bsz := Nat.le_trans I.ok.bsz I.sz
  noex := fun b o e hb => by
    rcases (hf b hb).2.2.2.1 with z | z
    · exact I.ok.noex b o e z
    · exact absurd (Nat.lt_of_lt_of_le (Heap.lt_size e) (Nat.le_trans I.ok.bsz z)) (Nat.lt_irrefl _)
  exfs := fun b hb z => by
    rcases List.mem_cons.mp (I.stkSub b z) with e | e
    · exact (hf b hb).2.1 e
    · exact (hf b hb).2.2.1 e
  funs := I.stack
  frf := I.stkFree
theorem comp_inv (O : CompOk x scope X.env.scope X.N) (I : Inv X pins σ H s) (h1 : ∀ p ∈ cl, X.env.cells.lookup p.1 = some p.2) (h2 : ∀ p ∈ scope.names, p.2 = .free → ∃ c, (p.1, c) ∈ cl)
    (hf : ∀ b ∈ fp, FpOk X pins H b) (ho : ∀ b ∈ fp, ∃ o, s.heap.get? b = some o) {h' : Heap} {t' : Nat} {m : Str → Option Value} (k : ∀ b u, s.heap.get? b = some u → h'.get? b = some u) (hn : h'.Ns s.heap.objs.size m) :
    Inv (compCx X x scope cl s.heap.objs.size s H fp pins) [] (none :: σ) H { s with heap := h', toks := t' } where
  ok := comp_ok O I h1 h2 hf ho
  os := rfl
  bare := I.bare
  base := Un.kept k
  loc := by
    refine ⟨m, hn, fun i y v e1 e2 e3 => ?_⟩
    cases i with
    | zero => cases e2
    | succ i =>
      have e1' : X.N[i]? = some y := e1
      have e2' : σ[i]? = some (some v) := e2
      have hv : (relabel scope X.env).names.lookup y = some .cell ∨ (relabel scope X.env).names.lookup y = some .free := by
        rcases e3 with z | z
        · exfalso
          have e : (relabel scope X.env).names.lookup y = _ := lk_relabel (env := X.env) (y := y) (l := scope.names)
          have z' : (relabel scope X.env).names.lookup y = some .local := z
          rw [e] at z'
          cases q : scope.names.lookup y with
          | none => rw [q] at z'; cases z'
          | some k =>
            rw [q, Option.map_some] at z'
            have z2 := Option.some.inj z'
            split at z2
            · cases z2
            · exact O.loc y (List.mem_of_getElem? e1') (by rw [q, z2])
        · exact z
      obtain ⟨hk, k', hm, f⟩ := comp_kind O hv
      obtain ⟨c, hc⟩ := h2 _ hm f
      obtain ⟨m0, hn0, hl⟩ := I.loc
      obtain ⟨u, r, l⟩ := hl i y v e1' e2' (.inr (.inl hk))
      refine ⟨u, r, .inr ⟨hv, c, ?_, ?_⟩⟩
      · obtain ⟨d, hd⟩ := lk_some hc
        have a1 := h1 _ (lk_mem hd)
        have a2 := h1 _ hc
        rw [a1] at a2
        show cl.lookup y = some c
        rw [hd]; exact a2
      · rcases l with ⟨z, _⟩ | ⟨_, c', e, o, ho', hd⟩
        · rw [hk] at z; cases z
        · have a2 := h1 _ hc
          rw [e] at a2
          cases a2
          exact ⟨o, k _ _ ho', hd⟩
  cell := fun y c e => by
    obtain ⟨v, o, ho', hd⟩ := I.cell y c (h1 _ (lk_mem e))
    exact ⟨v, o, k _ _ ho', hd⟩
  free := I.hok.fresh (Nat.le_refl _)
  freeC := fun y c e => I.freeC y c (h1 _ (lk_mem e))
  pin := fun p hp => by
    have hp' : p ∈ X.pn ++ pins := by simpa [compCx] using hp
    obtain ⟨e, n, ne, nf, d⟩ := I.pin p hp'
    refine ⟨k _ _ e, n, Nat.ne_of_lt (Heap.lt_size e), fun z => ?_, d⟩
    rcases List.mem_cons.mp (I.stkSub _ z) with q | q
    · exact ne q
    · exact nf q
  hok := I.hok.kept k
  len := by rw [List.length_cons, I.len]; rfl
/-- behind the block: the context around it again -/
theorem comp_back {H' : Hp} {s' : Shared} {h' : Heap} {v0 : Option V} (I : Inv X pins σ H s) (hf : ∀ b ∈ fp, FpOk X pins H b) (I' : Inv (compCx X x scope cl s.heap.objs.size s H fp pins) [] (v0 :: σ) H' s')
    (hs : Heap.SameBut s.heap.objs.size s'.heap h') : Inv X pins σ H' { s' with heap := h' } := by
  have u : Un (frs X.stack) fp H H' s.heap s'.heap := I'.base
  have ne : ∀ b o, s.heap.get? b = some o → b ≠ s.heap.objs.size := fun b o e => Nat.ne_of_lt (Heap.lt_size e)
  have hC : H' s.heap.objs.size = none := I'.free
  refine I.call' (s' := { s' with heap := h' }) (ch := fp) I'.os ⟨fun b o e n nf nx => hs.extBut b _ (ne b o e) (u.keep b o e n nf nx), fun b o e n bf nx => ?_, u.free, fun b o e nx => ?_, u.tups, u.frzs, u.tbls⟩ (fun b o e => ?_) I'.bare fun b hb => ⟨(hf b hb).2.2.2.1, (hf b hb).2.1, (hf b hb).2.2.2.2.1, (hf b hb).2.2.2.2.2⟩
  · obtain ⟨sl, q⟩ := u.slot b o e n bf nx
    exact ⟨sl, hs.extBut b _ (ne b o e) q⟩
  · obtain ⟨o', q⟩ := u.there b o e nx
    exact ⟨o', hs.extBut b _ (ne b o e) q⟩
  · refine (I'.hok b o e).stay (fun c v hc q => hs.extBut c v ?_ q) (fun _ q => q) fun _ _ q => q
    intro z
    rcases hc with y | y
    · rw [← y, z, hC] at e; cases e
    · rw [z, hC] at y; cases y

theorem pe_compG {elt iter : Expr} {px pos : Pos} {ifs : List Expr} {wi : TI} {tt : TT} {te : TE} (hc : X.calm = true) (hsc : X.env.scope = sc) (hN : X.N = N) (O : CompOk x scope sc N) (hi : PI X (.Name x px) iter wi)
    (ht : ∀ cl C s H fp pins, ∀ (pins' : List (Addr × Obj)) (s' : Shared) (σ' : St) (H' : Hp) (Q : Bool → Hp → Prop), Inv (compCx X x scope cl C s H fp pins) pins' σ' H' s' → tt σ' H' Q →
      wpAny (model X.prog X.w) X.A (forIn ifs true fun c r => if r = true then do let ok ← isTrue c (compEnvC scope cl C X.env) (eval c (compEnvC scope cl C X.env)); pure (ForInStep.yield ok) else pure (ForInStep.yield r)) (TP (compCx X x scope cl C s H fp pins) pins' σ' Q) (fun _ _ => False) s')
    (he : ∀ cl C s H fp pins, PE (compCx X x scope cl C s H fp pins) elt te)
    (hs : ∀ z, foldedSetIterable iter X.env z = pure z := by intro _; rfl) : PE X (.ListComp elt [⟨.Name x px, iter, ifs, 0⟩] scope pos) (tComp wi tt te) := by
  subst hsc hN
  intro pins s σ H Q I h
  obtain ⟨cl, hclos, h1, h2⟩ := clos_of (env := X.env) (scope := scope) fun p hp f => I.ok.has p.1 (.inl (O.free p hp f))
  rw [eval_ListComp]
  refine wpAny_comprehension_free (use := none) rfl hs hclos O.kind O.names ?_
  refine thn (hi pins s σ H _ I h) fun xv s1 hx1 => thn hx1 fun itv s2 hx2 => ?_
  obtain ⟨it, fp, tn, J, H2, rfl, I2, T, st2, f2, hW⟩ := hx2
  refine wpAny_newObj_type ?_
  have nD : H2 s2.heap.objs.size = none := I2.fresh
  obtain ⟨W, ⟨m0, w0⟩, turn⟩ := hW _ nD
  have I3 := I2.lnew (its := []) (ys := []) (t' := s2.toks) .nil (Nat.zero_le _)
  generalize hD : s2.heap.objs.size = D at *
  have f3 : ∀ b ∈ fp, FpOk X pins (upd H2 D (.lst [])) b := fun b hb => by
    obtain ⟨o, e, _⟩ := T.obj _ _ st2 b hb
    exact ⟨by rw [upd_ne (by rw [← hD]; exact Nat.ne_of_lt (Heap.lt_size e))]; exact (f2 b hb).1, (f2 b hb).2⟩
  have st3 : tn 0 (s2.heap.push { cls := .type "list", dict := none, data := .seq ([] : List Value).toArray }) := T.keep _ _ _ st2 fun b _ o e => Heap.get?_push_of_some _ e
  change Inv X pins σ (upd H2 D (.lst [])) { s2 with heap := s2.heap.push { cls := .type "list", dict := none, data := .seq ([] : List Value).toArray } } at I3
  generalize hs3 : ({ s2 with heap := s2.heap.push { cls := .type "list", dict := none, data := .seq ([] : List Value).toArray } } : Shared) = s3 at I3 ⊢
  have st3' : tn 0 s3.heap := by rw [← hs3]; exact st3
  refine wpAny_newFunctionEnv O.cell (by intro y hy; simp at hy) (fun h4 hn4 hb4 => ?_) O.kind
  have old : ∀ b o, s3.heap.get? b = some o → h4.get? b = some o := fun b o e => hb4.extBut b o (Nat.ne_of_lt (Heap.lt_size e)) (Heap.get?_push_of_some _ e)
  have ho : ∀ b ∈ fp, ∃ o, s3.heap.get? b = some o := fun b hb => by
    obtain ⟨o, e, _⟩ := T.obj _ _ st3' b hb
    exact ⟨o, e⟩
  have I4 := comp_inv (t' := s3.toks + ([] : List (Str × Value)).length) O I3 h1 h2 f3 ho old hn4
  have st4 : tn 0 h4 := T.keep _ _ _ st3' fun b _ o e => old b o e
  have ok' := I4.ok
  have fpo : ∀ {H' : Hp}, (∀ b ∈ fp, H' b = none) → ∀ b ∈ fp, FpOk (compCx X x scope cl s3.heap.objs.size s3 (upd H2 D (.lst [])) fp pins) [] H' b := fun hn b hb =>
    ⟨hn b hb, (ok'.exf b hb).1, ok'.exfs b hb, .inl hb, (ok'.exf b hb).2, fun p hp => by
      have hp' : p ∈ X.pn ++ pins := by simpa [compCx] using hp
      exact (f3 b hb).2.2.2.2.2 p hp'⟩
  have loop : ∀ s4 : Shared, s4 = { s3 with heap := h4, toks := s3.toks + ([] : List (Str × Value)).length } →
      codeAny (model X.prog X.w) X.A (.compLoop (.ListComp elt [⟨.Name x px, iter, ifs, 0⟩] scope pos) 0 (.ref it) (.ref D) (compEnvC scope cl s3.heap.objs.size X.env))
        (compPost (model X.prog X.w) X.A X.xe none (EP X pins σ Q) (.ref D) s3.heap.objs.size) s4 := by
    rintro s4 rfl
    refine codeAny_loop rfl (fun n s' => ∃ i v0 H' ys, Inv (compCx X x scope cl s3.heap.objs.size s3 (upd H2 D (.lst [])) fp pins) [] (v0 :: σ) H' s' ∧ tn i s'.heap ∧ (∀ b ∈ fp, H' b = none) ∧ W i n H' ys) ?_ m0
      ⟨0, none, _, [], I4, st4, fun b hb => (f3 b hb).1, w0⟩
    rintro n s5 ⟨i, v0, H5, ys, I5, st5, fr5, w5⟩
    show wpAny _ X.A ((compTurn (.ListComp elt [⟨.Name x px, iter, ifs, 0⟩] scope pos) 0 (.ref it) (.ref D) (compEnvC scope cl s3.heap.objs.size X.env)).onRaise _) _ _ s5
    refine wpAny_noted ?_
    rw [compTurn_list]
    refine wpAny_bind ?_; refine wpAny_standAt (wpAny_bind ?_)
    obtain ⟨hD5, ⟨stop, qs⟩ | ⟨go, step⟩⟩ := turn i n H5 ys w5
    · refine wpAny_mono (T.done (compCx X x scope cl s3.heap.objs.size s3 (upd H2 D (.lst [])) fp pins) rfl rfl rfl hc i [] s5 _ H5 (fun _ _ => False) I5 (fpo fr5) st5 stop) (fun r s6 ⟨hr, I6⟩ => ?_) fun _ _ f => f.elim
      subst hr
      obtain ⟨m6, hn6, _⟩ := id I6.loc
      exact wpAny_pure ⟨m6, hn6, fun h7 hs7 => ⟨.ref D, H5, comp_back I3 f3 I6 hs7, rfl, qs⟩⟩
    · refine wpAny_mono (T.item (compCx X x scope cl s3.heap.objs.size s3 (upd H2 D (.lst [])) fp pins) rfl rfl rfl hc i [] s5 _ H5 (fun _ _ => False) I5 (fpo fr5) st5 go) (fun r s6 ⟨u, hr, h6⟩ => ?_) fun _ _ f => f.elim
      subst hr
      refine wpAny_bind (wpAny_mono h6 (fun _ s7 ⟨y, H7, I7, r7, y7, st7, fr7⟩ => ?_) fun _ _ f => f.elim)
      have I7' := I7.pinned (fpo fr7) (T.obj _ _ st7)
      have own' : (relabel scope X.env).names.lookup x = some .local := lookup_relabel_local O.own
      refine wpAny_bind (wpAny_mono (pg_name (i := 0) (X := compCx X x scope cl s3.heap.objs.size s3 (upd H2 D (.lst [])) fp pins) O.nd rfl (.inl own') (.inr own') _ s7 _ H7 y u (fun σ' H' => σ' = some y :: σ ∧ H' = H7) I7' r7 ⟨rfl, rfl⟩) (fun _ s8 ⟨σ8, H8, I8, e8, e8'⟩ => ?_) fun _ _ f => f.elim)
      subst e8 e8'
      have again : ∀ {v9 : Option V} {H9 : Hp} {ys9 : List V} {s9 : Shared} {m9 : Nat}, Inv (compCx X x scope cl s3.heap.objs.size s3 (upd H2 D (.lst [])) fp pins) ([] ++ pinsAt fp s7.heap) (v9 :: σ) H9 s9 → W (i + 1) m9 H9 ys9 →
          ∃ i v0 H' ys, Inv (compCx X x scope cl s3.heap.objs.size s3 (upd H2 D (.lst [])) fp pins) [] (v0 :: σ) H' s9 ∧ tn i s9.heap ∧ (∀ b ∈ fp, H' b = none) ∧ W i m9 H' ys := fun {v9 H9 ys9 s9 m9} I9 w9 => by
        refine ⟨i + 1, v9, H9, ys9, I9.unpinned, T.keep _ _ _ st7 fun b hb o e => (I9.pin (b, o) (List.mem_append_right _ (List.mem_append_right _ (mem_pinsAt hb e)))).1, fun b hb => ?_, w9⟩
        obtain ⟨o, e, _⟩ := T.obj _ _ st7 b hb
        exact (I9.pin (b, o) (List.mem_append_right _ (List.mem_append_right _ (mem_pinsAt hb e)))).2.1
      refine wpAny_bind (wpAny_mono (ht cl s3.heap.objs.size s3 _ fp pins _ s8 _ H8 _ I8 (step y H8 y7)) (fun ok s9 ⟨H9, I9, q9⟩ => ?_) fun _ _ f => f.elim)
      cases ok with
      | false =>
        rw [if_neg Bool.false_ne_true] at q9
        obtain ⟨m', hm, w9⟩ := q9
        exact wpAny_pure ⟨rfl, m', hm, again I9 w9⟩
      | true =>
        rw [if_pos rfl] at q9
        refine wpAny_bind (wpAny_bind (wpAny_mono (he cl s3.heap.objs.size s3 _ fp pins _ s9 _ H9 _ I9 q9) (fun v s10 ⟨z, H10, I10, r10, hd10, hz10, m', hm, w10⟩ => ?_) fun _ _ f => f.elim))
        refine wpAny_bind (wpAny_mono (mt_append (X := compCx X x scope cl s3.heap.objs.size s3 (upd H2 D (.lst [])) fp pins) _ s10 _ H10 (.ref D) [z] (.ref D) [v] (fun _ H' => H' = upd H10 D (.lst (ys ++ [z]))) I10 rfl (.cons r10 .nil) ⟨D, ys, z, rfl, rfl, hd10, hz10, rfl⟩) (fun _ s11 ⟨_, H11, I11, _, e11⟩ => ?_) fun _ _ f => f.elim)
        subst e11
        exact wpAny_pure (wpAny_pure ⟨rfl, m', hm, again I11 w10⟩)
  exact codeAny_compStart_list (loop _ rfl) (T.self _ 0 _ _ _ st4 (loop _ rfl))
theorem pe_comp0 {elt iter : Expr} {px pos : Pos} {wi : TI} {te : TE} (hc : X.calm = true) (hsc : X.env.scope = sc) (hN : X.N = N) (O : CompOk x scope sc N) (hi : PI X (.Name x px) iter wi)
    (he : ∀ cl C s H fp pins, PE (compCx X x scope cl C s H fp pins) elt te) (hs : ∀ z, foldedSetIterable iter X.env z = pure z := by intro _; rfl) : PE X (.ListComp elt [⟨.Name x px, iter, [], 0⟩] scope pos) (tComp wi (fun _ H Q => Q true H) te) :=
  pe_compG hc hsc hN O hi (fun _ _ _ _ _ _ _ _ _ H' _ I q => wpAny_tests_nil ⟨H', I, q⟩) he hs
theorem pe_comp1 {elt iter c : Expr} {px pos : Pos} {wi : TI} {tt : TT} {te : TE} (hc : X.calm = true) (hsc : X.env.scope = sc) (hN : X.N = N) (O : CompOk x scope sc N) (hi : PI X (.Name x px) iter wi)
    (ht : ∀ cl C s H fp pins, PT (compCx X x scope cl C s H fp pins) c tt) (he : ∀ cl C s H fp pins, PE (compCx X x scope cl C s H fp pins) elt te)
    (hs : ∀ z, foldedSetIterable iter X.env z = pure z := by intro _; rfl) : PE X (.ListComp elt [⟨.Name x px, iter, [c], 0⟩] scope pos) (tComp wi tt te) :=
  pe_compG hc hsc hN O hi (fun cl C s H fp pins pins' s' σ' H' Q I q => wpAny_tests_one (ht cl C s H fp pins pins' s' σ' H' Q I q)) he hs
end
end L2

/-! more rules: lists or tuples, ranges by steps, comprehensions over a range and a list -/
namespace L2
open PySem PySem.Spec PyProof.Rows Mt
theorem Same.tup {K : PySem.W.Frag} {H H' : Hp} {a : Addr} {xs : List V} (e : Same H H') (h : SqT K H a xs) : SqT K H' a xs := by
  rcases h with (h | ⟨o, h⟩) | h
  · exact .inl (.inl (e _ _ h))
  · exact .inl (.inr ⟨o, e _ _ h⟩)
  · exact .inr h
/-- a list or a tuple -/
def SqA (K : PySem.W.Frag) (H : Hp) (a : Addr) (xs : List V) : Prop := SqL K H a xs ∨ SqT K H a xs
theorem Same.any {K : PySem.W.Frag} {H H' : Hp} {a : Addr} {xs : List V} (e : Same H H') (h : SqA K H a xs) : SqA K H' a xs := h.elim (fun h => .inl (e.seq h)) fun h => .inr (e.tup h)
def rIxA (K : PySem.W.Frag) : R2 := fun x y H Q => ∃ p xs i v, x = .ref p ∧ y = .int i ∧ SqA K H p xs ∧ atI xs i = some v ∧ Q v H
section
variable {X : Cx} {tg : Expr}
theorem ix_any : IxR X (rIxA X.K) := by
  intro value slice pins s σ H x y v u Q I rx ry h hsub
  obtain ⟨p, xs, i, z, e1, e2, hq, ha, q⟩ := h
  rcases hq with hq | hq
  · exact ix_list value slice pins s σ H x y v u Q I rx ry ⟨p, xs, i, z, e1, e2, hq, ha, q⟩ hsub
  · exact ix_tup value slice pins s σ H x y v u Q I rx ry ⟨p, xs, i, z, e1, e2, hq, ha, q⟩ hsub
/-- with the written part named: for a block's context -/
theorem ix_listK {K : PySem.W.Frag} (h : X.K = K) : IxR X (rIxL K) := by subst h; exact ix_list
theorem ix_tupK {K : PySem.W.Frag} (h : X.K = K) : IxR X (rIxT K) := by subst h; exact ix_tup
theorem ix_anyK {K : PySem.W.Frag} (h : X.K = K) : IxR X (rIxA K) := by subst h; exact ix_any
theorem op_in_seqK {K : PySem.W.Frag} (h : X.K = K) : OpR X (compareOp .In) (rIn K false) := by subst h; exact op_in_seq
theorem op_notIn_seqK {K : PySem.W.Frag} (h : X.K = K) : OpR X (compareOp .NotIn) (rIn K true) := by subst h; exact op_notIn_seq
theorem call_len_seqK {K : PySem.W.Frag} (h : X.K = K) : CallR X (.builtin "len") (fun xs H Q => ∃ p ys, xs = [.ref p] ∧ (SqL K H p ys ∨ SqT K H p ys) ∧ Q (.int ys.length) H) := by subst h; exact call_len_seq
/-- lo, lo + c, .. (n of them) -/
def Its (lo c : Int) (n : Nat) : It := ⟨fun i _ => i < n, fun i H x H' => H' = H ∧ x = .int (lo + i * c), fun i _ => n ≤ i⟩
theorem turn_step {P : Program} {w : World} {K : PySem.W.Frag} {tg : Expr} (it : Addr) (lo c : Int) (n : Nat) : Turn P w K tg (Its lo c n) [it] it (fun i h => IsRangeIter h it (lo + (i : Nat) * c) ((n : Int) - (i : Nat)) c) where
  mem := by simp
  obj := fun i h st b hb => by
    have e : b = it := by simpa using hb
    subst e
    exact ⟨_, st, fun v z => by
      have z' : Data.fields _ = Data.cell v := z
      cases z'⟩
  keep := fun i h h' st k => k it (by simp) _ st
  item := by
    intro X hP hw hK hc i pins s σ H E I hf st hg
    subst hP hw hK
    obtain ⟨f0, f1, f2, f3, f4, f5⟩ := hf it (by simp)
    have W := Walks.range (prog := X.prog) (w := X.w) (I.ok.hd hc) it lo c n
    refine W.item i s _ _ hg st fun v h' tk hv st' kk => ?_
    obtain ⟨t, rfl⟩ := hv
    have I1 : Inv X pins σ H { s with heap := h', toks := tk } := I.turned (fun b o hb e => kk b o (by simpa using hb) e) f0 f1 f3 f4 f5
    exact ⟨_, rfl, go_of (s := { s with heap := h', toks := tk }) (n := "range_iterator") st' rfl rfl (by decide) ⟨.int (lo + i * c), H, I1, ⟨t, rfl⟩, ⟨rfl, rfl⟩, st', fun b hb => (hf b hb).1⟩⟩
  done := by
    intro X hP hw hK hc i pins s σ H E I hf st hg
    subst hP hw hK
    obtain ⟨f0, f1, f2, f3, f4, f5⟩ := hf it (by simp)
    exact wpAny_pyNext_range_end (I.ok.hd hc) st (by have : n ≤ i := hg; omega) fun h' eb => ⟨rfl, I.turned (t' := s.toks) (fun b o hb e => eb b o hb e) f0 f1 f3 f4 f5⟩
  self := fun _ _ _ _ _ st h => wpAny_pyIter_rangeiter st h
theorem step_it {pins : List (Addr × Obj)} {σ : St} {H : Hp} {s : Shared} {R : It → Hp → Prop} {E : Value → Shared → Prop} {lo hi c : Int} {n : Nat} {t u v : Tok} {tk : Nat} (I : Inv X pins σ H s) (hsm : Builtin.Range.small lo hi c = true) (hn : Builtin.Range.rangeSize lo hi c = (n : Int))
    (q : R (Its lo c n) H) : wpAny (model X.prog X.w) X.A (pyIter (.ref s.heap.objs.size)) (PIE X pins σ tg R) E { s with heap := s.heap.push { cls := .type "range", data := .fields #[.int lo t, .int hi u, .int c v] }, toks := tk } := by
  refine wpAny_pyIter_range (IsRange.new ..) hsm ?_
  have I1 : Inv X pins σ H { s with heap := s.heap.push { cls := .type "range", data := .fields #[.int lo t, .int hi u, .int c v] }, toks := tk } := I.kept fun b o e => Heap.get?_push_of_some _ e
  refine ⟨(s.heap.push { cls := .type "range", data := .fields #[.int lo t, .int hi u, .int c v] }).objs.size, [(s.heap.push { cls := .type "range", data := .fields #[.int lo t, .int hi u, .int c v] }).objs.size], _, _, H, rfl,
    I1.kept (t' := tk) fun b o e => Heap.get?_push_of_some _ e, turn_step _ lo c n, ?_, fun b hb => ?_, q⟩
  · have e1 : lo + ((0 : Nat) : Int) * c = lo := by simp
    have e2 : (n : Int) - ((0 : Nat) : Int) = Builtin.Range.rangeSize lo hi c := by rw [hn]; simp
    show IsRangeIter _ _ (lo + ((0 : Nat) : Int) * c) ((n : Int) - ((0 : Nat) : Int)) c
    rw [e1, e2]
    exact Heap.get?_push_size _ rfl
  · have e : b = (s.heap.push { cls := .type "range", data := .fields #[.int lo t, .int hi u, .int c v] }).objs.size := by simpa using hb
    subst e
    exact I1.fpOk (Nat.le_refl _) (I1.hok.fresh (Nat.le_refl _))
def iRng3 (ta : TA) : TI := fun σ H R => ta σ H fun vs H1 => ∃ (i j c : Int) (n : Nat), vs = [.int i, .int j, .int c] ∧ 0 < c ∧ c < 1000 ∧ Builtin.Range.small i j c = true ∧ Builtin.Range.rangeSize i j c = (n : Int) ∧ R (Its i c n) H1
theorem pi_range3 {a b d : Expr} {ta : TA} {p pos : Pos} (hg : Gl X "range") (hm : X.mg "range" = none) (ha : PA X [a, b, d] ta) (hs : starEach [a, b, d] X.env = (false, eval a X.env) :: starEach [b, d] X.env := by rfl) (hpl : (backTo pos (starEach [b, d] X.env)).any (·.1) = false := by rfl) :
    PI X tg (.Call (.Name "range" p) [a, b, d] [] pos) (iRng3 ta) := by
  intro pins s σ H R I h
  refine Call_ (ld_blt I hg hm boot_range (PyProof.Rows.callWith_type1 (thn (ha pos pins s σ H _ I h) fun us s1 ⟨vs, H1, I1, r1, q1⟩ => ?_) hs hpl))
  obtain ⟨i, j, c, n, e, c0, c1, hsm, hn, q⟩ := q1
  subst e
  cases r1 with
  | cons r rr =>
    cases rr with
    | cons r' rr =>
      cases rr with
      | cons r2 rr =>
        cases rr
        obtain ⟨t, rfl⟩ := r
        obtain ⟨t', rfl⟩ := r'
        obtain ⟨t2, rfl⟩ := r2
        exact call_range_3 (by omega) (step_it I1 hsm hn q) (Or.inl (PyProof.noPylong_small (by omega)))
end
theorem for_step {lo c : Int} {n : Nat} {g : TG} {tb : TS} {D : Ends} {σ : St} {H : Hp} (Pv : Nat → St → Hp → Prop) (h0 : Pv 0 σ H)
    (hs : ∀ i σ H, i < n → Pv i σ H → g (.int (lo + i * c)) σ H fun σ2 H2 => tb { D with nx := Pv (i + 1), ct := Pv (i + 1), bk := D.nx } σ2 H2) (hd : ∀ σ H, Pv n σ H → D.nx σ H) :
    ∃ W : Nat → Nat → St → Hp → Prop, (∃ m, W 0 m σ H) ∧ ∀ i m σ H, W i m σ H →
      ((Its lo c n).stop i H ∧ D.nx σ H) ∨ ((Its lo c n).go i H ∧ ∃ N : St → Hp → Prop, (∀ σ' H', N σ' H' → ∃ m', m' < m ∧ W (i + 1) m' σ' H') ∧ ∀ x H', (Its lo c n).yld i H x H' → g x σ H' fun σ2 H2 => tb { D with nx := N, ct := N, bk := D.nx } σ2 H2) := by
  refine ⟨fun i m σ H => m = n - i ∧ i ≤ n ∧ Pv i σ H, ⟨n, by simp, Nat.zero_le _, h0⟩, ?_⟩
  rintro i m σ H ⟨rfl, hi, p⟩
  by_cases hlt : i < n
  · refine .inr ⟨hlt, Pv (i + 1), fun σ' H' p' => ⟨n - (i + 1), by omega, rfl, hlt, p'⟩, fun x H' y => ?_⟩
    obtain ⟨e, y⟩ := y
    subst e y
    exact hs i σ _ hlt p
  · have e : i = n := by omega
    subst e
    exact .inl ⟨Nat.le_refl _, hd σ H p⟩
/-- a comprehension over a range: the word Pv by the turn; kk carries it to the next turn -/
theorem comp_range {lo : Int} {n : Nat} {tt : TT} {te : TE} {σ : St} {H : Hp} {Q : VK} {D : Addr} (Pv : Nat → Hp → List V → Prop) (h0 : Pv 0 (upd H D (.lst [])) [])
    (hs : ∀ i H2 ys (kk : Hp → List V → Prop), (∀ H' ys', Pv (i + 1) H' ys' → kk H' ys') → i < n → Pv i H2 ys → H2 D = some (.lst ys) ∧ tt (some (.int (lo + i)) :: σ) H2 fun b H4 =>
      if b = true then te (some (.int (lo + i)) :: σ) H4 fun v H5 => H5 D = some (.lst ys) ∧ ys.length < sizeLine ∧ kk (upd H5 D (.lst (ys ++ [v]))) (ys ++ [v]) else kk H4 ys)
    (hd : ∀ H2 ys, Pv n H2 ys → H2 D = some (.lst ys) ∧ Q (.ref D) H2) :
    ∃ W : Nat → Nat → Hp → List V → Prop, (∃ m, W 0 m (upd H D (.lst [])) []) ∧ ∀ i m H2 ys, W i m H2 ys → H2 D = some (.lst ys) ∧ (((Itr lo n).stop i H2 ∧ Q (.ref D) H2) ∨ ((Itr lo n).go i H2 ∧ ∀ x H3, (Itr lo n).yld i H2 x H3 → tt (some x :: σ) H3 fun b H4 =>
      if b = true then te (some x :: σ) H4 fun v H5 => H5 D = some (.lst ys) ∧ ys.length < sizeLine ∧ ∃ m', m' < m ∧ W (i + 1) m' (upd H5 D (.lst (ys ++ [v]))) (ys ++ [v]) else ∃ m', m' < m ∧ W (i + 1) m' H4 ys)) := by
  refine ⟨fun i m H2 ys => m = n - i ∧ i ≤ n ∧ Pv i H2 ys, ⟨n, by simp, Nat.zero_le _, h0⟩, ?_⟩
  rintro i m H2 ys ⟨rfl, hi, p⟩
  by_cases hlt : i < n
  · obtain ⟨h1, h2⟩ := hs i H2 ys (fun H' ys' => ∃ m', m' < n - i ∧ m' = n - (i + 1) ∧ i + 1 ≤ n ∧ Pv (i + 1) H' ys') (fun H' ys' p' => ⟨n - (i + 1), by omega, rfl, hlt, p'⟩) hlt p
    refine ⟨h1, .inr ⟨hlt, fun x H3 y => ?_⟩⟩
    obtain ⟨e, y⟩ := y
    subst e y
    exact h2
  · have e : i = n := by omega
    subst e
    exact ⟨(hd H2 ys p).1, .inl ⟨Nat.le_refl _, (hd H2 ys p).2⟩⟩
/-- .. over a list that stays as it is -/
theorem comp_list {K : PySem.W.Frag} {a : Addr} {xs : List V} {tt : TT} {te : TE} {σ : St} {H : Hp} {Q : VK} {D : Addr} (Pv : Nat → Hp → List V → Prop) (h0 : Pv 0 (upd H D (.lst [])) []) (hl : ∀ i H2 ys, Pv i H2 ys → SqL K H2 a xs ∧ H2 D = some (.lst ys))
    (hs : ∀ i x H2 ys (kk : Hp → List V → Prop), (∀ H' ys', Pv (i + 1) H' ys' → kk H' ys') → xs[i]? = some x → Pv i H2 ys → tt (some x :: σ) H2 fun b H4 =>
      if b = true then te (some x :: σ) H4 fun v H5 => H5 D = some (.lst ys) ∧ ys.length < sizeLine ∧ kk (upd H5 D (.lst (ys ++ [v]))) (ys ++ [v]) else kk H4 ys)
    (hd : ∀ H2 ys, Pv xs.length H2 ys → Q (.ref D) H2) :
    ∃ W : Nat → Nat → Hp → List V → Prop, (∃ m, W 0 m (upd H D (.lst [])) []) ∧ ∀ i m H2 ys, W i m H2 ys → H2 D = some (.lst ys) ∧ (((Itl K a).stop i H2 ∧ Q (.ref D) H2) ∨ ((Itl K a).go i H2 ∧ ∀ x H3, (Itl K a).yld i H2 x H3 → tt (some x :: σ) H3 fun b H4 =>
      if b = true then te (some x :: σ) H4 fun v H5 => H5 D = some (.lst ys) ∧ ys.length < sizeLine ∧ ∃ m', m' < m ∧ W (i + 1) m' (upd H5 D (.lst (ys ++ [v]))) (ys ++ [v]) else ∃ m', m' < m ∧ W (i + 1) m' H4 ys)) := by
  refine ⟨fun i m H2 ys => m = xs.length - i ∧ i ≤ xs.length ∧ Pv i H2 ys, ⟨xs.length, by simp, Nat.zero_le _, h0⟩, ?_⟩
  rintro i m H2 ys ⟨rfl, hi, p⟩
  obtain ⟨h1, h2⟩ := hl i H2 ys p
  refine ⟨h2, ?_⟩
  by_cases hlt : i < xs.length
  · refine .inr ⟨⟨xs, xs[i], h1, by simp [hlt]⟩, fun x H3 y => ?_⟩
    obtain ⟨e, y⟩ := y
    subst e
    exact hs i x H3 ys (fun H' ys' => ∃ m', m' < xs.length - i ∧ m' = xs.length - (i + 1) ∧ i + 1 ≤ xs.length ∧ Pv (i + 1) H' ys') (fun H' ys' p' => ⟨xs.length - (i + 1), by omega, rfl, hlt, p'⟩) (y xs h1) p
  · have e : i = xs.length := by omega
    subst e
    exact .inl ⟨⟨xs, h1, Nat.le_refl _⟩, hd H2 ys p⟩
end L2

/-! sorted(xs) of a list or a tuple of ints -/
namespace L2
open PySem PySem.Spec PyProof.Rows
section
variable {prog : Program} {w : World} {A : Around} {E : Value → Shared → Prop} {s : Shared}
theorem gather_tup {t : Addr} {us : List Value} {Q : List Value → Shared → Prop} (ht : IsTup s.heap t us.toArray) (hz : us.length ≤ sizeLine)
    (q : Q us { s with heap := (s.heap.push (seqObj "list" #[] 0)).update s.heap.objs.size (Obj.mapSeq (· ++ us.toArray)) }) : wpAny (model prog w) A (collect (.ref t)) Q E s := by
  obtain ⟨ob, e, hc, n, hd⟩ := ht
  unfold collect; refine wpAny_bind (wpAny_runValue (codeAny_builtin entry_proto_collect' ?_))
  show wpAny _ _ (do again (.builtin "list.__iadd__" ⟨[← newList [], .ref t], []⟩)) _ _ s
  refine wpAny_bind ?_; refine wpAny_newList (wpAny_pure ⟨Code.quiet_builtin _ (by decide +kernel), codeAny_builtin entry_list_iadd' ?_⟩)
  show wpAny _ _ (Builtin.List.listExtendWith (.ref s.heap.objs.size) (.ref t) (.ref s.heap.objs.size)) _ _ { s with heap := s.heap.push (seqObj "list" #[] 0) }
  unfold Builtin.List.listExtendWith; have e' : (s.heap.push (seqObj "list" #[] 0)).get? t = some ob := Heap.get?_push_of_some _ e
  refine wpAny_bind (wpAny_typeOf (T := "tuple") ⟨ob, e', hc⟩ ?_)
  have h2 : (Value.type "tuple" == Value.type "tuple") = true := by rfl
  rw [if_pos (by rw [h2]; simp)]
  refine wpAny_bind (listItems_at e' hd (wpAny_bind (listItems_at (xs := #[]) (n := 0) (Heap.get?_push_size _ rfl) rfl ?_)))
  rw [if_neg (by simp)]
  refine wpAny_bind (listUpdate_at (xs := #[]) (n := 0) (Heap.get?_push_size _ rfl) rfl ?_ (Nat.zero_le _) (by show (#[] ++ us.toArray).size ≤ sizeLine + 1; simp only [Array.size_append, List.size_toArray, List.length_nil]; omega))
  refine wpAny_pure ?_
  show wpAny (model prog w) A (load s.heap.objs.size >>= fun o => (match o.data with
      | .seq xs _ => pure xs.toList
      | _ => unsupported "internal:collect" : Sem (List Value))) Q E { s with heap := (s.heap.push (seqObj "list" #[] 0)).update s.heap.objs.size (Obj.mapSeq (· ++ us.toArray)) }
  refine wpAny_bind ?_; refine wpAny_load (get?_update_seq (Heap.get?_push_size _ rfl) _) ?_
  show wpAny _ _ (pure ((#[] : Array Value) ++ us.toArray).toList) Q E _
  rw [show ((#[] : Array Value) ++ us.toArray).toList = us by simp]
  exact wpAny_pure q
theorem sorted_tup {t : Addr} {us : List Value} {ns : List Int} {Q : Value → Shared → Prop} (ht : IsTup s.heap t us.toArray) (hI : IntsAre us ns) (h64 : us.length < 64)
    (q : ∀ (out : Array Value) (ms : List Int), IntsAre out.toList ms → ms.Perm ns → ms.Pairwise (· ≤ ·) → Q (.ref (s.heap.objs.size + 1)) { s with heap := sortedAll s.heap us out }) :
    wpAny (model prog w) A (call (.builtin "sorted") [.ref t]) Q E s := by
  refine Calls.call_function_entry kind_sorted plain_sorted entry_sorted (args_sorted1 _) ?_; unfold Builtin.«sorted»; refine wpAny_bind (m := checkCount "sorted" 1 1 _) (wpAny_pure ?_)
  refine wpAny_bind (gather_tup ht (by rw [sizeLine_eq]; omega) (wpAny_bind (wpAny_newList ?_)))
  have z1 : ((s.heap.push (seqObj "list" #[] 0)).update s.heap.objs.size (Obj.mapSeq (· ++ us.toArray))).objs.size = s.heap.objs.size + 1 := by rw [Heap.size_update, size_push']
  have z2 : (((s.heap.push (seqObj "list" #[] 0)).update s.heap.objs.size (Obj.mapSeq (· ++ us.toArray))).push (seqObj "list" us.toArray 0)).get? (s.heap.objs.size + 1) = some (seqObj "list" us.toArray 0) := by rw [← z1]; exact Heap.get?_push_size _ rfl
  show wpAny _ _ _ _ _ { s with heap := ((s.heap.push (seqObj "list" #[] 0)).update s.heap.objs.size (Obj.mapSeq (· ++ us.toArray))).push (seqObj "list" us.toArray 0) }
  rw [z1]
  refine wpAny_bind (wpAny_holding (wpAny_call_entry slot_list_sort ⟨_, z2, rfl⟩ entry_list_sort (list_sort_tree z2 hI h64 fun out ms a1 a2 a3 => ⟨_, rfl, ?_⟩) (args_list_sort _)))
  exact wpAny_pure ⟨_, rfl, q out ms a1 a2 a3⟩
end
section
variable {X : Cx}
theorem call_sorted_ints : CallR X (.builtin "sorted") (fun xs H Q => ∃ (p : Addr) (ns : List Int), xs = [.ref p] ∧ SqA X.K H p (ns.map V.int) ∧ ns.length < 64 ∧ ∀ (l : Addr) (ms : List Int), ms.Perm ns → ms.Pairwise (· ≤ ·) → H l = none → Q (.ref l) (upd H l (.lst (ms.map V.int)))) := by
  intro pins s σ H xs us Q I r h
  obtain ⟨p, ns, rfl, hq, h64, q⟩ := h
  obtain ⟨u, rfl, rx⟩ := vals1 r
  cases rx
  have fin : ∀ (its : List Value) (out : Array Value) (ms : List Int), IntsAre out.toList ms → ms.Perm ns → ms.Pairwise (· ≤ ·) → EP X pins σ Q (.ref (s.heap.objs.size + 1)) { s with heap := sortedAll s.heap its out } := fun its out ms a1 a2 a3 => by
    obtain ⟨e, he⟩ := sortedAll_at s.heap its out
    have hl := a2.length_eq
    refine ⟨.ref (s.heap.objs.size + 1), _, I.laid (t' := s.toks) (fun _ _ => sortedAll_old) (Nat.le_succ _) (show ObjOk X.prog X.w _ _ _ (.lst (ms.map V.int)) from ⟨?_, out.toList, e, vals_ints a1, ?_⟩), rfl, q _ ms a2 a3 (I.hok.fresh (Nat.le_succ _))⟩
    · rw [List.length_map, hl]; exact Nat.le_of_lt (small1000 (by omega))
    · rw [Array.toArray_toList]; exact he
  rcases hq with hq | hq
  · obtain ⟨its, r', pl, hz⟩ := I.list hq
    have hlen := r'.length
    rw [List.length_map] at hlen
    exact sorted_ints pl.isList (intsAre_of r') (by omega) fun out ms a1 a2 a3 => fin its out ms a1 a2 a3
  · obtain ⟨its, r', pl, hz⟩ := I.tuple hq
    have hlen := r'.length
    rw [List.length_map] at hlen
    exact sorted_tup pl (intsAre_of r') (by omega) fun out ms a1 a2 a3 => fin its out ms a1 a2 a3
end
end L2

/-! wheels, trains, lists of tuples: what the defs' promises speak of -/
namespace My
open PySem L2 Mt
/-- a shop's wheels: teeth of 10 to 127, no two alike -/
structure Shop (ws : List Int) : Prop where
  lo : ∀ v ∈ ws, 10 ≤ v
  hi : ∀ v ∈ ws, v ≤ 127
  nd : ws.Nodup
theorem Shop.snoc {ws : List Int} {t : Int} (h : Shop ws) (h0 : 10 ≤ t) (h1 : t ≤ 127) (n : t ∉ ws) : Shop (ws ++ [t]) where
  lo := fun v hv => (List.mem_append.mp hv).elim (h.lo v) fun e => by rw [List.mem_singleton.mp e]; exact h0
  hi := fun v hv => (List.mem_append.mp hv).elim (h.hi v) fun e => by rw [List.mem_singleton.mp e]; exact h1
  nd := by
    rw [List.nodup_append]
    exact ⟨h.nd, by simp, fun a ha b hb => by rw [List.mem_singleton.mp hb]; intro e; exact n (e ▸ ha)⟩
theorem free_tooth : ∀ (n : Nat) (ws : List Int), ws.length < n → ∃ i : Nat, i < n ∧ (10 + (i : Int)) ∉ ws
  | 0, _, h => absurd h (Nat.not_lt_zero _)
  | n + 1, ws, h => by
    by_cases m : (10 + (n : Int)) ∈ ws
    · have hl := List.length_erase_of_mem m
      have hp : 0 < ws.length := List.length_pos_of_mem m
      obtain ⟨i, hi, hn⟩ := free_tooth n (ws.erase (10 + (n : Int))) (by omega)
      exact ⟨i, by omega, fun z => hn ((List.mem_erase_of_ne (by omega)).mpr z)⟩
    · exact ⟨n, Nat.lt_succ_self _, m⟩
theorem in_ints (t : Int) (ws : List Int) : inV (.int t) (ws.map V.int) = decide (t ∈ ws) := by
  unfold inV
  induction ws with
  | nil => simp
  | cons w r ih =>
    rw [List.map_cons, List.any_cons, ih]
    have : eqV (.int w) (.int t) = decide (t = w) := by
      show (w == t) = _
      by_cases e : t = w
      · simp [e]
      · have : ¬ w = t := fun z => e z.symm
        simp [e, this]
    rw [this]
    by_cases e : t = w <;> simp [e]
theorem flat_ints (ws : List Int) : (ws.map V.int).all flatV = true := by
  induction ws with
  | nil => rfl
  | cons w r ih => rw [List.map_cons, List.all_cons, ih]; rfl
/-- a train of two or of four wheels, its drivers' and its driven wheels' teeth -/
def ratT : List Int → Int
  | [a, _] => a
  | [a, _, c, _] => a * c
  | _ => 0
def ratB : List Int → Int
  | [_, b] => b
  | [_, b, _, d] => b * d
  | _ => 0
structure Train (ws : List Int) : Prop where
  len : ws.length = 2 ∨ ws.length = 4
  lo : ∀ v ∈ ws, 10 ≤ v
  hi : ∀ v ∈ ws, v ≤ 127
theorem Train.cases {ws : List Int} (h : Train ws) : (∃ a b, ws = [a, b]) ∨ ∃ a b c d, ws = [a, b, c, d] := by
  obtain ⟨l, _, _⟩ := h
  match ws, l with
  | [a, b], _ => exact .inl ⟨a, b, rfl⟩
  | [a, b, c, d], _ => exact .inr ⟨a, b, c, d, rfl⟩
  | [], h => simp at h
  | [_], h => simp at h
  | [_, _, _], h => simp at h
  | _ :: _ :: _ :: _ :: _ :: _, h => simp at h
theorem mul_in {x y : Int} (h1 : 10 ≤ x) (h2 : x ≤ 127) (h3 : 10 ≤ y) (h4 : y ≤ 127) : 1 ≤ x * y ∧ x * y ≤ 16129 := by
  have a1 := Int.mul_le_mul h2 h4 (by omega) (by decide)
  have a2 := Int.mul_le_mul h1 h3 (by decide) (by omega)
  omega
theorem Train.in {ws : List Int} (h : Train ws) : 1 ≤ ratT ws ∧ ratT ws ≤ 16129 ∧ 1 ≤ ratB ws ∧ ratB ws ≤ 16129 := by
  rcases h.cases with ⟨a, b, rfl⟩ | ⟨a, b, c, d, rfl⟩
  · have h1 := h.lo a (by simp); have h2 := h.hi a (by simp); have h3 := h.lo b (by simp); have h4 := h.hi b (by simp)
    show 1 ≤ a ∧ a ≤ 16129 ∧ 1 ≤ b ∧ b ≤ 16129
    omega
  · have h1 := h.lo a (by simp); have h2 := h.hi a (by simp); have h3 := h.lo b (by simp); have h4 := h.hi b (by simp)
    have h5 := h.lo c (by simp); have h6 := h.hi c (by simp); have h7 := h.lo d (by simp); have h8 := h.hi d (by simp)
    have e1 := mul_in h1 h2 h5 h6
    have e2 := mul_in h3 h4 h7 h8
    exact ⟨e1.1, e1.2, e2.1, e2.2⟩
/-- a list of tuples of ints stands at D -/
def TL (H : Hp) (D : Addr) (tss : List (List Int)) : Prop := ∃ rs : List Addr, H D = some (.lst (rs.map V.ref)) ∧ Paired (fun r t => H r = some (.tup (t.map V.int))) rs tss
theorem pair_mono {H H' : Hp} (e : Same H H') : ∀ {rs : List Addr} {tss : List (List Int)}, Paired (fun r t => H r = some (.tup (t.map V.int))) rs tss → Paired (fun r t => H' r = some (.tup (t.map V.int))) rs tss
  | _, _, .nil => .nil
  | _, _, .cons h t => .cons (e _ _ h) (pair_mono e t)
theorem TL.mono {H H' : Hp} {D : Addr} {tss : List (List Int)} (h : TL H D tss) (e : Same H H') : TL H' D tss := by
  obtain ⟨rs, h1, h2⟩ := h
  exact ⟨rs, e _ _ h1, pair_mono e h2⟩
theorem pair_upd {H : Hp} {D r : Addr} {xs : List V} {o o' : HO} (hD : H D = some (.lst xs)) (hr : H r = none) : ∀ {rs : List Addr} {tss : List (List Int)}, Paired (fun r t => H r = some (.tup (t.map V.int))) rs tss →
    Paired (fun q t => (upd (upd H r o) D o') q = some (.tup (t.map V.int))) rs tss
  | _, _, .nil => .nil
  | _, _, .cons h t => .cons (by rw [upd_ne (ne_of h hD (by intro z; cases z)), upd_ne (ne_of_none h hr)]; exact h) (pair_upd hD hr t)
theorem TL.push {H : Hp} {D r : Addr} {rs : List Addr} {tss : List (List Int)} {t : List Int} (h1 : H D = some (.lst (rs.map V.ref))) (h2 : Paired (fun r t => H r = some (.tup (t.map V.int))) rs tss) (hr : H r = none) :
    TL (upd (upd H r (.tup (t.map V.int))) D (.lst (rs.map V.ref ++ [V.ref r]))) D (tss ++ [t]) := by
  refine ⟨rs ++ [r], by rw [upd_same, List.map_append]; rfl, Paired.snoc (pair_upd h1 hr h2) ?_⟩
  rw [upd_ne (Ne.symm (ne_of_none h1 hr)), upd_same]
theorem same_push {H0 H : Hp} {D r : Addr} {o o' : HO} (s : Same H0 H) (hD : H0 D = none) (hr : H r = none) : Same H0 (upd (upd H r o) D o') := fun b u e => by
  rw [upd_ne (ne_of_none e hD), upd_ne (ne_of_none (s b u e) hr)]
  exact s b u e
theorem int_at {ts : List Int} {i : Nat} {x : V} (h : (ts.map V.int)[i]? = some x) : ∃ a, x = .int a ∧ ts[i]? = some a := by
  rw [List.getElem?_map] at h
  cases e : ts[i]? with
  | none => rw [e] at h; cases h
  | some a => rw [e] at h; exact ⟨a, (Option.some.inj h).symm, rfl⟩
theorem take_more {α : Type} {l : List α} {i : Nat} {a : α} (h : l[i]? = some a) : l.take (i + 1) = l.take i ++ [a] := by
  rw [List.take_add_one, h]; rfl
theorem big {n : Nat} (h : n ≤ 100000) : n < sizeLine := Nat.lt_of_le_of_lt h (by decide)
def rowM (ts : List Int) (a : Int) : List (List Int) := (ts.filter fun b => decide (a ≠ b)).map fun b => [a, b]
def pairsM (ts : List Int) : List (List Int) := ts.flatMap (rowM ts)
theorem tl_at {H : Hp} : ∀ {rs : List Addr} {tss : List (List Int)} {i : Nat} {x : V}, Paired (fun r t => H r = some (.tup (t.map V.int))) rs tss → (rs.map V.ref)[i]? = some x → ∃ r t, x = .ref r ∧ tss[i]? = some t ∧ H r = some (.tup (t.map V.int))
  | _, _, i, x, .nil, h => by simp at h
  | _, _, 0, x, .cons h t, e => ⟨_, _, by simpa using e.symm, rfl, h⟩
  | _, _, i + 1, x, .cons h t, e => by
    obtain ⟨r, u, e1, e2, e3⟩ := tl_at (i := i) (x := x) t (by simpa using e)
    exact ⟨r, u, e1, by simpa using e2, e3⟩
def okB (f b : List Int) : Bool := decide (b.getD 0 0 ∉ f) && decide (b.getD 1 0 ∉ f)
def rowF (ps : List (List Int)) (f : List Int) : List (List Int) := (ps.filter (okB f)).map fun b => f ++ b
def foursM (ps : List (List Int)) : List (List Int) := ps.flatMap (rowF ps)
def allT (ts : List Int) : List (List Int) := pairsM ts ++ foursM (pairsM ts)
theorem mem_pairsM {ts : List Int} {p : List Int} : p ∈ pairsM ts ↔ ∃ a b, a ∈ ts ∧ b ∈ ts ∧ a ≠ b ∧ p = [a, b] := by
  unfold pairsM rowM
  simp only [List.mem_flatMap, List.mem_map, List.mem_filter, decide_eq_true_eq]
  constructor
  · rintro ⟨a, ha, b, ⟨hb, ne⟩, rfl⟩; exact ⟨a, b, ha, hb, ne, rfl⟩
  · rintro ⟨a, b, ha, hb, ne, rfl⟩; exact ⟨a, ha, b, ⟨hb, ne⟩, rfl⟩
theorem mem_foursM {ts : List Int} {p : List Int} : p ∈ foursM (pairsM ts) ↔ ∃ a b c d, (a ∈ ts ∧ b ∈ ts ∧ c ∈ ts ∧ d ∈ ts) ∧ a ≠ b ∧ c ≠ d ∧ a ≠ c ∧ a ≠ d ∧ b ≠ c ∧ b ≠ d ∧ p = [a, b, c, d] := by
  unfold foursM rowF okB
  simp only [List.mem_flatMap, List.mem_map, List.mem_filter, Bool.and_eq_true, decide_eq_true_eq]
  constructor
  · rintro ⟨f, hf, b, ⟨hb, n1, n2⟩, rfl⟩
    obtain ⟨x, y, hx, hy, ne, rfl⟩ := mem_pairsM.mp hf
    obtain ⟨u, v, hu, hv, ne2, rfl⟩ := mem_pairsM.mp hb
    simp only [List.getD_cons_zero, List.getD_cons_succ, List.mem_cons, List.not_mem_nil, or_false, not_or] at n1 n2
    exact ⟨x, y, u, v, ⟨hx, hy, hu, hv⟩, ne, ne2, fun e => n1.1 e.symm, fun e => n2.1 e.symm, fun e => n1.2 e.symm, fun e => n2.2 e.symm, rfl⟩
  · rintro ⟨a, b, c, d, ⟨ha, hb, hc, hd⟩, n1, n2, n3, n4, n5, n6, rfl⟩
    refine ⟨[a, b], mem_pairsM.mpr ⟨a, b, ha, hb, n1, rfl⟩, [c, d], ⟨mem_pairsM.mpr ⟨c, d, hc, hd, n2, rfl⟩, ?_, ?_⟩, rfl⟩
    · simp only [List.getD_cons_zero, List.mem_cons, List.not_mem_nil, or_false, not_or]; exact ⟨fun e => n3 e.symm, fun e => n5 e.symm⟩
    · simp only [List.getD_cons_zero, List.getD_cons_succ, List.mem_cons, List.not_mem_nil, or_false, not_or]; exact ⟨fun e => n4 e.symm, fun e => n6 e.symm⟩
theorem allT_train {ts : List Int} (lo : ∀ v ∈ ts, 10 ≤ v) (hi : ∀ v ∈ ts, v ≤ 127) : ∀ t ∈ allT ts, Train t := fun t ht => by
  rcases List.mem_append.mp ht with h | h
  · obtain ⟨a, b, ha, hb, _, rfl⟩ := mem_pairsM.mp h
    refine ⟨.inl rfl, fun v hv => ?_, fun v hv => ?_⟩ <;> simp only [List.mem_cons, List.not_mem_nil, or_false] at hv <;> rcases hv with rfl | rfl
    · exact lo _ ha
    · exact lo _ hb
    · exact hi _ ha
    · exact hi _ hb
  · obtain ⟨a, b, c, d, ⟨ha, hb, hc, hd⟩, _, _, _, _, _, _, rfl⟩ := mem_foursM.mp h
    refine ⟨.inr rfl, fun v hv => ?_, fun v hv => ?_⟩ <;> simp only [List.mem_cons, List.not_mem_nil, or_false] at hv <;> rcases hv with rfl | rfl | rfl | rfl
    · exact lo _ ha
    · exact lo _ hb
    · exact lo _ hc
    · exact lo _ hd
    · exact hi _ ha
    · exact hi _ hb
    · exact hi _ hc
    · exact hi _ hd
theorem paired_app {H : Hp} : ∀ {r1 r2 : List Addr} {t1 t2 : List (List Int)}, Paired (fun r t => H r = some (.tup (t.map V.int))) r1 t1 → Paired (fun r t => H r = some (.tup (t.map V.int))) r2 t2 → Paired (fun r t => H r = some (.tup (t.map V.int))) (r1 ++ r2) (t1 ++ t2)
  | _, _, _, _, .nil, h => h
  | _, _, _, _, .cons h t, h2 => .cons h (paired_app t h2)
def pool : List Int := [20, 30, 40, 50, 60, 80, 100, 120, 90, 45, 24, 36]
theorem pool_nd : pool.Nodup := by decide
theorem pool_in : ∀ v ∈ pool, 10 ≤ v ∧ v ≤ 127 := by decide
theorem pool_at {i : Int} (h0 : 0 ≤ i) (h1 : i < 12) : ∃ v : Int, atI (pool.map V.int) i = some (.int v) ∧ pool[i.toNat]? = some v ∧ 10 ≤ v ∧ v ≤ 127 := by
  have hk : i.toNat < pool.length := by show i.toNat < 12; omega
  refine ⟨pool[i.toNat], ?_, List.getElem?_eq_getElem hk, pool_in _ (List.getElem_mem hk)⟩
  have ek : i = ((i.toNat : Nat) : Int) := by omega
  have := atI_nat (xs := pool.map V.int) (j := i.toNat) (v := .int pool[i.toNat]) (by rw [List.getElem?_map, List.getElem?_eq_getElem hk] <;> rfl)
  rw [← ek] at this
  exact this
theorem pool_inj {i j : Nat} {v : Int} (h : pool[i]? = some v) (g : pool[j]? = some v) : i = j := by
  obtain ⟨a1, a2⟩ := List.getElem?_eq_some_iff.mp h
  obtain ⟨b1, b2⟩ := List.getElem?_eq_some_iff.mp g
  have nd := pool_nd
  exact (List.getElem_inj nd).mp (a2.trans b2.symm)
theorem perm_erase {l : List Int} : ∀ {k : Nat} {v : Int}, l[k]? = some v → (v :: l.eraseIdx k).Perm l := by
  induction l with
  | nil => intro k v h; simp at h
  | cons a r ih =>
    intro k v h
    cases k with
    | zero => simp at h; subst h; exact List.Perm.refl _
    | succ k =>
      have h' : r[k]? = some v := by simpa using h
      have := ih h'
      show (v :: a :: r.eraseIdx k).Perm (a :: r)
      exact (List.Perm.swap a v _).trans (this.cons a)
theorem map_eraseIdx (l : List Int) : ∀ k : Nat, (l.map V.int).eraseIdx k = (l.eraseIdx k).map V.int := by
  induction l with
  | nil => intro k; rfl
  | cons a r ih =>
    intro k
    cases k with
    | zero => rfl
    | succ k => show V.int a :: (r.map V.int).eraseIdx k = _; rw [ih k]; rfl
end My

/-! choosing among trains: plain mathematics -/
namespace My
open PySem L2 Mt
theorem fr_lt_le {a b c d e f : Int} (hb : 0 < b) (hd : 0 < d) (_hf : 0 < f) (h1 : a * d < c * b) (h2 : c * f ≤ e * d) : a * f < e * b := by
  have x1 : a * d * f < c * b * f := Int.mul_lt_mul_of_pos_right h1 _hf
  have x2 : c * f * b ≤ e * d * b := Int.mul_le_mul_of_nonneg_right h2 (Int.le_of_lt hb)
  have e1 : a * d * f = a * f * d := by rw [Int.mul_assoc, Int.mul_comm d f, ← Int.mul_assoc]
  have e2 : c * b * f = c * f * b := by rw [Int.mul_assoc, Int.mul_comm b f, ← Int.mul_assoc]
  have e3 : e * d * b = e * b * d := by rw [Int.mul_assoc, Int.mul_comm d b, ← Int.mul_assoc]
  have : a * f * d < e * b * d := by omega
  exact Int.lt_of_mul_lt_mul_right this (Int.le_of_lt hd)
theorem fr_le_lt {a b c d e f : Int} (hb : 0 < b) (hd : 0 < d) (hf : 0 < f) (h1 : a * d ≤ c * b) (h2 : c * f < e * d) : a * f < e * b := by
  have x1 : a * d * f ≤ c * b * f := Int.mul_le_mul_of_nonneg_right h1 (Int.le_of_lt hf)
  have x2 : c * f * b < e * d * b := Int.mul_lt_mul_of_pos_right h2 hb
  have e1 : a * d * f = a * f * d := by rw [Int.mul_assoc, Int.mul_comm d f, ← Int.mul_assoc]
  have e2 : c * b * f = c * f * b := by rw [Int.mul_assoc, Int.mul_comm b f, ← Int.mul_assoc]
  have e3 : e * d * b = e * b * d := by rw [Int.mul_assoc, Int.mul_comm d b, ← Int.mul_assoc]
  have : a * f * d < e * b * d := by omega
  exact Int.lt_of_mul_lt_mul_right this (Int.le_of_lt hd)
theorem fr_eq {a b c d e f : Int} (hd : 0 < d) (h1 : a * d = c * b) (h2 : c * f = e * d) : a * f = e * b := by
  have e1 : a * d * f = a * f * d := by rw [Int.mul_assoc, Int.mul_comm d f, ← Int.mul_assoc]
  have e2 : c * b * f = c * f * b := by rw [Int.mul_assoc, Int.mul_comm b f, ← Int.mul_assoc]
  have e3 : e * d * b = e * b * d := by rw [Int.mul_assoc, Int.mul_comm d b, ← Int.mul_assoc]
  have : a * f * d = e * b * d := by rw [← e1, ← e3, h1, e2, h2]
  exact Int.eq_of_mul_eq_mul_right (Int.ne_of_gt hd) this
/-- how far a over b lies from p over q, times q -/
def gapF (a b p q : Int) : Int := if a * q - p * b < 0 then -(a * q - p * b) else a * q - p * b
theorem gap_nn (a b p q : Int) : 0 ≤ gapF a b p q := by unfold gapF; split <;> omega
theorem gap_zero {a b p q : Int} : gapF a b p q = 0 ↔ a * q = p * b := by unfold gapF; split <;> omega
/-- the first suits better: nearer, or as near and less -/
def Bt (a b c d p q : Int) : Prop := gapF a b p q * d < gapF c d p q * b ∨ (gapF a b p q * d = gapF c d p q * b ∧ a * d < c * b)
theorem Bt.asym {a b c d p q : Int} (h : Bt a b c d p q) : ¬ Bt c d a b p q := by
  rintro (g | ⟨g1, g2⟩)
  · rcases h with h | ⟨h1, _⟩ <;> omega
  · rcases h with h | ⟨_, h2⟩ <;> omega
theorem Bt.step {a b c d e f p q : Int} (hb : 0 < b) (hd : 0 < d) (hf : 0 < f) (h1 : ¬ Bt a b c d p q) (h2 : Bt e f c d p q) : Bt e f a b p q := by
  -- c over d is not after a over b; e over f is ahead of c over d
  have n1 : ¬ gapF a b p q * d < gapF c d p q * b := fun z => h1 (.inl z)
  have le : gapF c d p q * b ≤ gapF a b p q * d := by omega
  rcases h2 with h2 | ⟨h2, h3⟩
  · exact .inl (fr_lt_le hf hd hb h2 le)
  · by_cases z : gapF c d p q * b = gapF a b p q * d
    · refine .inr ⟨fr_eq hd h2 z, ?_⟩
      have n2 : ¬ a * d < c * b := fun y => h1 (.inr ⟨z.symm, y⟩)
      exact fr_lt_le hf hd hb h3 (by omega)
    · exact .inl (fr_le_lt hf hd hb (Int.le_of_eq h2) (show gapF c d p q * b < gapF a b p q * d by omega))
theorem Bt.ne {a b c d p q : Int} (e : a * d = c * b) (hb : 0 < b) (hd : 0 < d) : ¬ Bt a b c d p q := by
  have g : gapF a b p q * d = gapF c d p q * b := by
    have e1 : (a * q - p * b) * d = (c * q - p * d) * b := by
      rw [Int.sub_mul, Int.sub_mul]
      have x1 : a * q * d = c * q * b := by rw [Int.mul_assoc, Int.mul_comm q d, ← Int.mul_assoc, e, Int.mul_assoc, Int.mul_comm b q, ← Int.mul_assoc]
      have x2 : p * b * d = p * d * b := by rw [Int.mul_assoc, Int.mul_comm b d, ← Int.mul_assoc]
      rw [x1, x2]
    unfold gapF
    by_cases s1 : a * q - p * b < 0
    · have : c * q - p * d < 0 := by
        have := Int.mul_neg_of_neg_of_pos s1 hd
        rw [e1] at this
        rcases Int.lt_or_le (c * q - p * d) 0 with l | l
        · exact l
        · have := Int.mul_nonneg l (Int.le_of_lt hb); omega
      rw [if_pos s1, if_pos this, Int.neg_mul, Int.neg_mul, e1]
    · have : ¬ c * q - p * d < 0 := fun l => by
        have z := Int.mul_neg_of_neg_of_pos l hb
        rw [← e1] at z
        have := Int.mul_nonneg (show 0 ≤ a * q - p * b by omega) (Int.le_of_lt hd); omega
      rw [if_neg s1, if_neg this, e1]
  rintro (h | ⟨_, h⟩) <;> omega
instance (a b c d p q : Int) : Decidable (Bt a b c d p q) := by unfold Bt; exact inferInstance
/-- the choice: it yields only to one that suits better -/
def stepM (p q : Int) (c t : List Int) : List Int := if Bt (ratT t) (ratB t) (ratT c) (ratB c) p q then t else c
structure Best (p q : Int) (tss : List (List Int)) (c : List Int) : Prop where
  ex : ∃ u v, tss = u ++ c :: v ∧ (∀ t ∈ u, Bt (ratT c) (ratB c) (ratT t) (ratB t) p q) ∧ ∀ t ∈ v, ¬ Bt (ratT t) (ratB t) (ratT c) (ratB c) p q
theorem Best.more {p q : Int} {tss : List (List Int)} {c t : List Int} (h : Best p q tss c) (pos : ∀ x ∈ tss, 0 < ratB x) (pt : 0 < ratB t) : Best p q (tss ++ [t]) (stepM p q c t) := by
  obtain ⟨u, v, rfl, h1, h2⟩ := h.ex
  have pc : 0 < ratB c := pos c (by simp)
  unfold stepM
  split
  · rename_i b
    refine ⟨u ++ c :: v, [], rfl, fun x hx => ?_, by simp⟩
    have px : 0 < ratB x := pos x hx
    rcases List.mem_append.mp hx with z | z
    · exact Bt.step px pc pt (h1 x z).asym b
    · rcases List.mem_cons.mp z with z | z
      · rw [z]; exact b
      · exact Bt.step px pc pt (h2 x z) b
  · rename_i b
    refine ⟨u, v ++ [t], by simp, h1, fun x hx => ?_⟩
    rcases List.mem_append.mp hx with z | z
    · exact h2 x z
    · rw [List.mem_singleton.mp z]; exact b
/-- where some train gives just the pitch, the choice does, and none ahead of it does -/
theorem Best.exact {p q : Int} {tss : List (List Int)} {c e : List Int} (h : Best p q tss c) (hq : 0 < q) (pos : ∀ x ∈ tss, 0 < ratB x) (he : e ∈ tss) (ee : ratT e * q = p * ratB e) :
    ratT c * q = p * ratB c ∧ ∃ u v, tss = u ++ c :: v ∧ ∀ t ∈ u, ¬ ratT t * q = p * ratB t := by
  obtain ⟨u, v, rfl, h1, h2⟩ := h.ex
  have pc : 0 < ratB c := pos c (by simp)
  have pe := pos e he
  have ge : gapF (ratT e) (ratB e) p q = 0 := gap_zero.mpr ee
  have gc : gapF (ratT c) (ratB c) p q = 0 := by
    have nn := gap_nn (ratT c) (ratB c) p q
    rcases List.mem_append.mp he with z | z
    · have b := h1 e z
      unfold Bt at b
      rw [ge, Int.zero_mul] at b
      have m := Int.mul_nonneg nn (Int.le_of_lt pe)
      rcases b with b | ⟨b, _⟩
      · omega
      · rcases Int.mul_eq_zero.mp b with z | z <;> omega
    · rcases List.mem_cons.mp z with z | z
      · rw [← z]; exact ge
      · have b := h2 e z
        rcases Int.lt_or_le 0 (gapF (ratT c) (ratB c) p q) with l | l
        · exact absurd (.inl (by rw [ge, Int.zero_mul]; exact Int.mul_pos l pe)) b
        · omega
  refine ⟨gap_zero.mp gc, u, v, rfl, fun t ht et => ?_⟩
  have b := h1 t ht
  have ptt := pos t (by simp [ht])
  exact Bt.ne (fr_eq hq (gap_zero.mp gc) et.symm) pc ptt b

/-! the order of trains -/
def Lx (x y : List Int) : Prop := HT.lexLt x y = true
theorem lx2 {a b c d : Int} : Lx [a, b] [c, d] ↔ a < c ∨ (a = c ∧ b < d) := by
  unfold Lx
  rw [HT.lexLt_cons, HT.lexLt_cons, HT.lexLt_nil_nil]
  by_cases h1 : a = c
  · rw [if_pos h1]
    by_cases h2 : b = d
    · rw [if_pos h2]; constructor
      · intro z; cases z
      · omega
    · rw [if_neg h2, decide_eq_true_eq]; omega
  · rw [if_neg h1, decide_eq_true_eq]; omega
theorem lx_cons {a c : Int} {x y : List Int} : Lx (a :: x) (c :: y) ↔ a < c ∨ (a = c ∧ Lx x y) := by
  unfold Lx
  rw [HT.lexLt_cons]
  by_cases h1 : a = c
  · rw [if_pos h1]
    constructor
    · intro z; exact .inr ⟨h1, z⟩
    · rintro (z | ⟨_, z⟩)
      · omega
      · exact z
  · rw [if_neg h1, decide_eq_true_eq]
    constructor
    · intro z; exact .inl z
    · rintro (z | ⟨z, _⟩)
      · exact z
      · exact absurd z h1
theorem lx4 {a b c d e f g h : Int} : Lx [a, b, c, d] [e, f, g, h] ↔ a < e ∨ (a = e ∧ (b < f ∨ (b = f ∧ (c < g ∨ (c = g ∧ d < h))))) := by
  rw [lx_cons, lx_cons, lx2]
def Bef (x y : List Int) : Prop := x.length < y.length ∨ (x.length = y.length ∧ Lx x y)
theorem pairs_sorted {sw : List Int} (h : sw.Pairwise (· < ·)) : (pairsM sw).Pairwise Lx := by
  unfold pairsM
  rw [List.pairwise_flatMap]
  refine ⟨fun a _ => ?_, h.imp fun {a a'} l x hx y hy => ?_⟩
  · unfold rowM
    exact List.Pairwise.map _ (fun b b' l => lx2.mpr (.inr ⟨rfl, l⟩)) (h.filter _)
  · unfold rowM at hx hy
    simp only [List.mem_map, List.mem_filter] at hx hy
    obtain ⟨b, _, rfl⟩ := hx
    obtain ⟨b', _, rfl⟩ := hy
    exact lx2.mpr (.inl l)
theorem fours_sorted {sw : List Int} (h : sw.Pairwise (· < ·)) : (foursM (pairsM sw)).Pairwise Lx := by
  have hp := pairs_sorted h
  have hm : (pairsM sw).Pairwise fun x y => x ∈ pairsM sw ∧ y ∈ pairsM sw ∧ Lx x y := by
    rw [List.pairwise_iff_getElem] at hp ⊢
    intro i j hi hj l
    exact ⟨List.getElem_mem hi, List.getElem_mem hj, hp i j hi hj l⟩
  unfold foursM
  rw [List.pairwise_flatMap]
  refine ⟨fun f hf => ?_, hm.imp fun {f f'} l x hx y hy => ?_⟩
  · obtain ⟨a, b, _, _, _, rfl⟩ := mem_pairsM.mp hf
    unfold rowF
    refine List.Pairwise.map _ (fun x y l => ?_) (hp.filter _)
    exact lx_cons.mpr (.inr ⟨rfl, lx_cons.mpr (.inr ⟨rfl, l⟩)⟩)
  · obtain ⟨h1, h2, l⟩ := l
    obtain ⟨a, b, _, _, _, rfl⟩ := mem_pairsM.mp h1
    obtain ⟨c, d, _, _, _, rfl⟩ := mem_pairsM.mp h2
    unfold rowF at hx hy
    simp only [List.mem_map, List.mem_filter] at hx hy
    obtain ⟨b1, _, rfl⟩ := hx
    obtain ⟨b2, _, rfl⟩ := hy
    rcases lx2.mp l with z | ⟨z1, z2⟩
    · exact lx_cons.mpr (.inl z)
    · exact lx_cons.mpr (.inr ⟨z1, lx_cons.mpr (.inl z2)⟩)
theorem len_pairs {sw x : List Int} (h : x ∈ pairsM sw) : x.length = 2 := by
  obtain ⟨a, b, _, _, _, rfl⟩ := mem_pairsM.mp h; rfl
theorem len_fours {sw x : List Int} (h : x ∈ foursM (pairsM sw)) : x.length = 4 := by
  obtain ⟨a, b, c, d, _, _, _, _, _, _, _, rfl⟩ := mem_foursM.mp h; rfl
theorem all_sorted {sw : List Int} (h : sw.Pairwise (· < ·)) : (allT sw).Pairwise Bef := by
  unfold allT
  rw [List.pairwise_append]
  refine ⟨?_, ?_, fun a ha b hb => .inl (by rw [len_pairs ha, len_fours hb]; decide)⟩
  · have hp := pairs_sorted h
    rw [List.pairwise_iff_getElem] at hp ⊢
    intro i j hi hj l
    exact .inr ⟨by rw [len_pairs (List.getElem_mem hi), len_pairs (List.getElem_mem hj)], hp i j hi hj l⟩
  · have hp := fours_sorted h
    rw [List.pairwise_iff_getElem] at hp ⊢
    intro i j hi hj l
    exact .inr ⟨by rw [len_fours (List.getElem_mem hi), len_fours (List.getElem_mem hj)], hp i j hi hj l⟩
/-- a train gives a pitch -/
def Ex (p q : Int) (t : List Int) : Prop := ratT t * q = p * ratB t
/-- the first train that gives the pitch -/
structure First (sw : List Int) (p q : Int) (c : List Int) : Prop where
  mem : c ∈ allT sw
  ex : Ex p q c
  least : ∀ y ∈ allT sw, Ex p q y → y = c ∨ Bef c y
theorem first_of {sw : List Int} {p q : Int} {c : List Int} (hs : sw.Pairwise (· < ·)) (u v : List (List Int)) (e : allT sw = u ++ c :: v) (hc : Ex p q c) (hu : ∀ t ∈ u, ¬ Ex p q t) : First sw p q c := by
  have hp := all_sorted hs
  rw [e] at hp
  refine ⟨by rw [e]; simp, hc, fun y hy ey => ?_⟩
  rw [e] at hy
  rcases List.mem_append.mp hy with z | z
  · exact absurd ey (hu y z)
  · rcases List.mem_cons.mp z with z | z
    · exact .inl z
    · exact .inr ((List.pairwise_cons.mp (List.pairwise_append.mp hp).2.1).1 y z)
theorem Lx.irr : ∀ x : List Int, ¬ Lx x x
  | [] => by unfold Lx; rw [HT.lexLt_nil_nil]; decide
  | a :: r => by
    rw [lx_cons]
    rintro (z | ⟨_, z⟩)
    · omega
    · exact Lx.irr r z
theorem Lx.as : ∀ {x y : List Int}, Lx x y → ¬ Lx y x
  | [], [], h => absurd h (Lx.irr _)
  | [], _ :: _, _ => by unfold Lx; rw [HT.lexLt_cons_nil]; decide
  | _ :: _, [], h => by unfold Lx at h; rw [HT.lexLt_cons_nil] at h; cases h
  | a :: r, c :: s, h => by
    rw [lx_cons] at h ⊢
    rcases h with h | ⟨h1, h2⟩
    · rintro (z | ⟨z, _⟩) <;> omega
    · rintro (z | ⟨_, z⟩)
      · omega
      · exact Lx.as h2 z
theorem First.uniq {sw : List Int} {p q : Int} {c d : List Int} (h : First sw p q c) (g : First sw p q d) : c = d := by
  rcases h.least d g.mem g.ex with z | z
  · exact z.symm
  · rcases g.least c h.mem h.ex with y | y
    · exact y
    · rcases z with z | ⟨z1, z2⟩
      · rcases y with y | ⟨y1, _⟩ <;> omega
      · rcases y with y | ⟨_, y2⟩
        · omega
        · exact absurd y2 z2.as
/-- a first one of four rises in its drivers and in its driven wheels: so only such need be looked at -/
theorem first_four {sw : List Int} {p q a b c d : Int} (nop : ∀ x ∈ sw, ∀ y ∈ sw, x ≠ y → ¬ Ex p q [x, y]) (m : a ∈ sw ∧ b ∈ sw ∧ c ∈ sw ∧ d ∈ sw) (n1 : a ≠ b) (n2 : c ≠ d) (n3 : a < c) (n4 : a ≠ d) (n5 : b ≠ c) (n6 : b < d) (e : Ex p q [a, b, c, d])
    (least : ∀ a' b' c' d', a' ∈ sw → b' ∈ sw → c' ∈ sw → d' ∈ sw → a' ≠ b' → c' ≠ d' → a' < c' → a' ≠ d' → b' ≠ c' → b' < d' → Ex p q [a', b', c', d'] → ¬ Lx [a', b', c', d'] [a, b, c, d]) : First sw p q [a, b, c, d] := by
  refine ⟨List.mem_append_right _ (mem_foursM.mpr ⟨a, b, c, d, m, n1, n2, by omega, n4, n5, by omega, rfl⟩), e, fun y hy ey => ?_⟩
  rcases List.mem_append.mp hy with h | h
  · obtain ⟨x, z, hx, hz, ne, rfl⟩ := mem_pairsM.mp h
    exact absurd ey (nop x hx z hz ne)
  · obtain ⟨a', b', c', d', ⟨ha, hb, hc, hd⟩, k1, k2, k3, k4, k5, k6, rfl⟩ := mem_foursM.mp h
    -- put the drivers and the driven wheels in order: it comes no later
    have ex2 : ∀ x y z t : Int, Ex p q [x, y, z, t] ↔ x * z * q = p * (y * t) := fun _ _ _ _ => Iff.rfl
    rw [ex2] at ey
    have c1 : c' * a' = a' * c' := Int.mul_comm _ _
    have c2 : d' * b' = b' * d' := Int.mul_comm _ _
    by_cases o1 : a' < c' <;> by_cases o2 : b' < d'
    · have l := least a' b' c' d' ha hb hc hd k1 k2 o1 k4 k5 o2 ((ex2 ..).mpr ey)
      rw [lx4] at l
      by_cases eq : [a', b', c', d'] = [a, b, c, d]
      · exact .inl eq
      · refine .inr (.inr ⟨rfl, lx4.mpr ?_⟩)
        simp only [List.cons.injEq, and_true, not_and] at eq
        omega
    · have l := least a' d' c' b' ha hd hc hb k4 (by omega) o1 k1 (by omega) (by omega) ((ex2 ..).mpr (by rw [c2]; exact ey))
      rw [lx4] at l
      exact .inr (.inr ⟨rfl, lx4.mpr (by omega)⟩)
    · have l := least c' b' a' d' hc hb ha hd (by omega) (by omega) (by omega) k2 (by omega) o2 ((ex2 ..).mpr (by rw [c1]; exact ey))
      rw [lx4] at l
      exact .inr (.inr ⟨rfl, lx4.mpr (by omega)⟩)
    · have l := least c' d' a' b' hc hd ha hb k2 k1 (by omega) (by omega) (by omega) (by omega) ((ex2 ..).mpr (by rw [c1, c2]; exact ey))
      rw [lx4] at l
      exact .inr (.inr ⟨rfl, lx4.mpr (by omega)⟩)
theorem first_two {sw : List Int} {p q a b : Int} (ha : a ∈ sw) (hb : b ∈ sw) (ne : a ≠ b) (e : Ex p q [a, b]) (least : ∀ x ∈ sw, ∀ y ∈ sw, x ≠ y → Ex p q [x, y] → ¬ Lx [x, y] [a, b]) : First sw p q [a, b] := by
  refine ⟨List.mem_append_left _ (mem_pairsM.mpr ⟨a, b, ha, hb, ne, rfl⟩), e, fun y hy ey => ?_⟩
  rcases List.mem_append.mp hy with h | h
  · obtain ⟨x, z, hx, hz, n, rfl⟩ := mem_pairsM.mp h
    have l := least x hx z hz n ey
    by_cases eq : [x, z] = [a, b]
    · exact .inl eq
    · refine .inr (.inr ⟨rfl, ?_⟩)
      rw [lx2] at l ⊢
      simp only [List.cons.injEq, and_true, not_and] at eq
      omega
  · exact .inr (.inl (by rw [len_fours h]; show 2 < 4; decide))
theorem strict_of {sw ws : List Int} (hp : sw.Perm ws) (nd : ws.Nodup) (hs : sw.Pairwise (· ≤ ·)) : sw.Pairwise (· < ·) := by
  have nd' : sw.Nodup := hp.nodup_iff.mpr nd
  exact (hs.and nd').imp fun {a b} h => by have := h.1; have := h.2; omega
theorem sorted_same {a b ws : List Int} (ha : a.Perm ws) (hb : b.Perm ws) (sa : a.Pairwise (· ≤ ·)) (sb : b.Pairwise (· ≤ ·)) : a = b :=
  List.Perm.eq_of_pairwise (fun _ _ _ _ h1 h2 => Int.le_antisymm h1 h2) sa sb (ha.trans hb.symm)
structure Pit (H : Hp) (r : Addr) (p q : Int) : Prop where
  at_ : H r = some (.tup [.int p, .int q])
  bp : Bd 300 p
  bq : Bd 300 q
  q1 : 1 ≤ q
theorem Pit.mono {H H' : Hp} {r : Addr} {p q : Int} (h : Pit H r p q) (s : Same H H') : Pit H' r p q := ⟨s _ _ h.at_, h.bp, h.bq, h.q1⟩
theorem Train.bT {t : List Int} (R : Train t) : Bd 200 (ratT t) := by obtain ⟨h1, h2, _, _⟩ := R.in; exact Bd.of60 (by omega) (by omega)
theorem Train.bB {t : List Int} (R : Train t) : Bd 200 (ratB t) := by obtain ⟨_, _, h1, h2⟩ := R.in; exact Bd.of60 (by omega) (by omega)
def exB (p q : Int) (t : List Int) : Bool := decide (ratT t * q = p * ratB t)
theorem paired_one {H : Hp} {r : Addr} {t : List Int} (h : H r = some (.tup (t.map V.int))) : Paired (fun r t => H r = some (.tup (t.map V.int))) [r] [t] := .cons h .nil
theorem pair_upd1 {H : Hp} {D : Addr} {xs : List V} {o' : HO} (hD : H D = some (.lst xs)) : ∀ {rs : List Addr} {tss : List (List Int)}, Paired (fun r t => H r = some (.tup (t.map V.int))) rs tss →
    Paired (fun q t => (upd H D o') q = some (.tup (t.map V.int))) rs tss
  | _, _, .nil => .nil
  | _, _, .cons h t => .cons (by rw [upd_ne (ne_of h hD (by intro z; cases z))]; exact h) (pair_upd1 hD t)
end My

/-! counting trains -/
namespace My
open PySem L2 Mt
def S (ws : List Int) (f : Int → Nat) : Nat := (ws.map f).sum
theorem S_nil (f : Int → Nat) : S [] f = 0 := rfl
theorem S_cons (a : Int) (ws : List Int) (f : Int → Nat) : S (a :: ws) f = f a + S ws f := by unfold S; rw [List.map_cons, List.sum_cons]
theorem S_add (ws : List Int) (f g : Int → Nat) : S ws (fun a => f a + g a) = S ws f + S ws g := by
  induction ws with
  | nil => rfl
  | cons a r ih => rw [S_cons, S_cons, S_cons, ih]; omega
theorem S_mul (ws : List Int) (k : Nat) (f : Int → Nat) : S ws (fun a => k * f a) = k * S ws f := by
  induction ws with
  | nil => rfl
  | cons a r ih => rw [S_cons, S_cons, ih, Nat.mul_add]
theorem S_zero (ws : List Int) : S ws (fun _ => 0) = 0 := by
  induction ws with
  | nil => rfl
  | cons a r ih => rw [S_cons, ih]
theorem S_congr (ws : List Int) {f g : Int → Nat} (h : ∀ a ∈ ws, f a = g a) : S ws f = S ws g := by
  induction ws with
  | nil => rfl
  | cons a r ih => rw [S_cons, S_cons, h a (by simp), ih fun b hb => h b (by simp [hb])]
theorem S_comm (ws vs : List Int) (f : Int → Int → Nat) : S ws (fun a => S vs (f a)) = S vs (fun b => S ws (fun a => f a b)) := by
  induction ws with
  | nil => rw [S_nil]; exact (S_zero vs).symm
  | cons a r ih =>
    rw [S_cons, ih, ← S_add]
    exact S_congr vs fun b _ => (S_cons a r fun a => f a b).symm
theorem S_perm {ws vs : List Int} (h : ws.Perm vs) (f : Int → Nat) : S ws f = S vs f := by
  induction h with
  | nil => rfl
  | cons x _ ih => rw [S_cons, S_cons, ih]
  | swap x y l => rw [S_cons, S_cons, S_cons, S_cons]; omega
  | trans _ _ i1 i2 => rw [i1, i2]
theorem S_half (ws : List Int) (G : Int → Int → Nat) (sym : ∀ a c, G a c = G c a) (dg : ∀ a, G a a = 0) : S ws (fun a => S ws (G a)) = 2 * S ws (fun a => S ws fun c => if a < c then G a c else 0) := by
  have e1 : S ws (fun a => S ws (G a)) = S ws (fun a => S ws fun c => if a < c then G a c else 0) + S ws (fun a => S ws fun c => if c < a then G a c else 0) := by
    rw [← S_add]
    refine S_congr ws fun a _ => ?_
    rw [← S_add]
    refine S_congr ws fun c _ => ?_
    rcases Int.lt_trichotomy a c with l | l | l
    · rw [if_pos l, if_neg (by omega), Nat.add_zero]
    · subst l; rw [if_neg (by omega), dg]
    · rw [if_neg (by omega), if_pos l, Nat.zero_add]
  have e2 : S ws (fun a => S ws fun c => if c < a then G a c else 0) = S ws (fun a => S ws fun c => if a < c then G a c else 0) := by
    rw [S_comm]
    refine S_congr ws fun a _ => S_congr ws fun c _ => ?_
    rw [sym c a]
  rw [e1, e2]; omega
/-- a count over trains as a sum -/
def one (c : Prop) [Decidable c] : Nat := if c then 1 else 0
theorem cnt_flat {α : Type} (ws : List Int) (f : Int → List α) (p : α → Bool) : (ws.flatMap f).countP p = S ws fun a => (f a).countP p := by
  induction ws with
  | nil => rfl
  | cons a r ih => rw [List.flatMap_cons, List.countP_append, ih, S_cons]
theorem cnt_row (ts : List Int) (a : Int) (p : List Int → Bool) : (rowM ts a).countP p = S ts fun b => if a ≠ b then (if p [a, b] = true then 1 else 0) else 0 := by
  unfold rowM
  induction ts with
  | nil => rfl
  | cons b r ih =>
    rw [List.filter_cons, S_cons]
    by_cases h : a ≠ b
    · rw [if_pos (decide_eq_true h), List.map_cons, List.countP_cons, ih, if_pos h]; omega
    · rw [if_neg (by simpa using h), ih, if_neg h, Nat.zero_add]
theorem cnt_pairs (ts : List Int) (p : List Int → Bool) : (pairsM ts).countP p = S ts fun a => S ts fun b => if a ≠ b then (if p [a, b] = true then 1 else 0) else 0 := by
  unfold pairsM
  rw [cnt_flat]
  exact S_congr ts fun a _ => cnt_row ts a p
/-- the sum of a number over all pairs -/
theorem sum_pairs (ts : List Int) (h : List Int → Nat) : ((pairsM ts).map h).sum = S ts fun a => S ts fun b => if a ≠ b then h [a, b] else 0 := by
  unfold pairsM
  have row : ∀ (l : List Int) (a : Int), (((l.filter fun b => decide (a ≠ b)).map fun b => [a, b]).map h).sum = S l fun b => if a ≠ b then h [a, b] else 0 := by
    intro l a
    induction l with
    | nil => rfl
    | cons b r ih =>
      rw [List.filter_cons, S_cons]
      by_cases z : a ≠ b
      · rw [if_pos (decide_eq_true z), List.map_cons, List.map_cons, List.sum_cons, ih, if_pos z]
      · rw [if_neg (by simpa using z), ih, if_neg z, Nat.zero_add]
  have all : ∀ l : List Int, ((l.flatMap (rowM ts)).map h).sum = S l fun a => S ts fun b => if a ≠ b then h [a, b] else 0 := by
    intro l
    induction l with
    | nil => rfl
    | cons a r ih =>
      rw [List.flatMap_cons, List.map_append, List.sum_append_nat, ih, S_cons]
      rw [show ((rowM ts a).map h).sum = _ from row ts a]
  exact all ts
theorem cnt_flatL (l : List (List Int)) (f : List Int → List (List Int)) (p : List Int → Bool) : (l.flatMap f).countP p = (l.map fun x => (f x).countP p).sum := by
  induction l with
  | nil => rfl
  | cons a r ih => rw [List.flatMap_cons, List.countP_append, ih, List.map_cons, List.sum_cons]
theorem cnt_rowF (ps : List (List Int)) (f : List Int) (p : List Int → Bool) : (rowF ps f).countP p = (ps.map fun b => if okB f b = true then (if p (f ++ b) = true then 1 else 0) else 0).sum := by
  unfold rowF
  induction ps with
  | nil => rfl
  | cons b r ih =>
    rw [List.filter_cons, List.map_cons, List.sum_cons]
    by_cases h : okB f b = true
    · rw [if_pos h, List.map_cons, List.countP_cons, ih, if_pos h]; omega
    · rw [if_neg h, ih, if_neg h, Nat.zero_add]
/-- all four are different -/
def Dif (a b c d : Int) : Prop := a ≠ b ∧ c ≠ d ∧ a ≠ c ∧ a ≠ d ∧ b ≠ c ∧ b ≠ d
instance (a b c d : Int) : Decidable (Dif a b c d) := by unfold Dif; exact inferInstance
theorem cnt_fours (ts : List Int) (p : List Int → Bool) : (foursM (pairsM ts)).countP p = S ts fun a => S ts fun b => S ts fun c => S ts fun d => if Dif a b c d ∧ p [a, b, c, d] = true then 1 else 0 := by
  unfold foursM
  rw [cnt_flatL, sum_pairs]
  refine S_congr ts fun a _ => S_congr ts fun b _ => ?_
  by_cases n1 : a ≠ b
  · rw [if_pos n1, cnt_rowF, sum_pairs]
    refine S_congr ts fun c _ => S_congr ts fun d _ => ?_
    have ok : okB [a, b] [c, d] = true ↔ (a ≠ c ∧ a ≠ d ∧ b ≠ c ∧ b ≠ d) := by
      show (decide (c ∉ [a, b]) && decide (d ∉ [a, b])) = true ↔ _
      rw [Bool.and_eq_true, decide_eq_true_eq, decide_eq_true_eq]
      simp only [List.mem_cons, List.not_mem_nil, or_false, not_or]
      constructor
      · rintro ⟨⟨h1, h2⟩, h3, h4⟩; exact ⟨fun e => h1 e.symm, fun e => h3 e.symm, fun e => h2 e.symm, fun e => h4 e.symm⟩
      · rintro ⟨h1, h2, h3, h4⟩; exact ⟨⟨fun e => h1 e.symm, fun e => h3 e.symm⟩, fun e => h2 e.symm, fun e => h4 e.symm⟩
    show (if c ≠ d then (if okB [a, b] [c, d] = true then (if p [a, b, c, d] = true then 1 else 0) else 0) else 0) = _
    by_cases n2 : c ≠ d
    · rw [if_pos n2]
      by_cases o : okB [a, b] [c, d] = true
      · obtain ⟨h1, h2, h3, h4⟩ := ok.mp o
        rw [if_pos o]
        by_cases e : p [a, b, c, d] = true
        · rw [if_pos e, if_pos ⟨⟨n1, n2, h1, h2, h3, h4⟩, e⟩]
        · rw [if_neg e, if_neg fun z => e z.2]
      · rw [if_neg o, if_neg fun z => o (ok.mpr ⟨z.1.2.2.1, z.1.2.2.2.1, z.1.2.2.2.2.1, z.1.2.2.2.2.2⟩)]
    · rw [if_neg n2, if_neg fun z => n2 z.1.2.1]
  · rw [if_neg n1]
    refine Eq.symm (Eq.trans (S_congr ts fun c _ => ?_) (S_zero ts))
    refine Eq.trans (S_congr ts fun d _ => ?_) (S_zero ts)
    rw [if_neg fun z => n1 z.1.1]
/-- the fours whose drivers and whose driven wheels rise -/
def risM (ws : List Int) (p : Int → Int → Bool) : Nat := S ws fun a => S ws fun c => if a < c then (S ws fun b => S ws fun d => if b < d then (if Dif a b c d ∧ p (a * c) (b * d) = true then 1 else 0) else 0) else 0
theorem four_times (ts : List Int) (p : Int → Int → Bool) : (S ts fun a => S ts fun b => S ts fun c => S ts fun d => if Dif a b c d ∧ p (a * c) (b * d) = true then 1 else 0) = 4 * risM ts p := by
  have e0 : (S ts fun a => S ts fun b => S ts fun c => S ts fun d => if Dif a b c d ∧ p (a * c) (b * d) = true then 1 else 0) = S ts fun a => S ts fun c => S ts fun b => S ts fun d => if Dif a b c d ∧ p (a * c) (b * d) = true then 1 else 0 :=
    S_congr ts fun a _ => S_comm ts ts fun b c => S ts fun d => if Dif a b c d ∧ p (a * c) (b * d) = true then 1 else 0
  rw [e0, S_half ts (fun a c => S ts fun b => S ts fun d => if Dif a b c d ∧ p (a * c) (b * d) = true then 1 else 0)]
  · have e1 : ∀ a c, (S ts fun b => S ts fun d => if Dif a b c d ∧ p (a * c) (b * d) = true then 1 else 0) = 2 * S ts fun b => S ts fun d => if b < d then (if Dif a b c d ∧ p (a * c) (b * d) = true then 1 else 0) else 0 := fun a c => by
      refine S_half ts (fun b d => if Dif a b c d ∧ p (a * c) (b * d) = true then 1 else 0) (fun b d => ?_) fun b => ?_
      · have : (Dif a b c d ∧ p (a * c) (b * d) = true) ↔ (Dif a d c b ∧ p (a * c) (d * b) = true) := by
          rw [Int.mul_comm d b]
          unfold Dif
          constructor
          · rintro ⟨⟨h1, h2, h3, h4, h5, h6⟩, h7⟩; exact ⟨⟨h4, fun e => h5 e.symm, h3, h1, fun e => h2 e.symm, fun e => h6 e.symm⟩, h7⟩
          · rintro ⟨⟨h1, h2, h3, h4, h5, h6⟩, h7⟩; exact ⟨⟨h4, fun e => h5 e.symm, h3, h1, fun e => h2 e.symm, fun e => h6 e.symm⟩, h7⟩
        by_cases z : Dif a b c d ∧ p (a * c) (b * d) = true
        · rw [if_pos z, if_pos (this.mp z)]
        · rw [if_neg z, if_neg fun y => z (this.mpr y)]
      · rw [if_neg fun z => z.1.2.2.2.2.2 rfl]
    have e2 : (S ts fun a => S ts fun c => if a < c then (S ts fun b => S ts fun d => if Dif a b c d ∧ p (a * c) (b * d) = true then 1 else 0) else 0) = 2 * risM ts p := by
      unfold risM
      rw [← S_mul]
      refine S_congr ts fun a _ => ?_
      rw [← S_mul]
      refine S_congr ts fun c _ => ?_
      by_cases l : a < c
      · rw [if_pos l, if_pos l, e1]
      · rw [if_neg l, if_neg l]
    rw [e2]; omega
  · intro a c
    refine S_congr ts fun b _ => S_congr ts fun d _ => ?_
    have : (Dif a b c d ∧ p (a * c) (b * d) = true) ↔ (Dif c b a d ∧ p (c * a) (b * d) = true) := by
      rw [Int.mul_comm c a]
      unfold Dif
      constructor
      · rintro ⟨⟨h1, h2, h3, h4, h5, h6⟩, h7⟩; exact ⟨⟨fun e => h5 e.symm, h4, fun e => h3 e.symm, h2, fun e => h1 e.symm, h6⟩, h7⟩
      · rintro ⟨⟨h1, h2, h3, h4, h5, h6⟩, h7⟩; exact ⟨⟨fun e => h5 e.symm, h4, fun e => h3 e.symm, h2, fun e => h1 e.symm, h6⟩, h7⟩
    by_cases z : Dif a b c d ∧ p (a * c) (b * d) = true
    · rw [if_pos z, if_pos (this.mp z)]
    · rw [if_neg z, if_neg fun y => z (this.mpr y)]
  · intro a
    refine Eq.trans (S_congr ts fun b _ => ?_) (S_zero ts)
    refine Eq.trans (S_congr ts fun d _ => ?_) (S_zero ts)
    rw [if_neg fun z => z.1.2.2.1 rfl]
theorem ris_perm {sw ws : List Int} (h : sw.Perm ws) (p : Int → Int → Bool) : risM sw p = risM ws p := by
  unfold risM
  rw [S_perm h]
  refine S_congr ws fun a _ => ?_
  rw [S_perm h]
  refine S_congr ws fun c _ => ?_
  split
  · rw [S_perm h]
    exact S_congr ws fun b _ => S_perm h _
  · rfl
/-- how many trains of a shop give a pitch: the pairs, and four times the rising fours -/
theorem all_count {sw ws : List Int} (h : sw.Perm ws) (p : Int → Int → Bool) : (allT sw).countP (fun t => p (ratT t) (ratB t)) = (pairsM ws).countP (fun t => p (ratT t) (ratB t)) + 4 * risM ws p := by
  unfold allT
  rw [List.countP_append, cnt_fours, cnt_pairs, cnt_pairs]
  have e1 : (S sw fun a => S sw fun b => if a ≠ b then (if p (ratT [a, b]) (ratB [a, b]) = true then 1 else 0) else 0) = S ws fun a => S ws fun b => if a ≠ b then (if p (ratT [a, b]) (ratB [a, b]) = true then 1 else 0) else 0 := by
    rw [S_perm h]
    exact S_congr ws fun a _ => S_perm h _
  rw [e1, show (S sw fun a => S sw fun b => S sw fun c => S sw fun d => if Dif a b c d ∧ p (ratT [a, b, c, d]) (ratB [a, b, c, d]) = true then 1 else 0) = 4 * risM sw p from four_times sw p, ris_perm h]
/-- .. and how many pairs there are -/
theorem pairs_len {ws : List Int} (nd : ws.Nodup) : (pairsM ws).length = ws.length * (ws.length - 1) := by
  have row : ∀ a ∈ ws, (rowM ws a).length = ws.length - 1 := fun a ha => by
    unfold rowM
    rw [List.length_map]
    have e : (ws.filter fun b => decide (a ≠ b)) = ws.erase a := by
      rw [nd.erase_eq_filter]
      refine List.filter_congr fun b _ => ?_
      by_cases z : a = b
      · subst z; simp
      · have z' : ¬ b = a := fun e => z e.symm
        simp [z, z']
    rw [e, List.length_erase_of_mem ha]
  have all : ∀ l : List Int, (∀ a ∈ l, a ∈ ws) → (l.flatMap (rowM ws)).length = l.length * (ws.length - 1) := by
    intro l
    induction l with
    | nil => intro _; simp
    | cons a r ih =>
      intro h
      rw [List.flatMap_cons, List.length_append, row a (h a (by simp)), ih fun b hb => h b (by simp [hb]), List.length_cons, Nat.succ_mul]
      omega
  exact all ws fun _ h => h

/-! loops over the shop that append to a list of tuples -/
theorem loop_app {K : PySem.W.Frag} {L : Addr} {ws : List Int} {g : TG} {tb : TS} {E : Ends} {σ : St} {H : Hp} (D : Addr) (H0 : Hp) (Sh : St → Prop) (acc : List (List Int)) (f : Int → List (List Int)) (k : Nat) (hL : SqL K H0 L (ws.map V.int)) (hk : ∀ a ∈ ws, (f a).length ≤ k) (h0 : Sh σ) (s0 : Same H0 H) (tl : TL H D acc)
    (turn : ∀ (a : Int) (σ : St) (H' : Hp) (acc' : List (List Int)) (kk : St → Hp → Prop), a ∈ ws → Sh σ → Same H0 H' → TL H' D acc' → acc'.length ≤ acc.length + ws.length * k → (∀ σ' H'', Sh σ' → Same H0 H'' → TL H'' D (acc' ++ f a) → kk σ' H'') → g (.int a) σ H' fun σ2 H2 => tb { E with nx := kk, ct := kk, bk := E.nx } σ2 H2)
    (fin : ∀ σ' H', Sh σ' → Same H0 H' → TL H' D (acc ++ ws.flatMap f) → E.nx σ' H') :
    ∃ W : Nat → Nat → St → Hp → Prop, (∃ m, W 0 m σ H) ∧ ∀ i m σ H, W i m σ H →
      ((Itl K L).stop i H ∧ E.nx σ H) ∨ ((Itl K L).go i H ∧ ∃ N : St → Hp → Prop, (∀ σ' H', N σ' H' → ∃ m', m' < m ∧ W (i + 1) m' σ' H') ∧ ∀ x H', (Itl K L).yld i H x H' → g x σ H' fun σ2 H2 => tb { E with nx := N, ct := N, bk := E.nx } σ2 H2) := by
  refine for_list (K := K) (a := L) (xs := ws.map V.int) (fun i σ H' => Sh σ ∧ Same H0 H' ∧ TL H' D (acc ++ (ws.take i).flatMap f) ∧ (acc ++ (ws.take i).flatMap f).length ≤ acc.length + i * k) ⟨h0, s0, by simpa using tl, by simp⟩ (fun i σ H' _ ⟨_, s, _⟩ => s.seq hL) ?_ ?_
  · rintro i x σ H' hx ⟨sh, s, t, l⟩
    obtain ⟨a, rfl, ha⟩ := int_at hx
    have hi : i < ws.length := (List.getElem?_eq_some_iff.mp ha).1
    have ma := List.mem_of_getElem? ha
    have e : acc ++ (ws.take (i + 1)).flatMap f = acc ++ (ws.take i).flatMap f ++ f a := by
      rw [take_more ha, List.flatMap_append, ← List.append_assoc]; simp
    refine turn a σ H' _ _ ma sh s t (Nat.le_trans l (Nat.add_le_add_left (Nat.mul_le_mul_right k (by omega)) _)) fun σ' H'' sh' s' t' => ⟨sh', s', by rw [e]; exact t', ?_⟩
    rw [e, List.length_append, Nat.add_mul, Nat.one_mul]
    have := hk a ma
    omega
  · rintro σ H' ⟨sh, s, t, _⟩
    rw [List.length_map, List.take_length] at t
    exact fin σ H' sh s t
theorem rowM_flat (ws : List Int) (a : Int) : rowM ws a = ws.flatMap fun b => if a ≠ b then [[a, b]] else [] := by
  unfold rowM
  have all : ∀ l : List Int, (l.filter fun b => decide (a ≠ b)).map (fun b => [a, b]) = l.flatMap fun b => if a ≠ b then [[a, b]] else [] := by
    intro l
    induction l with
    | nil => rfl
    | cons b r ih =>
      rw [List.filter_cons, List.flatMap_cons, ← ih]
      by_cases h : a ≠ b
      · rw [if_pos (decide_eq_true h), if_pos h, List.map_cons]; rfl
      · rw [if_neg (by simpa using h), if_neg h]; rfl
  exact all ws
theorem flat_len {α β : Type} (l : List α) (f : α → List β) (k : Nat) (h : ∀ a ∈ l, (f a).length ≤ k) : (l.flatMap f).length ≤ l.length * k := by
  induction l with
  | nil => simp
  | cons a r ih =>
    rw [List.flatMap_cons, List.length_append, List.length_cons, Nat.succ_mul]
    have := ih fun b hb => h b (by simp [hb])
    have := h a (by simp)
    omega
/-- the pitches of the rising fours, as the law makes them -/
def q4 (a c b d : Int) : List (List Int) := if b < d ∧ b ≠ a ∧ b ≠ c ∧ d ≠ a ∧ d ≠ c then [[a * c, b * d]] else []
def q3 (ws : List Int) (a c b : Int) : List (List Int) := ws.flatMap (q4 a c b)
def q2 (ws : List Int) (a c : Int) : List (List Int) := if a < c then ws.flatMap (q3 ws a c) else []
def q1 (ws : List Int) (a : Int) : List (List Int) := ws.flatMap (q2 ws a)
def quadM (ws : List Int) : List (List Int) := ws.flatMap (q1 ws)
theorem q4_len (a c b d : Int) : (q4 a c b d).length ≤ 1 := by unfold q4; split <;> simp
theorem q3_len {ws : List Int} (h : ws.length ≤ 12) (a c b : Int) : (q3 ws a c b).length ≤ 12 := by
  have := flat_len ws (q4 a c b) 1 fun d _ => q4_len a c b d
  unfold q3; omega
theorem q2_len {ws : List Int} (h : ws.length ≤ 12) (a c : Int) : (q2 ws a c).length ≤ 144 := by
  unfold q2
  split
  · have := flat_len ws (q3 ws a c) 12 fun b _ => q3_len h a c b
    omega
  · simp
theorem q1_len {ws : List Int} (h : ws.length ≤ 12) (a : Int) : (q1 ws a).length ≤ 1728 := by
  have := flat_len ws (q2 ws a) 144 fun c _ => q2_len h a c
  unfold q1; omega
theorem quad_cnt (ws : List Int) (p : Int → Int → Bool) : (quadM ws).countP (fun t => p (ratT t) (ratB t)) = risM ws p := by
  unfold quadM risM
  rw [cnt_flat]
  refine S_congr ws fun a _ => ?_
  unfold q1
  rw [cnt_flat]
  refine S_congr ws fun c _ => ?_
  unfold q2
  by_cases l : a < c
  · rw [if_pos l, if_pos l, cnt_flat]
    refine S_congr ws fun b _ => ?_
    unfold q3
    rw [cnt_flat]
    refine S_congr ws fun d _ => ?_
    unfold q4
    by_cases g : b < d
    · rw [if_pos g]
      by_cases z : b < d ∧ b ≠ a ∧ b ≠ c ∧ d ≠ a ∧ d ≠ c
      · rw [if_pos z, List.countP_cons, List.countP_nil, Nat.zero_add]
        show (if p (a * c) (b * d) = true then 1 else 0) = _
        have dif : Dif a b c d := ⟨fun e => z.2.1 e.symm, fun e => z.2.2.2.2 e.symm, by omega, fun e => z.2.2.2.1 e.symm, z.2.2.1, by omega⟩
        by_cases y : p (a * c) (b * d) = true
        · rw [if_pos y, if_pos ⟨dif, y⟩]
        · rw [if_neg y, if_neg fun x => y x.2]
      · rw [if_neg z, List.countP_nil, if_neg fun x => z ⟨g, fun e => x.1.1 e.symm, x.1.2.2.2.2.1, fun e => x.1.2.2.2.1 e.symm, fun e => x.1.2.1 e.symm⟩]
    · rw [if_neg g, if_neg fun x => g x.1, List.countP_nil]
  · rw [if_neg l, if_neg l, List.countP_nil]
end My

/-! sorted(xs) of any number of tuples of ints: nothing is raised, and every item of the answer is one of those handed in -/
namespace L2
open PySem PySem.Spec PyProof.Rows PySem.W
def gallopS : Bool → Keyed → Array Keyed → Nat → Nat → Nat → StateT SortSt Sem (Option Nat) := sortPriv% PySem.Builtin.gallop
def mergeLoS : Array Keyed → Array Keyed → StateT SortSt Sem (Array Keyed) := sortPriv% PySem.Builtin.mergeLo
def mergeHiS : Array Keyed → Array Keyed → StateT SortSt Sem (Array Keyed) := sortPriv% PySem.Builtin.mergeHi
def setGallopS : Nat → StateT SortSt Sem Unit := sortPriv% PySem.Builtin.setMinGallop
/-- the state of a sorting: as many items as at first, each one of the first -/
structure Sb (κ : SortKind) (a₀ : Array Keyed) (st : SortSt) : Prop where
  size : (arrOf st).size = a₀.size
  mem : ∀ p, p ∈ arrOf st → p ∈ a₀
  kind : kindOf st = κ
  failed : failedOf st = none
section
variable {prog : Program} {w : World} {A : Around} {E : Value → Shared → Prop} {s : Shared} {κ : SortKind} {a₀ : Array Keyed}
/-- any two of the first items can be held against each other -/
def LtOk (prog : Program) (w : World) (A : Around) (s : Shared) (κ : SortKind) (a₀ : Array Keyed) : Prop :=
  ∀ p q, p ∈ a₀ → q ∈ a₀ → ∀ (E : Value → Shared → Prop) (Q : Bool → Shared → Prop), (∀ b, Q b s) → wpAny (model prog w) A (keyLt' κ p.1 q.1) Q E s
theorem lt_any (L : LtOk prog w A s κ a₀) {p q : Keyed} {st : SortSt} {Q : Option Bool → SortSt → Prop} (hp : p ∈ a₀) (hq : q ∈ a₀) (hk : kindOf st = κ) (h : ∀ b, Q (some b) st) :
    wpS (model prog w) A E s (lt' p q) Q st := by
  rw [lt'_eq]
  refine wpS_bind (wpS_get ?_)
  rw [hk]
  refine wpS_bind (wpS_lift (wpAny_attempt (L p q hp hq _ _ fun b => ⟨rfl, ?_⟩)))
  exact wpS_pure (h b)
theorem elem_in {arr : Array Keyed} {i : Nat} {st : SortSt} {Q : Keyed → SortSt → Prop} (hi : i < arr.size) (h : ∀ p, p ∈ arr → Q p st) : wpS (model prog w) A E s (elem' arr i) Q st := by
  rw [elem'_eq, getElem?_pos arr i hi]
  exact wpS_pure (h _ (by simp))
theorem gallop_any (L : LtOk prog w A s κ a₀) {left : Bool} {key : Keyed} {arr : Array Keyed} {base n hint : Nat} {st : SortSt} {Q : Option Nat → SortSt → Prop}
    (hkey : key ∈ a₀) (harr : ∀ p, p ∈ arr → p ∈ a₀) (hb : base + n ≤ arr.size) (hh : hint < n) (hk : kindOf st = κ) (h : ∀ k, k ≤ n → Q (some k) st) :
    wpS (model prog w) A E s (gallopS left key arr base n hint) Q st := by
  have bey : ∀ (i : Nat) (Q' : Option Bool → SortSt → Prop), i < n → (∀ b, Q' (some b) st) → wpS (model prog w) A E s (do
      let x ← elem' arr (base + i)
      if left then lt' x key else return (← lt' key x).map (!·)) Q' st := by
    intro i Q' hi q
    refine wpS_bind (elem_in (by omega) fun p hp => ?_)
    cases left
    · simp only [Bool.false_eq_true, if_false]
      exact wpS_bind (lt_any L hkey (harr p hp) hk fun b => wpS_pure (q _))
    · simp only [if_true]
      exact lt_any L (harr p hp) hkey hk q
  unfold gallopS
  refine wpS_bind (bey _ _ hh fun b => ?_)
  cases b
  · dsimp only
    rw [if_neg (by simp)]
    refine wpS_bind (wpS_mono (wpS_forRange (I := fun _ c st' => st' = st ∧ ∃ la fs, c = (none, la, fs)) (Q := fun c st' => st' = st ∧ ∃ la fs, c = (none, la, fs)) ?step (fun _ _ hh => hh) ⟨rfl, 0, 1, rfl⟩) ?post)
    case post =>
      rintro c st' ⟨rfl, la, fs, rfl⟩
      dsimp only
      refine wpS_bind (wpS_mono (wpS_forRange (I := fun _ c st2 => st2 = st' ∧ ∃ lo hi, c = (none, lo, hi) ∧ hi ≤ n) (Q := fun c st2 => st2 = st' ∧ ∃ lo hi, c = (none, lo, hi) ∧ hi ≤ n) ?stepB (fun _ _ hh => hh) ⟨rfl, _, _, rfl, by omega⟩) ?postB)
      case postB =>
        rintro c st2 ⟨rfl, lo, hi, rfl, hhi⟩
        exact wpS_pure (h hi hhi)
      case stepB =>
        rintro x c st2 _ _ ⟨rfl, lo, hi, rfl, hhi⟩
        dsimp only
        by_cases hge : lo ≥ hi
        · rw [if_pos hge]; exact wpS_pure ⟨rfl, lo, hi, rfl, hhi⟩
        · rw [if_neg hge]
          refine wpS_bind (bey _ _ (by omega) fun b => ?_)
          cases b
          · exact wpS_pure ⟨rfl, _, _, rfl, by omega⟩
          · exact wpS_pure ⟨rfl, _, _, rfl, by omega⟩
    case step =>
      rintro x c st' _ _ ⟨rfl, la, fs, rfl⟩
      dsimp only
      by_cases hge : fs ≥ hint + 1
      · rw [if_pos hge]; exact wpS_pure ⟨rfl, la, fs, rfl⟩
      · rw [if_neg hge]
        refine wpS_bind (bey _ _ (by omega) fun b => ?_)
        cases b
        · exact wpS_pure ⟨rfl, _, _, rfl⟩
        · exact wpS_pure ⟨rfl, _, _, rfl⟩
  · dsimp only
    rw [if_pos rfl]
    refine wpS_bind (wpS_mono (wpS_forRange (I := fun _ c st' => st' = st ∧ ∃ la fs, c = (none, la, fs)) (Q := fun c st' => st' = st ∧ ∃ la fs, c = (none, la, fs)) ?step (fun _ _ hh => hh) ⟨rfl, 0, 1, rfl⟩) ?post)
    case post =>
      rintro c st' ⟨rfl, la, fs, rfl⟩
      dsimp only
      refine wpS_bind (wpS_mono (wpS_forRange (I := fun _ c st2 => st2 = st' ∧ ∃ lo hi, c = (none, lo, hi) ∧ hi ≤ n) (Q := fun c st2 => st2 = st' ∧ ∃ lo hi, c = (none, lo, hi) ∧ hi ≤ n) ?stepB (fun _ _ hh => hh) ⟨rfl, _, _, rfl, by omega⟩) ?postB)
      case postB =>
        rintro c st2 ⟨rfl, lo, hi, rfl, hhi⟩
        exact wpS_pure (h hi hhi)
      case stepB =>
        rintro x c st2 _ _ ⟨rfl, lo, hi, rfl, hhi⟩
        dsimp only
        by_cases hge : lo ≥ hi
        · rw [if_pos hge]; exact wpS_pure ⟨rfl, lo, hi, rfl, hhi⟩
        · rw [if_neg hge]
          refine wpS_bind (bey _ _ (by omega) fun b => ?_)
          cases b
          · exact wpS_pure ⟨rfl, _, _, rfl, by omega⟩
          · exact wpS_pure ⟨rfl, _, _, rfl, by omega⟩
    case step =>
      rintro x c st' _ _ ⟨rfl, la, fs, rfl⟩
      dsimp only
      by_cases hge : fs ≥ n - hint
      · rw [if_pos hge]; exact wpS_pure ⟨rfl, la, fs, rfl⟩
      · rw [if_neg hge]
        refine wpS_bind (bey _ _ (by omega) fun b => ?_)
        cases b
        · exact wpS_pure ⟨rfl, _, _, rfl⟩
        · exact wpS_pure ⟨rfl, _, _, rfl⟩
theorem setGallopS_eq (g : Nat) : setGallopS g = modify fun st => SortSt.mk' (kindOf st) (arrOf st) (pendingOf st) g (failedOf st) := rfl
/-- only the galloping has changed -/
structure StS (κ : SortKind) (st st' : SortSt) : Prop where
  kind : PyProof.Rows.kindOf st' = κ
  arr : arrOf st' = arrOf st
  pend : pendingOf st' = pendingOf st
  failed : failedOf st' = failedOf st
def Inn (a₀ x : Array Keyed) : Prop := ∀ p, p ∈ x → p ∈ a₀
theorem Inn.app {x y : Array Keyed} (hx : Inn a₀ x) (hy : Inn a₀ y) : Inn a₀ (x ++ y) := fun p hp => (Array.mem_append.mp hp).elim (hx p) (hy p)
theorem Inn.push {x : Array Keyed} {q : Keyed} (hx : Inn a₀ x) (hq : q ∈ a₀) : Inn a₀ (x.push q) := fun p hp => (Array.mem_push.mp hp).elim (hx p) fun e => e ▸ hq
theorem Inn.ext {x : Array Keyed} {i j : Nat} (hx : Inn a₀ x) : Inn a₀ (x.extract i j) := fun p hp => by
  obtain ⟨k, hm, e⟩ := Array.mem_extract_iff_getElem.mp hp
  exact hx p (e ▸ Array.getElem_mem _)
theorem Inn.rev {x : Array Keyed} (hx : Inn a₀ x) : Inn a₀ x.reverse := fun p hp => hx p (Array.mem_reverse.mp hp)
theorem Inn.one {q : Keyed} (hq : q ∈ a₀) : Inn a₀ #[q] := fun p hp => by
  have : p = q := by simpa using hp
  exact this ▸ hq
theorem ifeq {α : Type} {x y : Nat} {m n : StateT SortSt Sem α} {Q : α → SortSt → Prop} {st : SortSt} (h1 : x = y → wpS (model prog w) A E s m Q st) (h2 : x ≠ y → wpS (model prog w) A E s n Q st) :
    wpS (model prog w) A E s (if (x == y) = true then m else n) Q st := by
  by_cases e : x = y
  · rw [if_pos (by simpa using e)]; exact h1 e
  · rw [if_neg (by simpa using e)]; exact h2 e
theorem ifany {α : Type} {c : Prop} [Decidable c] {m n : StateT SortSt Sem α} {Q : α → SortSt → Prop} {st : SortSt} (h1 : c → wpS (model prog w) A E s m Q st) (h2 : ¬ c → wpS (model prog w) A E s n Q st) :
    wpS (model prog w) A E s (if c then m else n) Q st := by
  by_cases e : c
  · rw [if_pos e]; exact h1 e
  · rw [if_neg e]; exact h2 e
theorem elem_of {arr : Array Keyed} {i : Nat} {st : SortSt} {Q : Keyed → SortSt → Prop} (hA : Inn a₀ arr) (hi : i < arr.size) (h : ∀ p, p ∈ a₀ → Q p st) : wpS (model prog w) A E s (elem' arr i) Q st :=
  elem_in hi fun p hp => h p (hA p hp)
theorem set_gallop {g : Nat} {st st' : SortSt} {Q : Unit → SortSt → Prop} (hS : StS κ st st') (h : ∀ st'', StS κ st st'' → Q () st'') : wpS (model prog w) A E s (setGallopS g) Q st' := by
  rw [setGallopS_eq]
  exact wpS_modify (h _ ⟨hS.kind, hS.arr, hS.pend, hS.failed⟩)
theorem gallop_of (L : LtOk prog w A s κ a₀) {left : Bool} {key : Keyed} {arr : Array Keyed} {base n hint : Nat} {st st' : SortSt} {Q : Option Nat → SortSt → Prop}
    (hS : StS κ st st') (hkey : key ∈ a₀) (harr : Inn a₀ arr) (hb : base + n ≤ arr.size) (hh : hint < n) (h : ∀ k, k ≤ n → Q (some k) st') :
    wpS (model prog w) A E s (gallopS left key arr base n hint) Q st' := gallop_any L hkey harr hb hh hS.kind h
theorem lt_of (L : LtOk prog w A s κ a₀) {p q : Keyed} {st st' : SortSt} {Q : Option Bool → SortSt → Prop} (hS : StS κ st st') (hp : p ∈ a₀) (hq : q ∈ a₀) (h : ∀ b, Q (some b) st') :
    wpS (model prog w) A E s (lt' p q) Q st' := lt_any L hp hq hS.kind h
set_option maxHeartbeats 8000000 in
theorem mergeLo_any (L : LtOk prog w A s κ a₀) {a b : Array Keyed} {st : SortSt} {Q : Array Keyed → SortSt → Prop}
    (ha : Inn a₀ a) (hb : Inn a₀ b) (ha1 : 1 ≤ a.size) (hb1 : 1 ≤ b.size) (hk : PyProof.Rows.kindOf st = κ)
    (h : ∀ out st', Inn a₀ out → StS κ st st' → Q out st') :
    wpS (model prog w) A E s (mergeLoS a b) Q st := by
  have S0 : StS κ st st := ⟨hk, rfl, rfl, rfl⟩
  unfold mergeLoS
  refine wpS_bind (wpS_lift (wpAny_rule ⟨rfl, ?_⟩))
  dsimp only
  refine wpS_bind (elem_of hb (by omega) fun p hp => ?_)
  refine ifeq (fun e1 => wpS_pure (h _ _ (by (with_reducible (repeat' first | assumption | refine Inn.app ?_ ?_ | refine Inn.push ?_ ?_ | refine Inn.ext ?_ | refine Inn.rev ?_ | refine Inn.one ?_))) S0)) fun e1 => ?_
  refine ifeq (fun e2 => wpS_pure (h _ _ (by (with_reducible (repeat' first | assumption | refine Inn.app ?_ ?_ | refine Inn.push ?_ ?_ | refine Inn.ext ?_ | refine Inn.rev ?_ | refine Inn.one ?_))) S0)) fun e2 => ?_
  refine wpS_bind (wpS_get ?_)
  refine wpS_bind (wpS_mono (wpS_forRange
    (I := fun i c st' => StS κ st st' ∧ ∃ out ia ib g, c = (none, out, ia, ib, g) ∧ Inn a₀ out ∧ ia + 1 < a.size ∧ ib < b.size ∧ i + 1 ≤ ia + ib)
    (Q := fun c st' => StS κ st st' ∧ ∃ r x, c = (some r, x) ∧ Inn a₀ r) ?step ?fin ⟨S0, _, 0, 1, _, rfl, by (with_reducible (repeat' first | assumption | refine Inn.app ?_ ?_ | refine Inn.push ?_ ?_ | refine Inn.ext ?_ | refine Inn.rev ?_ | refine Inn.one ?_)), by omega, by omega, by omega⟩) ?post)
  case post =>
    rintro c st' ⟨hS, r, x, rfl, hr⟩
    exact wpS_pure (h _ _ hr hS)
  case fin =>
    rintro c st' ⟨hS, out, ia, ib, g, rfl, ho, h1, h2, h3⟩
    omega
  case step =>
    rintro i c st1 _ hi ⟨hS, out, ia, ib, g, rfl, ho, h1, h2, h3⟩
    dsimp only
    refine wpS_bind (wpS_mono (wpS_forRange
      (I := fun j c st' => StS κ st st' ∧ ∃ out ia ib ac bc, c = (none, out, ia, ib, ac, bc) ∧ Inn a₀ out ∧ ia + 1 < a.size ∧ ib < b.size ∧ i + j + 1 ≤ ia + ib)
      (Q := fun c st' => StS κ st st' ∧ ((∃ r x, c = (some r, x) ∧ Inn a₀ r) ∨ ∃ out ia ib ac bc, c = (none, out, ia, ib, ac, bc) ∧ Inn a₀ out ∧ ia + 1 < a.size ∧ ib < b.size ∧ i + 2 ≤ ia + ib))
      ?step1 ?fin1 ⟨hS, _, _, _, _, _, rfl, ho, h1, h2, by omega⟩) ?post1)
    case fin1 =>
      rintro c st' ⟨hS, out, ia, ib, ac, bc, rfl, ho, h1, h2, h3⟩
      exact ⟨hS, .inr ⟨_, _, _, _, _, rfl, ho, h1, h2, by omega⟩⟩
    case step1 =>
      rintro j c st2 _ hj ⟨hS, out, ia, ib, ac, bc, rfl, ho, h1, h2, h3⟩
      dsimp only
      refine wpS_bind (elem_of hb (by omega) fun p hp => ?_)
      refine wpS_bind (elem_of ha (by omega) fun q hq => ?_)
      refine wpS_bind (lt_of L hS hp hq fun b => ?_)
      dsimp only
      repeat' (first
          | refine wpS_bind (elem_of (by assumption) (by omega) fun _ _ => ?_)
          | refine ifeq (fun _ => ?_) (fun _ => ?_)
          | refine ifany (fun _ => ?_) (fun _ => ?_)
          | refine wpS_bind (set_gallop (by assumption) fun _ _ => ?_)
          | refine wpS_bind (gallop_of L (by assumption) (by assumption) (by assumption) (by omega) (by omega) fun _ _ => ?_))
      all_goals first
        | exact wpS_pure ⟨hS, .inl ⟨_, _, rfl, by (with_reducible (repeat' first | assumption | refine Inn.app ?_ ?_ | refine Inn.push ?_ ?_ | refine Inn.ext ?_ | refine Inn.rev ?_ | refine Inn.one ?_))⟩⟩
        | exact wpS_pure ⟨hS, .inr ⟨_, _, _, _, _, rfl, by (with_reducible (repeat' first | assumption | refine Inn.app ?_ ?_ | refine Inn.push ?_ ?_ | refine Inn.ext ?_ | refine Inn.rev ?_ | refine Inn.one ?_)), by omega, by omega, by omega⟩⟩
        | exact wpS_pure ⟨hS, _, _, _, _, _, rfl, by (with_reducible (repeat' first | assumption | refine Inn.app ?_ ?_ | refine Inn.push ?_ ?_ | refine Inn.ext ?_ | refine Inn.rev ?_ | refine Inn.one ?_)), by omega, by omega, by omega⟩
    case post1 =>
      rintro c st2 ⟨hS, ⟨r, x, rfl, hr⟩ | ⟨out, ia, ib, ac, bc, rfl, ho, h1, h2, h3⟩⟩
      · exact wpS_pure ⟨hS, _, _, rfl, hr⟩
      dsimp only
      refine wpS_bind (wpS_lift (wpAny_rule ⟨rfl, ?_⟩))
      refine wpS_bind (wpS_mono (wpS_forRange
        (I := fun j c st' => StS κ st st' ∧ ∃ out ia ib g ac bc, c = (none, out, ia, ib, g, ac, bc) ∧ Inn a₀ out ∧ ia + 1 < a.size ∧ ib < b.size ∧ i + 2 ≤ ia + ib)
        (Q := fun c st' => StS κ st st' ∧ ((∃ r x, c = (some r, x) ∧ Inn a₀ r) ∨ ∃ out ia ib g ac bc, c = (none, out, ia, ib, g, ac, bc) ∧ Inn a₀ out ∧ ia + 1 < a.size ∧ ib < b.size ∧ i + 2 ≤ ia + ib))
        ?step2 ?fin2 ⟨hS, _, _, _, _, _, _, rfl, ho, h1, h2, h3⟩) ?post2)
      case fin2 =>
        rintro c st' ⟨hS, out, ia, ib, g, ac, bc, rfl, ho, h1, h2, h3⟩
        exact ⟨hS, .inr ⟨_, _, _, _, _, _, rfl, ho, h1, h2, h3⟩⟩
      case post2 =>
        rintro c st2 ⟨hS, ⟨r, x, rfl, hr⟩ | ⟨out, ia, ib, g, ac, bc, rfl, ho, h1, h2, h3⟩⟩
        · exact wpS_pure ⟨hS, _, _, rfl, hr⟩
        dsimp only
        exact wpS_bind (set_gallop hS fun _ hS => wpS_pure ⟨hS, _, _, _, _, rfl, ho, h1, h2, by omega⟩)
      case step2 =>
        rintro j c st2 _ hj ⟨hS0, out, ia, ib, g, ac, bc, rfl, ho, h1, h2, h3⟩
        dsimp only
        repeat' ((first
          | refine wpS_bind (elem_of (by assumption) (by omega) fun _ _ => ?_)
          | refine ifeq (fun _ => ?_) (fun _ => ?_)
          | refine ifany (fun _ => ?_) (fun _ => ?_)
          | refine wpS_bind (set_gallop (by assumption) fun _ _ => ?_)
          | refine wpS_bind (gallop_of L (by assumption) (by assumption) (by assumption) (by omega) (by omega) fun _ _ => ?_)); try dsimp only)
        all_goals first
          | exact wpS_pure ⟨by with_reducible assumption, .inl ⟨_, _, rfl, by (with_reducible (repeat' first | assumption | refine Inn.app ?_ ?_ | refine Inn.push ?_ ?_ | refine Inn.ext ?_ | refine Inn.rev ?_ | refine Inn.one ?_))⟩⟩
          | exact wpS_pure ⟨by with_reducible assumption, .inr ⟨_, _, _, _, _, _, rfl, by (with_reducible (repeat' first | assumption | refine Inn.app ?_ ?_ | refine Inn.push ?_ ?_ | refine Inn.ext ?_ | refine Inn.rev ?_ | refine Inn.one ?_)), by omega, by omega, by omega⟩⟩
          | exact wpS_pure ⟨by with_reducible assumption, _, _, _, _, _, _, rfl, by (with_reducible (repeat' first | assumption | refine Inn.app ?_ ?_ | refine Inn.push ?_ ?_ | refine Inn.ext ?_ | refine Inn.rev ?_ | refine Inn.one ?_)), by omega, by omega, by omega⟩
set_option maxHeartbeats 8000000 in
theorem mergeHi_any (L : LtOk prog w A s κ a₀) {a b : Array Keyed} {st : SortSt} {Q : Array Keyed → SortSt → Prop}
    (ha : Inn a₀ a) (hb : Inn a₀ b) (ha1 : 1 ≤ a.size) (hb1 : 1 ≤ b.size) (hk : PyProof.Rows.kindOf st = κ)
    (h : ∀ out st', Inn a₀ out → StS κ st st' → Q out st') :
    wpS (model prog w) A E s (mergeHiS a b) Q st := by
  have S0 : StS κ st st := ⟨hk, rfl, rfl, rfl⟩
  unfold mergeHiS
  refine wpS_bind (wpS_lift (wpAny_rule ⟨rfl, ?_⟩))
  dsimp only
  refine wpS_bind (elem_of ha (by omega) fun p hp => ?_)
  refine ifeq (fun e1 => wpS_pure (h _ _ (by (with_reducible (repeat' first | assumption | refine Inn.app ?_ ?_ | refine Inn.push ?_ ?_ | refine Inn.ext ?_ | refine Inn.rev ?_ | refine Inn.one ?_))) S0)) fun e1 => ?_
  refine ifeq (fun e2 => wpS_pure (h _ _ (by (with_reducible (repeat' first | assumption | refine Inn.app ?_ ?_ | refine Inn.push ?_ ?_ | refine Inn.ext ?_ | refine Inn.rev ?_ | refine Inn.one ?_))) S0)) fun e2 => ?_
  refine wpS_bind (wpS_get ?_)
  refine wpS_bind (wpS_mono (wpS_forRange
    (I := fun i c st' => StS κ st st' ∧ ∃ na nb out g, c = (none, na, nb, out, g) ∧ Inn a₀ out ∧ 1 ≤ na ∧ na ≤ a.size ∧ 2 ≤ nb ∧ nb ≤ b.size ∧ i + 1 + na + nb ≤ a.size + b.size)
    (Q := fun c st' => StS κ st st' ∧ ∃ r x, c = (some r, x) ∧ Inn a₀ r) ?step ?fin ⟨S0, _, _, _, _, rfl, by (with_reducible (repeat' first | assumption | refine Inn.app ?_ ?_ | refine Inn.push ?_ ?_ | refine Inn.ext ?_ | refine Inn.rev ?_ | refine Inn.one ?_)), by omega⟩) ?post)
  case post =>
    rintro c st' ⟨hS, r, x, rfl, hr⟩
    exact wpS_pure (h _ _ hr hS)
  case fin =>
    rintro c st' ⟨hS, na, nb, out, g, rfl, ho, h1, h2, h3, h4, h5⟩
    omega
  case step =>
    rintro i c st1 _ hi ⟨hS, na, nb, out, g, rfl, ho, h1, h2, h3, h4, h5⟩
    dsimp only
    refine wpS_bind (wpS_mono (wpS_forRange
      (I := fun j c st' => StS κ st st' ∧ ∃ na nb out ac bc, c = (none, na, nb, out, ac, bc) ∧ Inn a₀ out ∧ 1 ≤ na ∧ na ≤ a.size ∧ 2 ≤ nb ∧ nb ≤ b.size ∧ i + j + 1 + na + nb ≤ a.size + b.size)
      (Q := fun c st' => StS κ st st' ∧ ((∃ r x, c = (some r, x) ∧ Inn a₀ r) ∨ ∃ na nb out ac bc, c = (none, na, nb, out, ac, bc) ∧ Inn a₀ out ∧ 1 ≤ na ∧ na ≤ a.size ∧ 2 ≤ nb ∧ nb ≤ b.size ∧ i + 2 + na + nb ≤ a.size + b.size))
      ?step1 ?fin1 ⟨hS, _, _, _, _, _, rfl, ho, h1, h2, h3, h4, by omega⟩) ?post1)
    case fin1 =>
      rintro c st' ⟨hS, na, nb, out, ac, bc, rfl, ho, h1, h2, h3, h4, h5⟩
      exact ⟨hS, .inr ⟨_, _, _, _, _, rfl, ho, h1, h2, h3, h4, by omega⟩⟩
    case step1 =>
      rintro j c st2 _ hj ⟨hS, na, nb, out, ac, bc, rfl, ho, h1, h2, h3, h4, h5⟩
      dsimp only
      refine wpS_bind (elem_of hb (by omega) fun p hp => ?_)
      refine wpS_bind (elem_of ha (by omega) fun q hq => ?_)
      refine wpS_bind (lt_of L hS hp hq fun b => ?_)
      dsimp only
      repeat' (first
          | refine wpS_bind (elem_of (by assumption) (by omega) fun _ _ => ?_)
          | refine ifeq (fun _ => ?_) (fun _ => ?_)
          | refine ifany (fun _ => ?_) (fun _ => ?_)
          | refine wpS_bind (set_gallop (by assumption) fun _ _ => ?_)
          | refine wpS_bind (gallop_of L (by assumption) (by assumption) (by assumption) (by omega) (by omega) fun _ _ => ?_))
      all_goals first
        | exact wpS_pure ⟨hS, .inl ⟨_, _, rfl, by (with_reducible (repeat' first | assumption | refine Inn.app ?_ ?_ | refine Inn.push ?_ ?_ | refine Inn.ext ?_ | refine Inn.rev ?_ | refine Inn.one ?_))⟩⟩
        | exact wpS_pure ⟨hS, .inr ⟨_, _, _, _, _, rfl, by (with_reducible (repeat' first | assumption | refine Inn.app ?_ ?_ | refine Inn.push ?_ ?_ | refine Inn.ext ?_ | refine Inn.rev ?_ | refine Inn.one ?_)), by omega⟩⟩
        | exact wpS_pure ⟨hS, _, _, _, _, _, rfl, by (with_reducible (repeat' first | assumption | refine Inn.app ?_ ?_ | refine Inn.push ?_ ?_ | refine Inn.ext ?_ | refine Inn.rev ?_ | refine Inn.one ?_)), by omega⟩
    case post1 =>
      rintro c st2 ⟨hS, ⟨r, x, rfl, hr⟩ | ⟨na, nb, out, ac, bc, rfl, ho, h1, h2, h3, h4, h5⟩⟩
      · exact wpS_pure ⟨hS, _, _, rfl, hr⟩
      dsimp only
      refine wpS_bind (wpS_lift (wpAny_rule ⟨rfl, ?_⟩))
      refine wpS_bind (wpS_mono (wpS_forRange
        (I := fun j c st' => StS κ st st' ∧ ∃ na nb out g ac bc, c = (none, na, nb, out, g, ac, bc) ∧ Inn a₀ out ∧ 1 ≤ na ∧ na ≤ a.size ∧ 2 ≤ nb ∧ nb ≤ b.size ∧ i + 2 + na + nb ≤ a.size + b.size)
        (Q := fun c st' => StS κ st st' ∧ ((∃ r x, c = (some r, x) ∧ Inn a₀ r) ∨ ∃ na nb out g ac bc, c = (none, na, nb, out, g, ac, bc) ∧ Inn a₀ out ∧ 1 ≤ na ∧ na ≤ a.size ∧ 2 ≤ nb ∧ nb ≤ b.size ∧ i + 2 + na + nb ≤ a.size + b.size))
        ?step2 ?fin2 ⟨hS, _, _, _, _, _, _, rfl, ho, h1, h2, h3, h4, h5⟩) ?post2)
      case fin2 =>
        rintro c st' ⟨hS, na, nb, out, g, ac, bc, rfl, ho, h1, h2, h3, h4, h5⟩
        exact ⟨hS, .inr ⟨_, _, _, _, _, _, rfl, ho, h1, h2, h3, h4, h5⟩⟩
      case post2 =>
        rintro c st2 ⟨hS, ⟨r, x, rfl, hr⟩ | ⟨na, nb, out, g, ac, bc, rfl, ho, h1, h2, h3, h4, h5⟩⟩
        · exact wpS_pure ⟨hS, _, _, rfl, hr⟩
        dsimp only
        exact wpS_bind (set_gallop hS fun _ hS => wpS_pure ⟨hS, _, _, _, _, rfl, ho, h1, h2, h3, h4, by omega⟩)
      case step2 =>
        rintro j c st2 _ hj ⟨hS0, na, nb, out, g, ac, bc, rfl, ho, h1, h2, h3, h4, h5⟩
        dsimp only
        repeat' ((first
          | refine wpS_bind (elem_of (by assumption) (by omega) fun _ _ => ?_)
          | refine ifeq (fun _ => ?_) (fun _ => ?_)
          | refine ifany (fun _ => ?_) (fun _ => ?_)
          | refine wpS_bind (set_gallop (by assumption) fun _ _ => ?_)
          | refine wpS_bind (gallop_of L (by assumption) (by assumption) (by assumption) (by omega) (by omega) fun _ _ => ?_)); try dsimp only)
        all_goals first
          | exact wpS_pure ⟨by with_reducible assumption, .inl ⟨_, _, rfl, by (with_reducible (repeat' first | assumption | refine Inn.app ?_ ?_ | refine Inn.push ?_ ?_ | refine Inn.ext ?_ | refine Inn.rev ?_ | refine Inn.one ?_))⟩⟩
          | exact wpS_pure ⟨by with_reducible assumption, .inr ⟨_, _, _, _, _, _, rfl, by (with_reducible (repeat' first | assumption | refine Inn.app ?_ ?_ | refine Inn.push ?_ ?_ | refine Inn.ext ?_ | refine Inn.rev ?_ | refine Inn.one ?_)), by omega⟩⟩
          | exact wpS_pure ⟨by with_reducible assumption, _, _, _, _, _, _, rfl, by (with_reducible (repeat' first | assumption | refine Inn.app ?_ ?_ | refine Inn.push ?_ ?_ | refine Inn.ext ?_ | refine Inn.rev ?_ | refine Inn.one ?_)), by omega⟩
end
end L2

namespace L2
open PySem PySem.Spec PyProof.Rows PySem.W
section
variable {prog : Program} {w : World} {A : Around} {E : Value → Shared → Prop} {s : Shared} {κ : SortKind} {a₀ : Array Keyed}
theorem Sb.inn {st : SortSt} (h : Sb κ a₀ st) : Inn a₀ (arrOf st) := h.mem
theorem Sb.setArr {st : SortSt} (h : Sb κ a₀ st) {xs : Array Keyed} (hz : xs.size = a₀.size) (hx : Inn a₀ xs) : Sb κ a₀ (setArr st xs) := ⟨hz, hx, h.kind, h.failed⟩
theorem Sb.sts {st st' : SortSt} (h : Sb κ a₀ st) (hS : StS κ st st') : Sb κ a₀ st' := ⟨by rw [hS.arr]; exact h.size, by rw [hS.arr]; exact h.mem, hS.kind, by rw [hS.failed]; exact h.failed⟩
theorem ltAt_any (L : LtOk prog w A s κ a₀) {i j : Nat} {st : SortSt} {Q : Option Bool → SortSt → Prop} (hB : Sb κ a₀ st) (hi : i < a₀.size) (hj : j < a₀.size) (h : ∀ b, Q (some b) st) :
    wpS (model prog w) A E s (ltAt' i j) Q st := by
  rw [ltAt'_eq]
  refine wpS_bind (wpS_get ?_)
  exact wpS_bind (elem_of hB.inn (by rw [hB.size]; exact hi) fun p hp => wpS_bind (elem_of hB.inn (by rw [hB.size]; exact hj) fun q hq => lt_any L hp hq hB.kind h))
/-- the same runs, the same items in another order -/
structure Sp' (κ : SortKind) (a₀ : Array Keyed) (P : Array (Nat × Nat × Nat)) (st : SortSt) : Prop extends Sb κ a₀ st where
  pend : pendingOf st = P
theorem mirror_mem {xs : Array Keyed} {i j d : Nat} (h : Inn a₀ xs) : Inn a₀ (mirror xs i j d) := fun p hp => h p ((mirror_perm xs i j d).mem_iff.mp hp)
theorem bubble_mem {xs : Array Keyed} {i d : Nat} (h : Inn a₀ xs) : Inn a₀ (bubble xs i d) := fun p hp => h p ((bubble_perm xs i d).mem_iff.mp hp)
variable {P : Array (Nat × Nat × Nat)}
theorem rev_any {i j : Nat} {st : SortSt} {Q : Unit → SortSt → Prop} (hB : Sp' κ a₀ P st) (h : ∀ st', Sp' κ a₀ P st' → Q () st') : wpS (model prog w) A E s (reverseSlice' i j) Q st := by
  rw [reverseSlice'_eq]
  exact wpS_modify (h _ ⟨hB.toSb.setArr ((mirror_size _ _ _ _).trans hB.size) (mirror_mem hB.inn), hB.pend⟩)
theorem down_any {i j : Nat} {st : SortSt} {Q : Unit → SortSt → Prop} (hB : Sp' κ a₀ P st) (h : ∀ st', Sp' κ a₀ P st' → Q () st') : wpS (model prog w) A E s (moveDown' i j) Q st := by
  rw [moveDown'_eq]
  exact wpS_modify (h _ ⟨hB.toSb.setArr ((bubble_size _ _ _).trans hB.size) (bubble_mem hB.inn), hB.pend⟩)
theorem binarySort_any (L : LtOk prog w A s κ a₀) {lo n ok : Nat} {st : SortSt} {Q : Bool → SortSt → Prop} (hB : Sp' κ a₀ P st) (hn : lo + n ≤ a₀.size) (h : ∀ st', Sp' κ a₀ P st' → Q true st') :
    wpS (model prog w) A E s (binarySort' lo n ok) Q st := by
  rw [binarySort'_eq]
  refine wpS_bind (wpS_mono (wpS_forRange (I := fun k c st' => c = (none, ()) ∧ Sp' κ a₀ P st') (Q := fun c st' => c = (none, ()) ∧ Sp' κ a₀ P st') ?step (fun _ _ h => h) ⟨rfl, hB⟩) ?post)
  case post =>
    rintro c st' ⟨rfl, hB'⟩
    exact wpS_pure (h st' hB')
  case step =>
    rintro k c st' hak hkn ⟨rfl, hB'⟩
    refine wpS_bind (wpS_mono (wpS_forRange (I := fun x c st'' => st'' = st' ∧ ∃ l r, c = (none, l, r) ∧ r ≤ k) (Q := fun c st'' => st'' = st' ∧ ∃ l r, c = (none, l, r)) ?istep ?ifin ⟨rfl, 0, k, rfl, Nat.le_refl _⟩) ?ipost)
    case ifin => rintro c st'' ⟨rfl, l, r, rfl, _⟩; exact ⟨rfl, l, r, rfl⟩
    case istep =>
      rintro x c st'' _ hxk ⟨rfl, l, r, rfl, hr⟩
      dsimp only
      refine ifany (fun hge => wpS_pure ⟨rfl, l, r, rfl⟩) fun hge => ?_
      refine wpS_bind (ltAt_any L hB'.toSb (by omega) (by omega) fun b => ?_)
      cases b
      · exact wpS_pure ⟨rfl, _, _, rfl, hr⟩
      · exact wpS_pure ⟨rfl, _, _, rfl, by omega⟩
    case ipost =>
      rintro c st'' ⟨rfl, l, r, rfl⟩
      exact wpS_bind (down_any hB' fun st3 hB3 => wpS_pure ⟨rfl, hB3⟩)
theorem countRun_any (L : LtOk prog w A s κ a₀) {lo nrem : Nat} {st : SortSt} {Q : Option Nat → SortSt → Prop} (hB : Sp' κ a₀ P st) (hn : lo + nrem ≤ a₀.size) (h1 : 1 ≤ nrem) (h : ∀ m st', 1 ≤ m → m ≤ nrem → Sp' κ a₀ P st' → Q (some m) st') :
    wpS (model prog w) A E s (countRun' lo nrem) Q st := by
  rw [countRun'_eq]
  dsimp only
  refine wpS_bind (wpS_mono (wpS_forRange (I := fun x c st' => st' = st ∧ c = (none, x)) (Q := fun c st' => st' = st ∧ ∃ n, c = (none, n) ∧ 1 ≤ n ∧ n ≤ nrem) ?step ?fin ⟨rfl, rfl⟩) ?post)
  case fin => rintro c st' ⟨rfl, rfl⟩; exact ⟨rfl, _, rfl, by omega, by omega⟩
  case step =>
    rintro x c st' h1x hx ⟨rfl, rfl⟩
    dsimp only
    refine wpS_bind (ltAt_any L hB.toSb (by omega) (by omega) fun b => ?_)
    cases b
    · exact wpS_pure ⟨rfl, rfl⟩
    · exact wpS_pure ⟨rfl, x, rfl, h1x, by omega⟩
  case post =>
    rintro c st' ⟨rfl, n, rfl, hn1, hn2⟩
    dsimp only
    refine ifeq (fun e => wpS_pure (h _ _ hn1 hn2 hB)) fun e => ?_
    refine ifany (fun _ => ?_) fun _ => ?_
    · refine wpS_bind (ltAt_any L hB.toSb (by omega) (by omega) fun b => ?_)
      cases b
      · dsimp only
        rw [if_neg (by simp)]
        refine wpS_bind (rev_any hB fun stB hC => ?_)
        refine wpS_bind (wpS_lift (wpAny_rule ⟨rfl, ?_⟩))
        refine wpS_bind (wpS_mono (wpS_forRange (I := fun x c st' => (Sp' κ a₀ P) st' ∧ ∃ q, c = (none, x, q)) (Q := fun c st' => (Sp' κ a₀ P) st' ∧ ∃ n q, c = (none, n, q) ∧ 1 ≤ n ∧ n ≤ nrem) ?_ ?_ ⟨hC, _, rfl⟩) ?_)
        · rintro x c st' h1x hx ⟨hA, q, e2⟩
          subst e2
          try dsimp only
          refine wpS_bind (ltAt_any L hA.toSb (by omega) (by omega) fun b => ?_)
          cases b
          · (try dsimp only)
            rw [if_neg (by simp)]
            refine wpS_bind (ltAt_any L hA.toSb (by omega) (by omega) fun b => ?_)
            cases b
            · exact wpS_pure ⟨hA, _, rfl⟩
            · exact wpS_pure ⟨hA, x, _, rfl, by omega, by omega⟩
          · (try dsimp only)
            rw [if_pos rfl]
            refine ifany (fun _ => wpS_bind (rev_any hA fun stB hC => wpS_pure ⟨hC, _, rfl⟩)) fun _ => wpS_pure ⟨hA, _, rfl⟩
        · rintro c st' ⟨hA, q, e2⟩; subst e2; exact ⟨hA, _, _, rfl, by omega, by omega⟩
        · rintro c st' ⟨hA, n, q, e2, hn1, hn2⟩
          subst e2
          try dsimp only
          refine ifany (fun _ => wpS_bind (rev_any hA fun stB hC => ?_)) fun _ => ?_
          · refine wpS_bind (rev_any hC fun stA hA => ?_)
            refine wpS_bind (wpS_mono (wpS_forRange (I := fun x c st' => st' = stA ∧ c = (none, x)) (Q := fun c st' => st' = stA ∧ ∃ n, c = (none, n) ∧ 1 ≤ n ∧ n ≤ nrem) ?_ ?_ ⟨rfl, rfl⟩) ?_)
            · rintro x c st' h1x hx ⟨e1, e2⟩
              subst e1; subst e2
              try dsimp only
              refine wpS_bind (ltAt_any L hA.toSb (by omega) (by omega) fun b => ?_)
              cases b
              · exact wpS_pure ⟨rfl, rfl⟩
              · exact wpS_pure ⟨rfl, x, rfl, by omega, by omega⟩
            · rintro c st' ⟨e1, e2⟩; subst e1; subst e2; exact ⟨rfl, _, rfl, by omega, by omega⟩
            · rintro c st' ⟨e1, n, e2, hn1, hn2⟩
              subst e1; subst e2
              exact wpS_pure (h _ _ hn1 hn2 hA)
          · refine wpS_bind (rev_any hA fun stA hA => ?_)
            refine wpS_bind (wpS_mono (wpS_forRange (I := fun x c st' => st' = stA ∧ c = (none, x)) (Q := fun c st' => st' = stA ∧ ∃ n, c = (none, n) ∧ 1 ≤ n ∧ n ≤ nrem) ?_ ?_ ⟨rfl, rfl⟩) ?_)
            · rintro x c st' h1x hx ⟨e1, e2⟩
              subst e1; subst e2
              try dsimp only
              refine wpS_bind (ltAt_any L hA.toSb (by omega) (by omega) fun b => ?_)
              cases b
              · exact wpS_pure ⟨rfl, rfl⟩
              · exact wpS_pure ⟨rfl, x, rfl, by omega, by omega⟩
            · rintro c st' ⟨e1, e2⟩; subst e1; subst e2; exact ⟨rfl, _, rfl, by omega, by omega⟩
            · rintro c st' ⟨e1, n, e2, hn1, hn2⟩
              subst e1; subst e2
              exact wpS_pure (h _ _ hn1 hn2 hA)
      · exact wpS_pure (h _ _ hn1 hn2 hB)
    · refine wpS_bind (wpS_lift (wpAny_rule ⟨rfl, ?_⟩))
      refine wpS_bind (wpS_mono (wpS_forRange (I := fun x c st' => (Sp' κ a₀ P) st' ∧ ∃ q, c = (none, x, q)) (Q := fun c st' => (Sp' κ a₀ P) st' ∧ ∃ n q, c = (none, n, q) ∧ 1 ≤ n ∧ n ≤ nrem) ?_ ?_ ⟨hB, _, rfl⟩) ?_)
      · rintro x c st' h1x hx ⟨hA, q, e2⟩
        subst e2
        try dsimp only
        refine wpS_bind (ltAt_any L hA.toSb (by omega) (by omega) fun b => ?_)
        cases b
        · (try dsimp only)
          rw [if_neg (by simp)]
          refine wpS_bind (ltAt_any L hA.toSb (by omega) (by omega) fun b => ?_)
          cases b
          · exact wpS_pure ⟨hA, _, rfl⟩
          · exact wpS_pure ⟨hA, x, _, rfl, by omega, by omega⟩
        · (try dsimp only)
          rw [if_pos rfl]
          refine ifany (fun _ => wpS_bind (rev_any hA fun stB hC => wpS_pure ⟨hC, _, rfl⟩)) fun _ => wpS_pure ⟨hA, _, rfl⟩
      · rintro c st' ⟨hA, q, e2⟩; subst e2; exact ⟨hA, _, _, rfl, by omega, by omega⟩
      · rintro c st' ⟨hA, n, q, e2, hn1, hn2⟩
        subst e2
        try dsimp only
        refine ifany (fun _ => wpS_bind (rev_any hA fun stB hC => ?_)) fun _ => ?_
        · refine wpS_bind (rev_any hC fun stA hA => ?_)
          refine wpS_bind (wpS_mono (wpS_forRange (I := fun x c st' => st' = stA ∧ c = (none, x)) (Q := fun c st' => st' = stA ∧ ∃ n, c = (none, n) ∧ 1 ≤ n ∧ n ≤ nrem) ?_ ?_ ⟨rfl, rfl⟩) ?_)
          · rintro x c st' h1x hx ⟨e1, e2⟩
            subst e1; subst e2
            try dsimp only
            refine wpS_bind (ltAt_any L hA.toSb (by omega) (by omega) fun b => ?_)
            cases b
            · exact wpS_pure ⟨rfl, rfl⟩
            · exact wpS_pure ⟨rfl, x, rfl, by omega, by omega⟩
          · rintro c st' ⟨e1, e2⟩; subst e1; subst e2; exact ⟨rfl, _, rfl, by omega, by omega⟩
          · rintro c st' ⟨e1, n, e2, hn1, hn2⟩
            subst e1; subst e2
            exact wpS_pure (h _ _ hn1 hn2 hA)
        · refine wpS_bind (rev_any hA fun stA hA => ?_)
          refine wpS_bind (wpS_mono (wpS_forRange (I := fun x c st' => st' = stA ∧ c = (none, x)) (Q := fun c st' => st' = stA ∧ ∃ n, c = (none, n) ∧ 1 ≤ n ∧ n ≤ nrem) ?_ ?_ ⟨rfl, rfl⟩) ?_)
          · rintro x c st' h1x hx ⟨e1, e2⟩
            subst e1; subst e2
            try dsimp only
            refine wpS_bind (ltAt_any L hA.toSb (by omega) (by omega) fun b => ?_)
            cases b
            · exact wpS_pure ⟨rfl, rfl⟩
            · exact wpS_pure ⟨rfl, x, rfl, by omega, by omega⟩
          · rintro c st' ⟨e1, e2⟩; subst e1; subst e2; exact ⟨rfl, _, rfl, by omega, by omega⟩
          · rintro c st' ⟨e1, n, e2, hn1, hn2⟩
            subst e1; subst e2
            exact wpS_pure (h _ _ hn1 hn2 hA)
/-- the runs lie side by side, from the beginning up to lo -/
def Pn (z lo : Nat) (P : Array (Nat × Nat × Nat)) : Prop :=
  ∀ i b n x, P[i]? = some (b, n, x) → 1 ≤ n ∧ b + n ≤ z ∧ (∀ b' n' x', P[i + 1]? = some (b', n', x') → b' = b + n) ∧ (P[i + 1]? = none → b + n = lo)
theorem wpS_set {σ : Type} {st' : σ} {Q : PUnit → σ → Prop} {st : σ} {M : Model} (h : Q ⟨⟩ st') : wpS M A E s (set st' : StateT σ Sem PUnit) Q st := by
  unfold wpS; rw [StateT.run_set]; exact wpAny_pure ⟨rfl, h⟩
theorem put_all (k : Nat) : ∀ (l : List (Keyed × Nat)) (xs : Array Keyed), (∀ p ∈ l, p.1 ∈ a₀) → Inn a₀ xs → (l.foldl (fun a p => a.setIfInBounds (k + p.2) p.1) xs).size = xs.size ∧ Inn a₀ (l.foldl (fun a p => a.setIfInBounds (k + p.2) p.1) xs)
  | [], xs, _, hx => ⟨rfl, hx⟩
  | q :: l, xs, hl, hx => by
    have hx' : Inn a₀ (xs.setIfInBounds (k + q.2) q.1) := fun p hp => by
      rcases Array.mem_or_eq_of_mem_setIfInBounds hp with h | h
      · exact hx p h
      · exact h ▸ hl q (List.mem_cons_self ..)
    obtain ⟨h1, h2⟩ := put_all k l _ (fun p hp => hl p (List.mem_cons_of_mem _ hp)) hx'
    exact ⟨h1.trans Array.size_setIfInBounds, h2⟩
theorem Pn.merge {z lo i sa na pw sb nb x : Nat} (hP : Pn z lo P) (h1 : P[i]? = some (sa, na, pw)) (h2 : P[i + 1]? = some (sb, nb, x)) : Pn z lo ((P.setIfInBounds i (sa, na + nb, pw)).eraseIdxIfInBounds (i + 1)) := by
  have hz : i + 1 < P.size := by
    rcases Nat.lt_or_ge (i + 1) P.size with h | h
    · exact h
    · rw [Array.getElem?_eq_none h] at h2; cases h2
  have e : ∀ j, ((P.setIfInBounds i (sa, na + nb, pw)).eraseIdxIfInBounds (i + 1))[j]? = if j < i then P[j]? else if j = i then some (sa, na + nb, pw) else P[j + 1]? := by
    intro j
    unfold Array.eraseIdxIfInBounds
    rw [dif_pos (by rw [Array.size_setIfInBounds]; exact hz), Array.getElem?_eraseIdx, Array.getElem?_setIfInBounds, Array.getElem?_setIfInBounds]
    repeat' split
    all_goals first | rfl | omega
  intro j b n y hj
  rw [e] at hj
  rw [e]
  obtain ⟨a1, a2, a3, a4⟩ := hP i sa na pw h1
  obtain ⟨b1, b2, b3, b4⟩ := hP (i + 1) sb nb x h2
  have hsb := a3 _ _ _ h2
  by_cases hji : j < i
  · rw [if_pos hji] at hj
    obtain ⟨c1, c2, c3, c4⟩ := hP j b n y hj
    refine ⟨c1, c2, ?_, ?_⟩
    · intro b' n' x' h'
      by_cases hj1 : j + 1 < i
      · rw [if_pos hj1] at h'; exact c3 _ _ _ h'
      · have hj2 : j + 1 = i := by omega
        rw [if_neg hj1, if_pos hj2] at h'
        cases h'
        exact c3 sa na pw (hj2 ▸ h1)
    · intro h'
      by_cases hj1 : j + 1 < i
      · rw [if_pos hj1] at h'; exact c4 h'
      · have hj2 : j + 1 = i := by omega
        rw [if_neg hj1, if_pos hj2] at h'
        cases h'
  · rw [if_neg hji] at hj
    by_cases hj0 : j = i
    · subst hj0
      rw [if_pos rfl] at hj
      cases hj
      refine ⟨by omega, by omega, ?_, ?_⟩
      · intro b' n' x' h'
        rw [if_neg (by omega), if_neg (by omega)] at h'
        have := b3 _ _ _ h'; omega
      · intro h'
        rw [if_neg (by omega), if_neg (by omega)] at h'
        have := b4 h'; omega
    · rw [if_neg hj0] at hj
      obtain ⟨c1, c2, c3, c4⟩ := hP (j + 1) b n y hj
      rw [if_neg (by omega), if_neg (by omega)]
      exact ⟨c1, c2, c3, c4⟩
theorem mergeAt_any (L : LtOk prog w A s κ a₀) {i lo : Nat} {st : SortSt} {Q : Bool → SortSt → Prop} (hB : Sp' κ a₀ P st) (hP : Pn a₀.size lo P) (hi : i + 1 < P.size)
    (h : ∀ st' P', Sp' κ a₀ P' st' → Pn a₀.size lo P' → P'.size + 1 = P.size → Q true st') : wpS (model prog w) A E s (mergeAt' i) Q st := by
  obtain ⟨⟨sa, na, pw⟩, h1⟩ : ∃ p, P[i]? = some p := ⟨_, getElem?_pos P i (by omega)⟩
  obtain ⟨⟨sb, nb, x⟩, h2⟩ : ∃ p, P[i + 1]? = some p := ⟨_, getElem?_pos P (i + 1) hi⟩
  obtain ⟨a1, a2, a3, a4⟩ := hP i sa na pw h1
  obtain ⟨b1, b2, b3, b4⟩ := hP (i + 1) sb nb x h2
  have hsb := a3 _ _ _ h2
  have hP' := hP.merge h1 h2
  unfold PyProof.Rows.mergeAt'
  refine wpS_bind (wpS_get ?_)
  dsimp only
  have hpe := hB.pend
  dsimp only [pendingOf] at hpe
  rw [hpe, h1, h2]
  dsimp only
  have hz := hB.size
  have hin := hB.inn
  dsimp only [arrOf] at hz hin
  refine wpS_bind (wpS_set ?_)
  have hB' : Sp' κ a₀ ((P.setIfInBounds i (sa, na + nb, pw)).eraseIdxIfInBounds (i + 1)) (setPending st ((P.setIfInBounds i (sa, na + nb, pw)).eraseIdxIfInBounds (i + 1))) := ⟨⟨hB.size, hB.mem, hB.kind, hB.failed⟩, rfl⟩
  have hZ : ((P.setIfInBounds i (sa, na + nb, pw)).eraseIdxIfInBounds (i + 1)).size + 1 = P.size := by
    unfold Array.eraseIdxIfInBounds
    rw [dif_pos (by rw [Array.size_setIfInBounds]; exact hi), Array.size_eraseIdx, Array.size_setIfInBounds]
    omega
  refine wpS_bind (elem_of hin (by omega) fun p hp => ?_)
  refine wpS_bind (gallop_any L hp hin (by omega) (by omega) hB'.kind fun k hk => ?_)
  dsimp only
  refine ifeq (fun _ => wpS_pure (h _ _ hB' hP' hZ)) fun e1 => ?_
  refine wpS_bind (elem_of hin (by omega) fun q hq => ?_)
  refine wpS_bind (gallop_any L hq hin (by omega) (by omega) hB'.kind fun m hm => ?_)
  dsimp only
  refine ifeq (fun _ => wpS_pure (h _ _ hB' hP' hZ)) fun e2 => ?_
  have fin : ∀ out st', Inn a₀ out → StS κ (setPending st ((P.setIfInBounds i (sa, na + nb, pw)).eraseIdxIfInBounds (i + 1))) st' → wpS (model prog w) A E s (do
      modify fun s => setArr s (out.toList.zipIdx.foldl (fun a (p, j) => a.setIfInBounds (sa + k + j) p) (arrOf s))
      return (failedOf (← get)).isNone) Q st' := by
    intro out st' ho hS
    have hB2 := hB'.toSb.sts hS
    refine wpS_bind (wpS_modify (wpS_bind (wpS_get ?_)))
    have := put_all (a₀ := a₀) (sa + k) out.toList.zipIdx (arrOf st') (fun p hp => ho _ (by
      have := List.fst_mem_of_mem_zipIdx hp
      simpa using this)) hB2.inn
    have hB3 : Sp' κ a₀ ((P.setIfInBounds i (sa, na + nb, pw)).eraseIdxIfInBounds (i + 1)) (setArr st' (out.toList.zipIdx.foldl (fun a (p, j) => a.setIfInBounds (sa + k + j) p) (arrOf st'))) :=
      ⟨hB2.setArr (this.1.trans hB2.size) this.2, hS.pend⟩
    have hf := hB3.failed
    refine wpS_pure ?_
    rw [hf]
    exact h _ _ hB3 hP' hZ
  refine ifany (fun _ => wpS_bind (mergeLo_any L hin.ext hin.ext ?_ ?_ hB'.kind fin)) fun _ => wpS_bind (mergeHi_any L hin.ext hin.ext ?_ ?_ hB'.kind fin)
  all_goals (rw [Array.size_extract]; omega)
theorem Pn.push {z lo n : Nat} (hP : Pn z lo P) (h0 : 1 ≤ n) (hn : lo + n ≤ z) : Pn z (lo + n) (P.push (lo, n, 0)) := by
  intro j b m y hj
  rw [Array.getElem?_push] at hj
  rw [Array.getElem?_push]
  by_cases hjz : j = P.size
  · rw [if_pos hjz] at hj
    cases hj
    refine ⟨h0, hn, ?_, fun _ => rfl⟩
    intro b' n' x' h'
    rw [if_neg (by omega), Array.getElem?_eq_none (by omega)] at h'
    cases h'
  · rw [if_neg hjz] at hj
    obtain ⟨c1, c2, c3, c4⟩ := hP j b m y hj
    refine ⟨c1, c2, ?_, ?_⟩
    · intro b' n' x' h'
      by_cases hj1 : j + 1 = P.size
      · rw [if_pos hj1] at h'
        cases h'
        exact (c4 (Array.getElem?_eq_none (by omega))).symm
      · rw [if_neg hj1] at h'; exact c3 _ _ _ h'
    · intro h'
      by_cases hj1 : j + 1 = P.size
      · rw [if_pos hj1] at h'; cases h'
      · rw [if_neg hj1] at h'
        have hj2 : j < P.size := by
          rcases Nat.lt_or_ge j P.size with h | h
          · exact h
          · rw [Array.getElem?_eq_none h] at hj; cases hj
        rw [Array.getElem?_eq_getElem (by omega)] at h'; cases h'
theorem Pn.power {z lo i pw : Nat} (hP : Pn z lo P) : Pn z lo (P.modify i fun x => (x.1, x.2.1, pw)) := by
  have e : ∀ j : Nat, ∀ b m y, (P.modify i fun x => (x.1, x.2.1, pw))[j]? = some (b, m, y) → ∃ y', P[j]? = some (b, m, y') := by
    intro j b m y h
    rw [Array.getElem?_modify] at h
    by_cases hi : i = j
    · rw [if_pos hi] at h
      cases hh : P[j]? with
      | none => rw [hh] at h; cases h
      | some q => rw [hh] at h; cases h; exact ⟨q.2.2, rfl⟩
    · rw [if_neg hi] at h; exact ⟨y, h⟩
  have e0 : ∀ j : Nat, (P.modify i fun x => (x.1, x.2.1, pw))[j]? = none → P[j]? = none := by
    intro j h
    rw [Array.getElem?_modify] at h
    by_cases hi : i = j
    · rw [if_pos hi] at h
      cases hh : P[j]? with
      | none => rfl
      | some q => rw [hh] at h; cases h
    · rw [if_neg hi] at h; exact h
  intro j b m y hj
  obtain ⟨y', hj⟩ := e j b m y hj
  obtain ⟨c1, c2, c3, c4⟩ := hP j b m y' hj
  refine ⟨c1, c2, ?_, fun h => c4 (e0 _ h)⟩
  intro b' n' x' h'
  obtain ⟨x'', h'⟩ := e _ _ _ _ h'
  exact c3 _ _ _ h'
theorem minRun_pos : ∀ (f n r : Nat), 1 ≤ n → 1 ≤ minRun' f n r
  | 0, n, r, h => by show 1 ≤ n + r; omega
  | f + 1, n, r, h => by
    rw [minRun'_succ]
    split
    · omega
    · exact minRun_pos f _ _ (by omega)
theorem pick_lt {c : Prop} [Decidable c] {n : Nat} (h : 2 ≤ n) : (if c then n - 2 - 1 else n - 2) + 1 < n := by split <;> omega
theorem sortRuns_any (L : LtOk prog w A s κ a₀) {st : SortSt} {Q : Unit → SortSt → Prop} (hB : Sp' κ a₀ #[] st) (h : ∀ st', Sb κ a₀ st' → Q () st') : wpS (model prog w) A E s sortRuns' Q st := by
  rw [sortRuns'_eq]
  refine wpS_bind (wpS_get ?_)
  dsimp only
  rw [hB.size]
  have P0 : Pn a₀.size 0 #[] := fun i b n x hx => by simp at hx
  refine wpS_bind (wpS_mono (wpS_forRange (I := fun x c st' => ∃ lo P, c = (none, lo) ∧ lo ≤ a₀.size ∧ Sp' κ a₀ P st' ∧ Pn a₀.size lo P) (Q := fun c st' => ∃ lo P, c = (none, lo) ∧ Sp' κ a₀ P st' ∧ Pn a₀.size lo P) ?step ?fin ⟨0, _, rfl, by omega, hB, P0⟩) ?post)
  case fin => rintro c st' ⟨lo, P, rfl, hlo, hB', hP⟩; exact ⟨lo, P, rfl, hB', hP⟩
  case post =>
    rintro c st' ⟨lo, P, rfl, hB', hP⟩
    dsimp only
    refine wpS_bind (wpS_mono (wpS_forRange (I := fun _ c st' => c = (none, ()) ∧ ∃ P, Sp' κ a₀ P st' ∧ Pn a₀.size lo P) (Q := fun c st' => c = (none, ()) ∧ ∃ P, Sp' κ a₀ P st' ∧ Pn a₀.size lo P) ?_ (fun _ _ h => h) ⟨rfl, P, hB', hP⟩) ?_)
    · rintro x c st3 _ _ ⟨rfl, P3, hB3, hP3⟩
      refine wpS_bind (wpS_get ?_)
      rw [hB3.pend]
      refine ifany (fun _ => wpS_pure ⟨rfl, P3, hB3, hP3⟩) fun hz => ?_
      exact wpS_bind (mergeAt_any L hB3 hP3 (pick_lt (by omega)) fun st4 P4 hB4 hP4 _ => wpS_pure ⟨rfl, P4, hB4, hP4⟩)
    · rintro c st3 ⟨rfl, P3, hB3, hP3⟩
      exact wpS_pure (h _ hB3.toSb)
  case step =>
    rintro x c st' _ _ ⟨lo, P, rfl, hlo, hB', hP⟩
    dsimp only
    refine ifany (fun _ => wpS_pure ⟨lo, P, rfl, hB', hP⟩) fun hl => ?_
    refine wpS_bind (countRun_any L hB' (by omega) (by omega) fun m st2 hm1 hm2 hB2 => ?_)
    dsimp only
    have hmr := minRun_pos a₀.size a₀.size 0 (by omega)
    refine ifany (fun hmm => ?_) fun hmm => ?_
    · refine wpS_bind (wpS_lift (wpAny_rule ⟨rfl, ?_⟩))
      refine wpS_bind (binarySort_any L hB2 (by omega) fun st3 hB3 => ?_)
      rw [if_neg (by simp)]
      refine wpS_bind (wpS_get ?_)
      rw [(hB3).pend]
      split
      · refine wpS_bind (wpS_mono (wpS_forRange (I := fun _ c st' => c = (none, ()) ∧ ∃ P, Sp' κ a₀ P st' ∧ Pn (a₀).size lo P) (Q := fun c st' => c = (none, ()) ∧ ∃ P, Sp' κ a₀ P st' ∧ Pn (a₀).size lo P) ?_ (fun _ _ h => h) ⟨rfl, _, hB3, hP⟩) ?_)
        · rintro x c st3 _ _ ⟨e1, P3, hB3, hP3⟩
          subst e1
          refine wpS_bind (wpS_get ?_)
          rw [hB3.pend]
          by_cases hz : P3.size > 1
          · rw [if_pos hz, getElem?_pos P3 (P3.size - 2) (by omega)]
            refine ifany (fun _ => wpS_pure ⟨rfl, P3, hB3, hP3⟩) fun _ => ?_
            exact wpS_bind (mergeAt_any L hB3 hP3 (by omega) fun st4 P4 hB4 hP4 _ => wpS_pure ⟨rfl, P4, hB4, hP4⟩)
          · rw [if_neg hz]
            exact wpS_pure ⟨rfl, P3, hB3, hP3⟩
        · rintro c st3 ⟨e1, P3, hB3, hP3⟩
          subst e1
          try dsimp only
          refine wpS_bind (wpS_modify (wpS_bind (wpS_modify (wpS_pure ⟨_, _, rfl, by omega, ⟨⟨hB3.size, hB3.mem, hB3.kind, hB3.failed⟩, rfl⟩, ?_⟩))))
          show Pn _ _ (Array.push (Array.modify (pendingOf st3) _ _) _)
          rw [hB3.pend]
          exact (hP3.power).push (by omega) (by omega)
      · refine wpS_bind (wpS_modify (wpS_pure ⟨_, _, rfl, by omega, ⟨⟨(hB3).size, (hB3).mem, (hB3).kind, (hB3).failed⟩, rfl⟩, ?_⟩))
        show Pn _ _ (Array.push (pendingOf _) _)
        rw [(hB3).pend]
        exact (hP).push (by omega) (by omega)
    · refine wpS_bind (wpS_get ?_)
      rw [(hB2).pend]
      split
      · refine wpS_bind (wpS_mono (wpS_forRange (I := fun _ c st' => c = (none, ()) ∧ ∃ P, Sp' κ a₀ P st' ∧ Pn (a₀).size lo P) (Q := fun c st' => c = (none, ()) ∧ ∃ P, Sp' κ a₀ P st' ∧ Pn (a₀).size lo P) ?_ (fun _ _ h => h) ⟨rfl, _, hB2, hP⟩) ?_)
        · rintro x c st3 _ _ ⟨e1, P3, hB3, hP3⟩
          subst e1
          refine wpS_bind (wpS_get ?_)
          rw [hB3.pend]
          by_cases hz : P3.size > 1
          · rw [if_pos hz, getElem?_pos P3 (P3.size - 2) (by omega)]
            refine ifany (fun _ => wpS_pure ⟨rfl, P3, hB3, hP3⟩) fun _ => ?_
            exact wpS_bind (mergeAt_any L hB3 hP3 (by omega) fun st4 P4 hB4 hP4 _ => wpS_pure ⟨rfl, P4, hB4, hP4⟩)
          · rw [if_neg hz]
            exact wpS_pure ⟨rfl, P3, hB3, hP3⟩
        · rintro c st3 ⟨e1, P3, hB3, hP3⟩
          subst e1
          try dsimp only
          refine wpS_bind (wpS_modify (wpS_bind (wpS_modify (wpS_pure ⟨_, _, rfl, by omega, ⟨⟨hB3.size, hB3.mem, hB3.kind, hB3.failed⟩, rfl⟩, ?_⟩))))
          show Pn _ _ (Array.push (Array.modify (pendingOf st3) _ _) _)
          rw [hB3.pend]
          exact (hP3.power).push (by omega) (by omega)
      · refine wpS_bind (wpS_modify (wpS_pure ⟨_, _, rfl, by omega, ⟨⟨(hB2).size, (hB2).mem, (hB2).kind, (hB2).failed⟩, rfl⟩, ?_⟩))
        show Pn _ _ (Array.push (pendingOf _) _)
        rw [(hB2).pend]
        exact (hP).push (by omega) (by omega)
end
end L2

namespace L2
open PySem PySem.Spec PyProof.Rows PySem.W
/-- a tuple of ints, not empty -/
def TupI (h : Heap) (v : Value) : Prop := ∃ a o xs n, v = .ref a ∧ h.get? a = some o ∧ o.cls = .type "tuple" ∧ o.data = .seq xs n ∧ 1 ≤ xs.size ∧ ∀ u ∈ xs.toList, ∃ k t, u = .int k t
section
variable {prog : Program} {w : World} {A : Around} {E : Value → Shared → Prop} {s : Shared}
theorem lex_ints {fin : Bool} {Q : Bool → Shared → Prop} (h : ∀ b, Q b s) : ∀ (l : List (Value × Value)) (i : Nat), (∀ p ∈ l, (∃ k t, p.1 = .int k t) ∧ ∃ k t, p.2 = .int k t) → KatLex prog w A true fin Q l i s
  | [], _, _ => kat_nil (h _)
  | (p, q) :: l, i, hl => by
    obtain ⟨⟨k, t, h1⟩, m, u, h2⟩ := hl _ (List.mem_cons_self ..)
    dsimp only at h1 h2
    subst h1; subst h2
    refine kat_cons (wpAny_eqBool_int (kat_go (fun _ => kat_yes (lex_ints h l (i + 1) fun p hp => hl p (List.mem_cons_of_mem _ hp))) fun _ => kat_no ?_))
    rw [Bool.true_and]
    cases hi : (i == 0)
    · exact kat_one _ _ (lt_int (show W.BoolBack Q (.bool _) s from h _))
    · exact oneLt_int (h _)
theorem tup_lt {x y : Value} {Q : Bool → Shared → Prop} (hx : TupI s.heap x) (hy : TupI s.heap y) (h : ∀ b, Q b s) : wpAny (model prog w) A (keyLt' (tuples' true) x y) Q E s := by
  obtain ⟨a, o, xs, n, rfl, e, -, d, -, hi⟩ := hx
  obtain ⟨b, o', ys, m, rfl, e', -, d', -, hi'⟩ := hy
  exact kat_lt e d e' d' (lex_ints h _ 0 fun p hp => ⟨hi _ (List.of_mem_zip hp).1, hi' _ (List.of_mem_zip hp).2⟩)
theorem tup_firsts {h : Heap} : ∀ (vs : List Value), (∀ v ∈ vs, TupI h v) → ∃ fs : List Value, KatTups h vs fs ∧ fs.length = vs.length ∧ ∀ f ∈ fs, ∃ k t, f = .int k t
  | [], _ => ⟨[], .nil, rfl, fun _ h => by simp at h⟩
  | v :: vs, hv => by
    obtain ⟨fs, h1, h2, h3⟩ := tup_firsts vs fun u hu => hv u (List.mem_cons_of_mem _ hu)
    obtain ⟨a, o, xs, n, rfl, e, hc, d, hz, hi⟩ := hv v (List.mem_cons_self ..)
    refine ⟨xs[0] :: fs, .cons e hc d (getElem?_pos xs 0 hz) h1, by simp [h2], fun f hf => ?_⟩
    rcases List.mem_cons.mp hf with rfl | hf
    · exact hi _ (by simp)
    · exact h3 f hf
theorem kind_tups {vs : List Value} {Q : SortKind → Shared → Prop} (hv : ∀ v ∈ vs, TupI s.heap v) (h1 : 1 ≤ vs.length) (h : Q (tuples' true) s) : wpAny (model prog w) A (keyKind' vs.toArray) Q E s := by
  obtain ⟨fs, t, hl, hf⟩ := tup_firsts vs hv
  refine kat_kind (T := .type "int") t (by omega) (fun v hv => ?_) rfl h
  obtain ⟨k, t, rfl⟩ := hf v hv
  exact .now
theorem TupI.keep {h h' : Heap} {v : Value} {a : Addr} {o : Obj} (t : TupI h v) (ha : h.get? a = some o) (hc : o.cls ≠ .type "tuple") (k : ∀ b u, b ≠ a → h.get? b = some u → h'.get? b = some u) : TupI h' v := by
  obtain ⟨b, o', xs, n, rfl, e, c, d, hz, hi⟩ := t
  refine ⟨b, o', xs, n, rfl, k _ _ (fun hb => ?_) e, c, d, hz, hi⟩
  subst hb
  rw [ha] at e; cases e
  exact hc c
theorem list_sort_tups {a : Addr} {vs : List Value} {n : Nat} {P : PySem.Fin → Shared → Prop} (ho : s.heap.get? a = some (seqObj "list" vs.toArray n)) (hv : ∀ v ∈ vs, TupI s.heap v) (h2 : 2 ≤ vs.length) (hz : vs.length ≤ 30000)
    (q : ∀ out : Array Value, out.size = vs.length → (∀ v ∈ out.toList, v ∈ vs) → P (.done (.ret .none)) { s with heap := sortedHeap s.heap a vs out }) : wpAny (model prog w) A (Builtin.«list.sort» ⟨[.ref a], []⟩) P E s := by
  have vz : vs.toArray.size = vs.length := List.size_toArray
  have vl : vs.length ≤ sizeLine := by rw [sizeLine_eq]; omega
  rw [list_sort_plain]; refine wpAny_bind (listItems_at ho rfl (wpAny_bind (listUpdate_at ho rfl ?_ (vz ▸ vl) (Nat.zero_le _))))
  obtain ⟨k, hk⟩ : ∃ k, (s.heap.update a (Obj.mapSeq fun _ => #[])).get? a = some (seqObj "list" #[] k) := ⟨_, get?_update_seq ho fun _ => #[]⟩
  refine wpAny_bind (seqEpoch_at hk rfl (wpAny_bind (wpAny_newTuple (wpAny_bind (wpAny_newList (wpAny_holding ?_))))))
  -- the heap in which the items are held against each other
  obtain ⟨h', eh⟩ : ∃ h', h' = ((s.heap.update a (Obj.mapSeq fun _ => #[])).push (seqObj "tuple" vs.toArray 0)).push (seqObj "list" #[] 0) := ⟨_, rfl⟩
  have at' : h'.get? a = some (seqObj "list" #[] k) := by rw [eh]; exact Heap.get?_push_of_some _ (Heap.get?_push_of_some _ hk)
  have tv : ∀ v ∈ vs, TupI h' v := fun v hm => (hv v hm).keep ho (show Value.type "list" ≠ Value.type "tuple" by simp) fun b u hb e => by
    rw [eh]; exact Heap.get?_push_of_some _ (Heap.get?_push_of_some _ (Heap.get?_update_of_ne _ (Ne.symm hb) e))
  have q' : ∀ out : Array Value, out.size = vs.length → (∀ v ∈ out.toList, v ∈ vs) → P (.done (.ret .none)) { s with heap := h'.update a (Obj.mapSeq fun _ => out) } := fun out h3 h4 => by rw [eh]; exact q out h3 h4
  change wpAny (model prog w) A _ P E { s with heap := ((s.heap.update a (Obj.mapSeq fun _ => #[])).push (seqObj "tuple" vs.toArray 0)).push (seqObj "list" #[] 0) }
  rw [← eh]; clear eh; dsimp only; rw [if_neg (by omega), if_neg (by omega)]
  have L : LtOk prog w A { s with heap := h' } (tuples' true) (pairsOf vs) := fun p r hp hr E Q hQ =>
    tup_lt (tv _ (mem_zip_self (by rw [← pairsOf_toList]; simpa using hp)).2) (tv _ (mem_zip_self (by rw [← pairsOf_toList]; simpa using hr)).2) hQ
  refine wpAny_bind (kind_tups (s := { s with heap := h' }) tv (by omega) (wpAny_bind (wpAny_mono (sortRuns_any L (st := SortSt.mk' (tuples' true) (vs.toArray.zip vs.toArray) #[] 7 none)
      (Q := fun _ st' => Sb (tuples' true) (pairsOf vs) st') ⟨⟨rfl, fun p hp => hp, rfl, rfl⟩, rfl⟩ fun st' hb => hb) ?_ fun _ _ e => e)))
  rintro ⟨⟨⟩, st'⟩ s' ⟨rfl, hb⟩
  have oz : ((arrOf st').map (·.2)).size = vs.length := by rw [Array.size_map, hb.size, pairsOf_size]
  dsimp only; refine wpAny_bind (seqEpoch_at at' rfl (wpAny_bind (listUpdate_at at' rfl ?_ (hsz2 := by rw [oz]; omega))))
  rw [hb.failed]; simp only [bne_self_eq_false, Bool.false_eq_true, if_false]
  refine wpAny_pure (q' _ oz fun v hm => ?_)
  rw [Array.toList_map] at hm
  obtain ⟨p, hp, rfl⟩ := List.mem_map.mp hm
  have z := mem_zip_self (by rw [← pairsOf_toList]; simpa using hb.mem p (by simpa using hp))
  exact z.1 ▸ z.2
theorem sorted_tups {l : Addr} {vs : List Value} {Q : Value → Shared → Prop} (hl : s.heap.IsList l vs.toArray) (hv : ∀ v ∈ vs, TupI s.heap v) (h2 : 2 ≤ vs.length) (hz : vs.length ≤ 30000)
    (q : ∀ out : Array Value, out.size = vs.length → (∀ v ∈ out.toList, v ∈ vs) → Q (.ref (s.heap.objs.size + 1)) { s with heap := sortedAll s.heap vs out }) : wpAny (model prog w) A (call (.builtin "sorted") [.ref l]) Q E s := by
  refine Calls.call_function_entry kind_sorted plain_sorted entry_sorted (args_sorted1 _) ?_; unfold Builtin.«sorted»; refine wpAny_bind (m := checkCount "sorted" 1 1 _) (wpAny_pure ?_)
  refine wpAny_bind (collect_list hl (wpAny_bind (wpAny_newList ?_)) (by rw [sizeLine_eq]; omega))
  have z1 : ((s.heap.push (seqObj "list" #[] 0)).update s.heap.objs.size (Obj.mapSeq (· ++ vs.toArray))).objs.size = s.heap.objs.size + 1 := by rw [Heap.size_update, size_push']
  have z2 : (((s.heap.push (seqObj "list" #[] 0)).update s.heap.objs.size (Obj.mapSeq (· ++ vs.toArray))).push (seqObj "list" vs.toArray 0)).get? (s.heap.objs.size + 1) = some (seqObj "list" vs.toArray 0) := by rw [← z1]; exact Heap.get?_push_size _ rfl
  have tv : ∀ v ∈ vs, TupI (((s.heap.push (seqObj "list" #[] 0)).update s.heap.objs.size (Obj.mapSeq (· ++ vs.toArray))).push (seqObj "list" vs.toArray 0)) v := fun v hm => by
    obtain ⟨b, o', xs, n, rfl, e, c, d, z, hi⟩ := hv v hm
    exact ⟨b, o', xs, n, rfl, Heap.get?_push_of_some _ (Heap.get?_update_of_ne _ (Nat.ne_of_gt (Heap.lt_size e)) (Heap.get?_push_of_some _ e)), c, d, z, hi⟩
  change wpAny _ _ _ _ _ { s with heap := ((s.heap.push (seqObj "list" #[] 0)).update s.heap.objs.size (Obj.mapSeq (· ++ vs.toArray))).push (seqObj "list" vs.toArray 0) }
  rw [z1]; refine wpAny_bind (wpAny_holding (wpAny_call_entry slot_list_sort ⟨_, z2, rfl⟩ entry_list_sort (list_sort_tups z2 tv h2 hz fun out a1 a2 => ⟨_, rfl, wpAny_pure ⟨_, rfl, q out a1 a2⟩⟩) (args_list_sort _)))
end
theorem vals_from {vs : List V} {its : List Value} (r : Vals vs its) : ∀ (out : List Value), (∀ v ∈ out, v ∈ its) → ∃ us, Vals us out ∧ ∀ u ∈ us, u ∈ vs
  | [], _ => ⟨[], .nil, fun _ h => by simp at h⟩
  | v :: out, h => by
    obtain ⟨us, h1, h2⟩ := vals_from r out fun u hu => h u (List.mem_cons_of_mem _ hu)
    obtain ⟨i, hi, e⟩ := List.getElem_of_mem (h v (List.mem_cons_self ..))
    have hl := r.length
    obtain ⟨u, e1, e2⟩ := r.get (i := i) (x := vs[i]'(by omega)) (List.getElem?_eq_getElem _)
    rw [List.getElem?_eq_getElem hi, e] at e1
    cases e1
    refine ⟨_ :: us, .cons e2 h1, fun x hx => ?_⟩
    rcases List.mem_cons.mp hx with rfl | hx
    · exact List.getElem_mem _
    · exact h2 x hx
section
variable {X : Cx}
theorem call_sorted_tups : CallR X (.builtin "sorted") (fun xs H Q => ∃ (p : Addr) (vs : List V), xs = [.ref p] ∧ SqL X.K H p vs ∧ 2 ≤ vs.length ∧ vs.length ≤ 30000 ∧
    (∀ v ∈ vs, ∃ (a : Addr) (ns : List Int), v = .ref a ∧ SqT X.K H a (ns.map V.int) ∧ 1 ≤ ns.length) ∧ ∀ (l : Addr) (us : List V), us.length = vs.length → (∀ u ∈ us, u ∈ vs) → H l = none → Q (.ref l) (upd H l (.lst us))) := by
  intro pins s σ H xs us Q I r h
  obtain ⟨p, vs, rfl, hq, h2, hz, hv, q⟩ := h
  obtain ⟨u, rfl, rx⟩ := vals1 r
  cases rx
  obtain ⟨its, r', pl, hz'⟩ := I.list hq
  have hlen := r'.length
  have hT : ∀ v ∈ its, TupI s.heap v := fun v hm => by
    obtain ⟨i, hi, e⟩ := List.getElem_of_mem hm
    obtain ⟨u, e1, e2⟩ := r'.get (i := i) (x := vs[i]'(by omega)) (List.getElem?_eq_getElem _)
    rw [List.getElem?_eq_getElem hi, e] at e1
    cases e1
    obtain ⟨a, ns, hu, ht, h1⟩ := hv _ (List.getElem_mem (l := vs) (n := i) (by omega))
    rw [hu] at e2
    cases e2
    obtain ⟨its', r2, ⟨o, e3, c, n, d⟩, hz2⟩ := I.tuple ht
    have hl2 := r2.length
    rw [List.length_map] at hl2
    refine ⟨a, o, _, n, rfl, e3, c, d, by simp; omega, fun u hu => ?_⟩
    exact (intsAre_of r2).all u (by simpa using hu)
  refine sorted_tups pl.isList hT (by omega) (by omega) fun out a1 a2 => ?_
  obtain ⟨us, b1, b2⟩ := vals_from r' out.toList a2
  have hl3 := b1.length
  have a3 : out.toList.length = its.length := by simpa using a1
  obtain ⟨e, he⟩ := sortedAll_at s.heap its out
  refine ⟨.ref (s.heap.objs.size + 1), _, I.laid (t' := s.toks) (fun _ _ => sortedAll_old) (Nat.le_succ _) (show ObjOk X.prog X.w _ _ _ (.lst us) from ⟨?_, out.toList, e, b1, ?_⟩), rfl, q _ us (by omega) b2 (I.hok.fresh (Nat.le_succ _))⟩
  · rw [sizeLine_eq] at *; omega
  · rw [Array.toArray_toList]; exact he
end
end L2
namespace L2
open PySem PySem.Spec PyProof.Rows PySem.SeqAt
section
variable {X : Cx}
/-- a tuple that is not empty == () -/
theorem op_eqT0 (hu : X.A.units + 4 < cLine) : OpR X (compareOp .Eq) (fun x y H Q => ∃ p q xs, x = .ref p ∧ y = .ref q ∧ SqT X.K H p xs ∧ SqT X.K H q [] ∧ 1 ≤ xs.length ∧ Q (.bl false) H) := by
  intro pins s σ H x y u v Q I ru rv h
  obtain ⟨p, q, xs, rfl, rfl, hp, hq, hl, k⟩ := h
  cases (show u = Value.ref p from ru)
  cases (show v = Value.ref q from rv)
  obtain ⟨us, r1, t1, _⟩ := I.tuple hp
  obtain ⟨vs, r2, t2, _⟩ := I.tuple hq
  have l1 := r1.length
  have l2 := r2.length
  rw [List.length_nil] at l2
  refine eq_tupleAt (e := fun _ => true) t1 t2 (by omega) (fun j h1 h2 => ?_) ?_
  · have h2' : j < vs.length := by simpa using h2
    omega
  · rw [show (us.toArray.size == vs.toArray.size) = false by simp; omega, Bool.and_false]
    exact ⟨.bl _, H, I, rfl, k⟩
theorem hu5 {A : Around} {k : Nat} (hr : Room k A) : A.units + 4 < cLine := Nat.lt_of_le_of_lt (Nat.add_le_add_left (by decide : 4 ≤ 64) _) hr.units
end
end L2

/-! the nearest pitch -/
namespace My
open PySem L2 Mt
theorem row_in {ws : List Int} (rg : ∀ v ∈ ws, 10 ≤ v ∧ v ≤ 127) : ∀ t ∈ pairsM ws ++ quadM ws, ∃ x y, t = [x, y] ∧ (1 ≤ x ∧ x ≤ 16129) ∧ 1 ≤ y ∧ y ≤ 16129 := fun t ht => by
  rcases List.mem_append.mp ht with h | h
  · obtain ⟨a, b, ha, hb, _, rfl⟩ := mem_pairsM.mp h
    have h1 := rg a ha
    have h2 := rg b hb
    exact ⟨a, b, rfl, ⟨by omega, by omega⟩, by omega, by omega⟩
  · unfold quadM at h
    obtain ⟨a, ha, h⟩ := List.mem_flatMap.mp h
    unfold q1 at h
    obtain ⟨c, hc, h⟩ := List.mem_flatMap.mp h
    unfold q2 at h
    split at h
    · obtain ⟨b, hb, h⟩ := List.mem_flatMap.mp h
      unfold q3 at h
      obtain ⟨d, hd, h⟩ := List.mem_flatMap.mp h
      unfold q4 at h
      split at h
      · have h1 := rg a ha
        have h2 := rg b hb
        have h3 := rg c hc
        have h4 := rg d hd
        have m1 := mul_in h1.1 h1.2 h3.1 h3.2
        have m2 := mul_in h2.1 h2.2 h4.1 h4.2
        exact ⟨a * c, b * d, List.mem_singleton.mp h, ⟨by omega, by omega⟩, by omega, by omega⟩
      · simp at h
    · simp at h
/-- each pitch of the rows is that of a train -/
theorem row_all {ws sw : List Int} (hp : sw.Perm ws) : ∀ x y, [x, y] ∈ pairsM ws ++ quadM ws → ∃ t ∈ allT sw, ratT t = x ∧ ratB t = y := fun x y ht => by
  have inn : ∀ v, v ∈ ws → v ∈ sw := fun v hv => hp.mem_iff.mpr hv
  rcases List.mem_append.mp ht with h | h
  · obtain ⟨a, b, ha, hb, n, e⟩ := mem_pairsM.mp h
    exact ⟨[a, b], List.mem_append_left _ (mem_pairsM.mpr ⟨a, b, inn a ha, inn b hb, n, rfl⟩), by cases e; exact ⟨rfl, rfl⟩⟩
  · unfold quadM at h
    obtain ⟨a, ha, h⟩ := List.mem_flatMap.mp h
    unfold q1 at h
    obtain ⟨c, hc, h⟩ := List.mem_flatMap.mp h
    unfold q2 at h
    split at h
    · rename_i lac
      obtain ⟨b, hb, h⟩ := List.mem_flatMap.mp h
      unfold q3 at h
      obtain ⟨d, hd, h⟩ := List.mem_flatMap.mp h
      unfold q4 at h
      split at h
      · rename_i z
        have e := List.mem_singleton.mp h
        refine ⟨[a, b, c, d], List.mem_append_right _ (mem_foursM.mpr ⟨a, b, c, d, ⟨inn a ha, inn b hb, inn c hc, inn d hd⟩, by omega, by omega, by omega, by omega, by omega, by omega, rfl⟩), ?_⟩
        cases e; exact ⟨rfl, rfl⟩
      · simp at h
    · simp at h
/-- none suits better than the choice -/
theorem Best.none_better {p q : Int} {tss : List (List Int)} {c t : List Int} (h : Best p q tss c) (pos : ∀ x ∈ tss, 0 < ratB x) (ht : t ∈ tss) : ¬ Bt (ratT t) (ratB t) (ratT c) (ratB c) p q := by
  obtain ⟨u, v, rfl, h1, h2⟩ := h.ex
  have pc : 0 < ratB c := pos c (by simp)
  rcases List.mem_append.mp ht with z | z
  · exact (h1 t z).asym
  · rcases List.mem_cons.mp z with z | z
    · subst z; exact Bt.ne rfl pc pc
    · exact h2 t z
theorem Best.near {p q x y a b : Int} {tss : List (List Int)} {c t : List Int} (h : Best p q tss c) (pos : ∀ x ∈ tss, 0 < ratB x) (ht : t ∈ tss) (ea : ratT t = a) (eb : ratB t = b) (hy : 0 < y) (pc : 0 < ratB c) (e : ratT c * y = x * ratB c) : ¬ Bt a b x y p q := fun z => by
  subst ea; subst eb
  exact h.none_better pos ht (Bt.step pc hy (pos t ht) (Bt.ne e pc hy) z)
/-- the heap but for one object -/
def hide (H : Hp) (R : Addr) : Hp := fun a => if a = R then none else H a
theorem hide_at {H : Hp} {R : Addr} : hide H R R = none := if_pos rfl
theorem hide_ne {H : Hp} {R a : Addr} (h : a ≠ R) : hide H R a = H a := if_neg h
theorem hide_refl {H : Hp} {R : Addr} : Same (hide H R) H := fun a o h => by
  unfold hide at h
  split at h
  · cases h
  · exact h
theorem gap501 {a b p q : Int} (h1 : Bd 200 a) (h2 : Bd 200 b) (h3 : Bd 300 p) (h4 : Bd 300 q) : Bd 501 (gapF a b p q) := by
  have h := (h1.mul h4).sub (h3.mul h2)
  unfold gapF
  split
  · exact h.neg
  · exact h
/-- the rows of _law_between -/
def Row3 (t : List Int) : Prop := ∃ x y z, t = [x, y, z] ∧ (1 ≤ y ∧ y ≤ 16129) ∧ 1 ≤ z ∧ z ≤ 16129
theorem tl_mem {H : Hp} {rs : List Addr} {tss : List (List Int)} {v : V} (h : Paired (fun r t => H r = some (.tup (t.map V.int))) rs tss) (hv : v ∈ rs.map V.ref) : ∃ r t, v = .ref r ∧ t ∈ tss ∧ H r = some (.tup (t.map V.int)) := by
  obtain ⟨i, hi, e⟩ := List.getElem_of_mem hv
  obtain ⟨r, t, e1, e2, e3⟩ := tl_at h (show (rs.map V.ref)[i]? = some v by rw [List.getElem?_eq_getElem hi, e])
  exact ⟨r, t, e1, List.mem_of_getElem? e2, e3⟩
theorem cut6 (ws : List Int) : cutV (ws.map V.int) none (some 6) = (ws.take 6).map V.int := by
  have e1 : HT.sIx (ws.map V.int).length 0 none = 0 := rfl
  have e2 : HT.sIx (ws.map V.int).length (ws.map V.int).length (some 6) = min 6 (ws.map V.int).length := by
    unfold HT.sIx
    simp
    try omega
  unfold cutV
  rw [e1, e2, List.drop_zero, Nat.sub_zero, List.map_take]
  by_cases h : 6 ≤ (ws.map V.int).length
  · rw [Nat.min_eq_left h]
  · rw [Nat.min_eq_right (by omega), List.take_length, List.take_of_length_le (by omega)]
theorem hide_same {H H1 H' : Hp} {R : Addr} (s : Same H H1) (n : H R = none) (s' : Same (hide H1 R) H') : Same H H' := fun a o h => s' a o (by
  rw [hide_ne (fun e => by rw [e, n] at h; cases h)]; exact s a o h)
end My

namespace My
open PySem L2 Mt
def top (i : Nat) : Stmt := PySem.Challenge.pw_threadlathe_k09_nearest_pitch.main.body.getD i (.Pass ⟨0, 0, 0, 0⟩)
abbrev s_f_greatest_divisor : Stmt := top 1
theorem sc_f_greatest_divisor : FnScope ["a", "b", "rest"] ["a", "b"] (defScope s_f_greatest_divisor) := ⟨rfl, rfl, rfl, by decide +kernel, rfl, by decide +kernel, by decide +kernel⟩
abbrev s_f_least_terms : Stmt := top 2
theorem sc_f_least_terms : FnScope ["top", "bottom", "divisor"] ["top", "bottom"] (defScope s_f_least_terms) := ⟨rfl, rfl, rfl, by decide +kernel, rfl, by decide +kernel, by decide +kernel⟩
abbrev s_f_is_less : Stmt := top 3
theorem sc_f_is_less : FnScope ["a", "b"] ["a", "b"] (defScope s_f_is_less) := ⟨rfl, rfl, rfl, by decide +kernel, rfl, by decide +kernel, by decide +kernel⟩
abbrev s_f_plain_ratio : Stmt := top 5
theorem sc_f_plain_ratio : FnScope ["train"] ["train"] (defScope s_f_plain_ratio) := ⟨rfl, rfl, rfl, by decide +kernel, rfl, by decide +kernel, by decide +kernel⟩
abbrev s_f_ratio_of : Stmt := top 6
theorem sc_f_ratio_of : FnScope ["train", "ratio"] ["train"] (defScope s_f_ratio_of) := ⟨rfl, rfl, rfl, by decide +kernel, rfl, by decide +kernel, by decide +kernel⟩
abbrev s_f_pairs_of : Stmt := top 7
theorem sc_f_pairs_of : FnScope ["teeth", "pairs", "driver", "driven"] ["teeth"] (defScope s_f_pairs_of) := ⟨rfl, rfl, rfl, by decide +kernel, rfl, by decide +kernel, by decide +kernel⟩
abbrev s_f_fours_of : Stmt := top 8
theorem sc_f_fours_of : FnScope ["pairs", "fours", "front", "back"] ["pairs"] (defScope s_f_fours_of) := ⟨rfl, rfl, rfl, by decide +kernel, rfl, by decide +kernel, by decide +kernel⟩
abbrev s_f_all_trains : Stmt := top 9
theorem sc_f_all_trains : FnScope ["wheels", "pairs"] ["wheels"] (defScope s_f_all_trains) := ⟨rfl, rfl, rfl, by decide +kernel, rfl, by decide +kernel, by decide +kernel⟩
abbrev s_f_scaled_gap : Stmt := top 10
theorem sc_f_scaled_gap : FnScope ["ratio", "pitch"] ["ratio", "pitch"] (defScope s_f_scaled_gap) := ⟨rfl, rfl, rfl, by decide +kernel, rfl, by decide +kernel, by decide +kernel⟩
abbrev s_f_suits_better : Stmt := top 11
theorem sc_f_suits_better : FnScope ["ratio", "other", "pitch", "gap", "other_gap"] ["ratio", "other", "pitch"] (defScope s_f_suits_better) := ⟨rfl, rfl, rfl, by decide +kernel, rfl, by decide +kernel, by decide +kernel⟩
abbrev s_f_choose_train : Stmt := top 12
theorem sc_f_choose_train : FnScope ["wheels", "pitch", "trains", "chosen", "train"] ["wheels", "pitch"] (defScope s_f_choose_train) := ⟨rfl, rfl, rfl, by decide +kernel, rfl, by decide +kernel, by decide +kernel⟩
abbrev s_l_at : Stmt := top 14
theorem sc_l_at : FnScope ["_law_script", "_law_k"] ["_law_script", "_law_k"] (defScope s_l_at) := ⟨rfl, rfl, rfl, by decide +kernel, rfl, by decide +kernel, by decide +kernel⟩
abbrev s_l_draw : Stmt := top 15
theorem sc_l_draw : FnScope ["_law_script", "_law_k", "_law_cell"] ["_law_script", "_law_k"] (defScope s_l_draw) := ⟨rfl, rfl, rfl, by decide +kernel, rfl, by decide +kernel, by decide +kernel⟩
abbrev s_l_whole : Stmt := top 16
theorem sc_l_whole : FnScope ["_law_found"] ["_law_found"] (defScope s_l_whole) := ⟨rfl, rfl, rfl, by decide +kernel, rfl, by decide +kernel, by decide +kernel⟩
abbrev s_l_gcd : Stmt := top 17
theorem sc_l_gcd : FnScope ["_law_a", "_law_b"] ["_law_a", "_law_b"] (defScope s_l_gcd) := ⟨rfl, rfl, rfl, by decide +kernel, rfl, by decide +kernel, by decide +kernel⟩
abbrev s_l_frac : Stmt := top 18
theorem sc_l_frac : FnScope ["_law_found"] ["_law_found"] (defScope s_l_frac) := ⟨rfl, rfl, rfl, by decide +kernel, rfl, by decide +kernel, by decide +kernel⟩
abbrev s_l_kept : Stmt := top 19
theorem sc_l_kept : FnScope ["_law_handed", "_law_copy_of", "_law_k"] ["_law_handed", "_law_copy_of"] (defScope s_l_kept) := ⟨rfl, rfl, rfl, by decide +kernel, rfl, by decide +kernel, by decide +kernel⟩
abbrev s_l_shop : Stmt := top 20
theorem sc_l_shop : FnScope ["_law_cell", "_law_many", "_law_made", "_law_left", "_law_k", "_law_tooth"] ["_law_cell", "_law_many"] (defScope s_l_shop) := ⟨rfl, rfl, rfl, by decide +kernel, rfl, by decide +kernel, by decide +kernel⟩
abbrev s_l_pitches : Stmt := top 21
theorem sc_l_pitches : FnScope ["_law_wheels", "_law_made", "_law_a", "_law_b", "_law_c", "_law_d"] ["_law_wheels"] (defScope s_l_pitches) := ⟨rfl, rfl, rfl, by decide +kernel, rfl, by decide +kernel, by decide +kernel⟩
abbrev s_l_first : Stmt := top 22
theorem sc_l_first : FnScope ["_law_wheels", "_law_top", "_law_bottom", "_law_rising", "_law_a", "_law_b", "_law_c", "_law_d"] ["_law_wheels", "_law_top", "_law_bottom"] (defScope s_l_first) := ⟨rfl, rfl, rfl, by decide +kernel, rfl, by decide +kernel, by decide +kernel⟩
abbrev s_l_between : Stmt := top 23
theorem sc_l_between : FnScope ["_law_wheels", "_law_cell", "_law_rows", "_law_top", "_law_bottom", "_law_place", "_law_one", "_law_two"] ["_law_wheels", "_law_cell"] (defScope s_l_between) := ⟨rfl, rfl, rfl, by decide +kernel, rfl, by decide +kernel, by decide +kernel⟩
abbrev s_l_nearest : Stmt := top 24
theorem sc_l_nearest : FnScope ["_law_wheels", "_law_pitch", "_law_top", "_law_bottom", "_law_gap", "_law_a", "_law_b", "_law_other"] ["_law_wheels", "_law_pitch", "_law_top", "_law_bottom"] (defScope s_l_nearest) := ⟨rfl, rfl, rfl, by decide +kernel, rfl, by decide +kernel, by decide +kernel⟩
abbrev s_l_is : Stmt := top 25
theorem sc_l_is : FnScope ["_law_found", "_law_due", "_law_k"] ["_law_found", "_law_due"] (defScope s_l_is) := ⟨rfl, rfl, rfl, by decide +kernel, rfl, by decide +kernel, by decide +kernel⟩
abbrev s_l_any_shop : Stmt := top 26
theorem sc_l_any_shop : FnScope ["_law_script", "_law_k", "_law_cell", "_law_far", "_law_many", "_law_pool"] ["_law_script", "_law_k"] (defScope s_l_any_shop) := ⟨rfl, rfl, rfl, by decide +kernel, rfl, by decide +kernel, by decide +kernel⟩
abbrev s_law : Stmt := top 27
theorem sc_law : FnScope ["_law_script", "_law_wheels", "_law_cell", "_law_far", "_law_most", "_law_pitch", "_law_handed", "_law_found", "_law_due"] ["_law_script"] (defScope s_law) := ⟨rfl, rfl, rfl, by decide +kernel, rfl, by decide +kernel, by decide +kernel⟩
structure Txt (K : PySem.W.Frag) (mg : Str → Option Value) : Prop where
  h_f_greatest_divisor : Here K mg "greatest_divisor" s_f_greatest_divisor ["a", "b"]
  h_f_least_terms : Here K mg "least_terms" s_f_least_terms ["top", "bottom"]
  h_f_is_less : Here K mg "is_less" s_f_is_less ["a", "b"]
  h_f_plain_ratio : Here K mg "plain_ratio" s_f_plain_ratio ["train"]
  h_f_ratio_of : Here K mg "ratio_of" s_f_ratio_of ["train"]
  h_f_pairs_of : Here K mg "pairs_of" s_f_pairs_of ["teeth"]
  h_f_fours_of : Here K mg "fours_of" s_f_fours_of ["pairs"]
  h_f_all_trains : Here K mg "all_trains" s_f_all_trains ["wheels"]
  h_f_scaled_gap : Here K mg "scaled_gap" s_f_scaled_gap ["ratio", "pitch"]
  h_f_suits_better : Here K mg "suits_better" s_f_suits_better ["ratio", "other", "pitch"]
  h_f_choose_train : Here K mg "choose_train" s_f_choose_train ["wheels", "pitch"]
  h_l_at : Here K mg "_law_at" s_l_at ["_law_script", "_law_k"]
  h_l_draw : Here K mg "_law_draw" s_l_draw ["_law_script", "_law_k"]
  h_l_whole : Here K mg "_law_whole" s_l_whole ["_law_found"]
  h_l_gcd : Here K mg "_law_gcd" s_l_gcd ["_law_a", "_law_b"]
  h_l_frac : Here K mg "_law_frac" s_l_frac ["_law_found"]
  h_l_kept : Here K mg "_law_kept" s_l_kept ["_law_handed", "_law_copy_of"]
  h_l_shop : Here K mg "_law_shop" s_l_shop ["_law_cell", "_law_many"]
  h_l_pitches : Here K mg "_law_pitches" s_l_pitches ["_law_wheels"]
  h_l_first : Here K mg "_law_first" s_l_first ["_law_wheels", "_law_top", "_law_bottom"]
  h_l_between : Here K mg "_law_between" s_l_between ["_law_wheels", "_law_cell"]
  h_l_nearest : Here K mg "_law_nearest" s_l_nearest ["_law_wheels", "_law_pitch", "_law_top", "_law_bottom"]
  h_l_is : Here K mg "_law_is" s_l_is ["_law_found", "_law_due"]
  h_l_any_shop : Here K mg "_law_any_shop" s_l_any_shop ["_law_script", "_law_k"]
  z_abs : mg "abs" = none
  z_bool : mg "bool" = none
  z_int : mg "int" = none
  z_isinstance : mg "isinstance" = none
  z_len : mg "len" = none
  z_list : mg "list" = none
  z_range : mg "range" = none
  z_sorted : mg "sorted" = none
  z_tuple : mg "tuple" = none
section
variable {P : Program} {w : World} {K : PySem.W.Frag} {mg : Str → Option Value} {base : Heap}
def atF (ns : List Int) (k : Int) : Int := if k < (ns.length : Int) then ns.getD k.toNat 0 else 0
def spAt (K : PySem.W.Frag) : Sp := fun vs H Q _ => ∃ (a : Addr) (ns : List Int) (k : Int), vs = [.ref a, .int k] ∧ SqL K H a (ns.map V.int) ∧ 0 ≤ k ∧ Q (.int (atF ns k)) H
theorem d_l_at (T : Txt K mg) : DefOk P w K mg base "_law_at" ["_law_script", "_law_k"] 1 (spAt K) := by
  obtain ⟨f, fd, F, hm, hb⟩ := T.h_l_at
  refine ⟨f, fd, F.ok sc_l_at (fun vs H Q E h => ?_) (fun cdv A outer s H vs Q E hr h => ?_), hm, F.kp, hb⟩
  · obtain ⟨a, ns, k, rfl, _⟩ := h
    rfl
  obtain ⟨a, ns, k, rfl, hS, h0, q⟩ := h
  refine ⟨_, (@pss_cons _ _ _ _ _ (ps_if (pt_cmp (pc_lt (pv 1) (pe_callB call_len_seq (by rfl) T.z_len PySem.boot_len (pa_cons (pv 0) pa_nil))))
 (@pss_one _ _ _ (@ps_ret _ _ _ _ (@pe_ix _ _ _ _ _ _ _ ix_list (pv 0) (pv 1) (fun _ _ => rfl))))
 pss_nil)
 (@pss_one _ _ _ (@ps_ret _ _ _ _ pe_int))), ?_⟩
  refine ⟨_, rfl, _, rfl, a, _, rfl, .inl hS, _, _, rfl, rfl, _, rfl, ?_⟩
  have hl : (ns.map V.int).length = ns.length := List.length_map _
  refine ite2 (fun c => ?_) (fun c => ?_)
  · have c' : k < (((ns.map V.int).length : Nat) : Int) := of_decide_eq_true c
    rw [hl] at c'
    have hk : k.toNat < ns.length := by omega
    have e1 : atF ns k = ns[k.toNat] := by
      unfold atF
      rw [if_pos c', List.getD_eq_getElem?_getD, List.getElem?_eq_getElem hk]
      rfl
    have hv : atI (ns.map V.int) k = some (.int (atF ns k)) := by
      have ek : k = ((k.toNat : Nat) : Int) := by omega
      have := atI_nat (xs := ns.map V.int) (j := k.toNat) (v := .int ns[k.toNat]) (by rw [List.getElem?_map, List.getElem?_eq_getElem hk] <;> rfl)
      rw [← ek] at this
      rw [e1]; exact this
    exact ⟨_, rfl, _, rfl, a, _, _, _, rfl, rfl, hS, hv, q⟩
  · have c' : ¬ k < (((ns.map V.int).length : Nat) : Int) := of_decide_eq_false (Bool.eq_false_iff.mpr c)
    rw [hl] at c'
    have e1 : atF ns k = 0 := if_neg c'
    rw [e1] at q
    exact q

def drawF (ns : List Int) (k : Int) : Int := if atF ns 0 % 2 = 0 then atF ns k else (atF ns k * 48271 % 2147483647 + 977 * k) * 69621 % 2147483647
def spDraw (K : PySem.W.Frag) : Sp := fun vs H Q _ => ∃ (a : Addr) (ns : List Int) (k : Int), vs = [.ref a, .int k] ∧ SqL K H a (ns.map V.int) ∧ 0 ≤ k ∧ k ≤ 1000 ∧ Q (.int (drawF ns k)) H
theorem d_l_draw (T : Txt K mg) : DefOk P w K mg base "_law_draw" ["_law_script", "_law_k"] 2 (spDraw K) := by
  obtain ⟨f, fd, F, hm, hb⟩ := T.h_l_draw
  refine ⟨f, fd, F.ok sc_l_draw (fun vs H Q E h => ?_) (fun cdv A outer s H vs Q E hr h => ?_), hm, F.kp, hb⟩
  · obtain ⟨a, ns, k, rfl, _⟩ := h
    rfl
  obtain ⟨a, ns, k, rfl, hS, h0, h1, q⟩ := h
  refine ⟨_, (@pss_cons _ _ _ _ _ (@ps_set _ _ 2 _ _ _ _ sc_l_draw.nd rfl (Or.inl rfl) (pe_callD (d_l_at T) hr (pa_cons (pv 0) (pa_cons (pv 1) pa_nil))) (by rfl) (by first | exact .inl rfl | exact .inr rfl))
 (@pss_cons _ _ _ _ _ (ps_if (pt_cmp (pc_eqI (pe_op op_mod (pe_callD (d_l_at T) hr (pa_cons (pv 0) (pa_cons pe_int pa_nil))) pe_int) pe_int))
 (@pss_one _ _ _ (@ps_ret _ _ _ _ (pv 2)))
 pss_nil)
 (@pss_one _ _ _ (@ps_ret _ _ _ _ (pe_op op_mod (pe_op op_mulX (pe_op op_add (pe_op op_mod (pe_op op_mulX (pv 2) pe_int) pe_int) (pe_op op_mulX pe_int (pv 1))) pe_int) pe_int))))), ?_⟩
  refine ⟨_, rfl, _, rfl, a, ns, k, rfl, hS, h0, ?_⟩
  refine ⟨_, rfl, a, ns, 0, rfl, hS, Int.le_refl 0, _, _, rfl, rfl, (by show (0 : Int) < 2; decide), _, _, rfl, rfl, _, rfl, ?_⟩
  refine ite2 (fun c => ?_) (fun c => ?_)
  · have c' : atF ns 0 % 2 = 0 := of_decide_eq_true c
    have e : drawF ns k = atF ns k := if_pos c'
    rw [e] at q
    exact ⟨_, rfl, q⟩
  · have c' : ¬ atF ns 0 % 2 = 0 := of_decide_eq_false (Bool.eq_false_iff.mpr c)
    have e : drawF ns k = (atF ns k * 48271 % 2147483647 + 977 * k) * 69621 % 2147483647 := if_neg c'
    rw [e] at q
    exact ⟨_, rfl, _, _, rfl, rfl, .inl (.inr ⟨by decide, by decide⟩), _, _, rfl, rfl, (by show (0 : Int) < 2147483647; decide), _, rfl, _, _, rfl, rfl, .inl (.inl ⟨by decide, by decide⟩), _, _, rfl, rfl, _, _, rfl, rfl, .inl (.inr ⟨by decide, by decide⟩), _, _, rfl, rfl, (by show (0 : Int) < 2147483647; decide), q⟩

def spShop : Sp := fun vs H Q _ => ∃ (c : Int) (n : Nat), vs = [.int c, .int (n : Int)] ∧ n ≤ 100 ∧ ∀ (ws : List Int) (p : Addr) (H' : Hp), Shop ws → ws.length = n → Same H H' → H p = none → H' p = some (.lst (ws.map V.int)) → Q (.ref p) H'
theorem d_l_shop (T : Txt K mg) : DefOk P w K mg base "_law_shop" ["_law_cell", "_law_many"] 1 spShop := by
  obtain ⟨f, fd, F, hm, hb⟩ := T.h_l_shop
  refine ⟨f, fd, F.ok sc_l_shop (fun vs H Q E h => ?_) (fun cdv A outer s H vs Q E hr h => ?_), hm, F.kp, hb⟩
  · obtain ⟨c, n, rfl, _⟩ := h
    rfl
  obtain ⟨c, n, rfl, hn, q⟩ := h
  refine ⟨_, (@pss_cons _ _ _ _ _ (@ps_set _ _ 2 _ _ _ _ sc_l_shop.nd rfl (Or.inl rfl) (@pe_lst _ _ _ _ pa_nil) (by rfl) (by first | exact .inl rfl | exact .inr rfl))
 (@pss_cons _ _ _ _ _ (@ps_set _ _ 3 _ _ _ _ sc_l_shop.nd rfl (Or.inl rfl) (pv 0) (by rfl) (by first | exact .inl rfl | exact .inr rfl))
 (@pss_cons _ _ _ _ _ (ps_for PassesOwn.never rfl (pi_range1 (by rfl) T.z_range (pa_cons (pv 1) pa_nil)) (pg_name (i := 4) sc_l_shop.nd rfl (Or.inl rfl))
 (@pss_cons _ _ _ _ _ (@ps_set _ _ 5 _ _ _ _ sc_l_shop.nd rfl (Or.inl rfl) (pe_op op_add pe_int (pe_op op_mod (pv 3) pe_int)) (by rfl) (by first | exact .inl rfl | exact .inr rfl))
 (@pss_cons _ _ _ _ _ (@ps_set _ _ 3 _ _ _ _ sc_l_shop.nd rfl (Or.inl rfl) (pe_op op_add (pe_op op_fdivP (pv 3) pe_int) (pe_op op_mulX pe_int (pv 4))) (by rfl) (by first | exact .inl rfl | exact .inr rfl))
 (@pss_cons _ _ _ _ _ (ps_while PassesOwn.never (pt_cmpR op_in_seq (pv 5) (pv 2) (by with_unfolding_all rfl))
 (@pss_one _ _ _ (@ps_set _ _ 5 _ _ _ _ sc_l_shop.nd rfl (Or.inl rfl) (pe_op op_add pe_int (pe_op op_mod (pe_op op_sub (pv 5) pe_int) pe_int)) (by rfl) (by first | exact .inl rfl | exact .inr rfl))))
 (@pss_one _ _ _ (ps_expr (pe_bm PySem.F.plainAttrs_list PySem.F.slot_list_append PySem.F.type_list_append mt_append (pv 2) (pa_cons (pv 5) pa_nil))))))))
 (@pss_one _ _ _ (@ps_ret _ _ _ _ (pv 2)))))), ?_⟩
  refine ⟨(by show 0 ≤ sizeLine; decide), fun D hD => ?_⟩
  refine ⟨_, rfl, _, rfl, (n : Int), rfl, by omega, by omega, ?_⟩
  rw [Int.toNat_natCast]
  refine for_range (lo := 0) (n := n) (fun i σ H' => ∃ (ws : List Int) (lf : Int) (k t : Option V), σ = [some (.int c), some (.int (n : Int)), some (.ref D), some (.int lf), k, t] ∧ Same H H' ∧ H' D = some (.lst (ws.map V.int)) ∧ ws.length = i ∧ Shop ws)
    ⟨[], c, none, none, rfl, same_new hD _, upd_same, rfl, ⟨by simp, by simp, by simp⟩⟩ ?_ ?_
  · rintro i σ H' hi ⟨ws, lf, k, t, rfl, hs, hw, hl, S⟩
    refine ⟨_, rfl, _, _, rfl, rfl, (by show (0 : Int) < 118; decide), _, _, rfl, rfl, ?_⟩
    refine ⟨_, rfl, _, _, rfl, rfl, ⟨by decide, by unfold Bd; decide⟩, _, rfl, _, _, rfl, rfl, .inl (.inl ⟨by decide, by decide⟩), _, _, rfl, rfl, ?_⟩
    obtain ⟨j, hj, nj⟩ := free_tooth 118 ws (by omega)
    refine ⟨fun m σ2 H2 => ∃ (x : Int), σ2 = [some (.int c), some (.int (n : Int)), some (.ref D), some (.int (lf / 118 + 53 * (0 + (i : Int)))), some (.int (0 + (i : Int))), some (.int x)] ∧ H2 = H' ∧ 10 ≤ x ∧ x ≤ 127 ∧ m = ((10 + (j : Int) - x) % 118).toNat,
      ⟨_, _, rfl, rfl, by omega, by omega, rfl⟩, ?_⟩
    rintro m σ2 H2 ⟨x, rfl, rfl, x0, x1, rfl⟩
    refine ⟨_, rfl, _, rfl, D, _, rfl, .inl (SqL.of hw), rfl, flat_ints ws, _, rfl, ?_⟩
    dsimp only
    rw [if_neg Bool.false_ne_true, in_ints]
    refine iteD (fun hin => ?_) (fun hin => ?_)
    · have hne : x ≠ 10 + (j : Int) := fun e => nj (e ▸ hin)
      refine ⟨fun σ3 H3 => ∃ (y : Int), σ3 = [some (.int c), some (.int (n : Int)), some (.ref D), some (.int (lf / 118 + 53 * (0 + (i : Int)))), some (.int (0 + (i : Int))), some (.int y)] ∧ H3 = H2 ∧ 10 ≤ y ∧ y ≤ 127 ∧ ((10 + (j : Int) - y) % 118).toNat < ((10 + (j : Int) - x) % 118).toNat, ?_, ?_⟩
      · rintro σ3 H3 ⟨y, rfl, rfl, y0, y1, y2⟩
        exact ⟨_, y2, y, rfl, rfl, y0, y1, rfl⟩
      · exact ⟨_, rfl, _, _, rfl, rfl, _, _, rfl, rfl, (by show (0 : Int) < 118; decide), _, _, rfl, rfl, _, rfl, rfl, by omega, by omega, by omega⟩
    · refine ⟨_, rfl, .inl ⟨rfl, _, SqL.of hw⟩, _, rfl, D, _, _, rfl, rfl, hw, (by rw [List.length_map]; exact small1000 (by omega)), ?_⟩
      refine ⟨ws ++ [x], _, _, _, rfl, fun b o e => ?_, ?_, by simp [hl], S.snoc x0 x1 hin⟩
      · rw [upd_ne (ne_of_none e hD)]; exact hs b o e
      · rw [upd_same, List.map_append]; rfl
  · rintro σ H' ⟨ws, lf, k, t, rfl, hs, hw, hl, S⟩
    exact ⟨_, rfl, q ws D H' S hl hs hD hw⟩

def spAny (K : PySem.W.Frag) : Sp := fun vs H Q _ => ∃ (a : Addr) (ns : List Int) (k : Int), vs = [.ref a, .int k] ∧ SqL K H a (ns.map V.int) ∧ 0 ≤ k ∧ k ≤ 900 ∧
  ∀ (ws : List Int) (p : Addr) (H' : Hp), Shop ws → 2 ≤ ws.length → ws.length ≤ 12 → Same H H' → H p = none → H' p = some (.lst (ws.map V.int)) → Q (.ref p) H'
theorem d_l_any_shop (T : Txt K mg) : DefOk P w K mg base "_law_any_shop" ["_law_script", "_law_k"] 3 (spAny K) := by
  obtain ⟨f, fd, F, hm, hb⟩ := T.h_l_any_shop
  refine ⟨f, fd, F.ok sc_l_any_shop (fun vs H Q E h => ?_) (fun cdv A outer s H vs Q E hr h => ?_), hm, F.kp, hb⟩
  · obtain ⟨a, ns, k, rfl, _⟩ := h
    rfl
  obtain ⟨a, ns, k, rfl, hS, h0, h1, q⟩ := h
  refine ⟨_, (@pss_cons _ _ _ _ _ (@ps_set _ _ 2 _ _ _ _ sc_l_any_shop.nd rfl (Or.inl rfl) (pe_callD (d_l_draw T) hr (pa_cons (pv 0) (pa_cons (pv 1) pa_nil))) (by rfl) (by first | exact .inl rfl | exact .inr rfl))
 (@pss_cons _ _ _ _ _ (@ps_set _ _ 3 _ _ _ _ sc_l_any_shop.nd rfl (Or.inr rfl) (pe_callD (d_l_draw T) hr (pa_cons (pv 0) (pa_cons (pe_op op_add (pv 1) pe_int) pa_nil))) (by rfl) (by first | exact .inl rfl | exact .inr rfl))
 (@pss_cons _ _ _ _ _ (@ps_set _ _ 4 _ _ _ _ sc_l_any_shop.nd rfl (Or.inl rfl) (pe_op op_add pe_int (pe_op op_mod (pe_op op_mod (pv 2) pe_int) (@pe_ix _ _ _ _ _ _ _ ix_list (@pe_lst _ _ _ _ (pa_cons pe_int (pa_cons pe_int pa_nil))) (pe_callTy call_int1 (by rfl) T.z_int PyProof.Rows.boot_int (pa_cons (pe_cmp (pc_lt (pe_op op_mod (pv 2) pe_int) pe_int)) pa_nil)) (fun _ _ => rfl)))) (by rfl) (by first | exact .inl rfl | exact .inr rfl))
 (@pss_cons _ _ _ _ _ (@ps_set _ _ 5 _ _ _ _ sc_l_any_shop.nd rfl (Or.inr rfl) (@pe_lst _ _ _ _ (@pa_ints _ _ [20, 30, 40, 50, 60, 80, 100, 120, 90, 45, 24, 36] rfl)) (by rfl) (by first | exact .inl rfl | exact .inr rfl))
 (@pss_cons _ _ _ _ _ (ps_if (pt_cmp (pc_eqI (pe_op op_mod (pe_op op_fdivP (pv 2) pe_int) pe_int) pe_int))
 (@pss_one _ _ _ (@ps_ret _ _ _ _ (pe_comp0 rfl (sc := defScope s_l_any_shop) rfl (N := ["_law_script", "_law_k", "_law_cell", "_law_far", "_law_many", "_law_pool"]) rfl ⟨by decide +kernel, rfl, by decide +kernel, by decide +kernel, rfl, by decide +kernel, by decide +kernel, by decide +kernel⟩ (pi_range1 (by rfl) T.z_range (pa_cons (pv 4) pa_nil)) (fun _ _ _ _ _ _ => (@pe_ix _ _ _ _ _ _ _ (ix_listK (K := K) rfl) (pv 6) (pe_op op_mod (pe_op op_add (pv 4) (pe_op op_mulX pe_int (pv 0))) pe_int) (fun _ _ => rfl))))))
 pss_nil)
 (@pss_one _ _ _ (@ps_ret _ _ _ _ (pe_callD (d_l_shop T) hr (pa_cons (pv 3) (pa_cons (pv 4) pa_nil)))))))))), ?_⟩
  refine ⟨_, rfl, _, rfl, a, ns, k, rfl, hS, h0, by omega, ?_⟩
  refine ⟨_, rfl, _, rfl, _, _, rfl, rfl, a, ns, k + 1, rfl, hS, by omega, by omega, ?_⟩
  generalize drawF ns k = cl
  generalize drawF ns (k + 1) = fr
  refine ⟨_, rfl, _, _, rfl, rfl, (by show (0 : Int) < 33; decide), (by show 2 ≤ sizeLine; decide), fun p1 hp1 => ?_⟩
  refine ⟨_, rfl, _, _, rfl, rfl, (by show (0 : Int) < 33; decide), _, _, rfl, rfl, .inr ⟨_, rfl, ?_⟩⟩
  have s1 := same_new hp1 (.lst [V.int 5, V.int 11])
  obtain ⟨d, hd, d1, d2⟩ := at2i (a := 5) (b := 11) (i := if decide (cl % 33 < 11) = true then 1 else 0) (fun v => 5 ≤ v ∧ v ≤ 11) (by split <;> decide) (by split <;> decide) ⟨by decide, by decide⟩ ⟨by decide, by decide⟩
  refine ⟨p1, _, _, _, rfl, rfl, SqL.of upd_same, hd, _, _, rfl, rfl, (by show (0 : Int) < d; omega), _, _, rfl, rfl, ?_⟩
  have e0 := Int.emod_nonneg (cl % 33) (show d ≠ 0 by omega)
  have e1 := Int.emod_lt_of_pos (cl % 33) (show 0 < d by omega)
  obtain ⟨n, hn⟩ : ∃ n : Nat, 2 + cl % 33 % d = (n : Int) := ⟨(2 + cl % 33 % d).toNat, by omega⟩
  have n0 : 2 ≤ n := by omega
  have n1 : n ≤ 12 := by omega
  refine ⟨(by show 12 ≤ sizeLine; decide), fun p2 hp2 => ?_⟩
  have s2 := same_new hp2 (.lst (pool.map V.int))
  refine ⟨_, rfl, _, _, rfl, rfl, ⟨by decide, by unfold Bd; decide⟩, _, _, rfl, rfl, (by show (0 : Int) < 2; decide), _, _, rfl, rfl, _, rfl, ?_⟩
  dsimp only
  rw [hn]
  refine iteD (fun c => ?_) (fun c => ?_)
  · refine ⟨_, rfl, (n : Int), rfl, by omega, by omega, ?_⟩
    rw [Int.toNat_natCast]
    intro D hD
    have nH : H D = none := by
      cases e : H D with
      | none => rfl
      | some o => cases ((s1.trans s2) D o e).symm.trans hD
    refine comp_range (tt := fun _ H Q => Q true H) (lo := 0) (n := n) (fun i H' ys => ∃ ws : List Int, ys = ws.map V.int ∧ H' = upd (upd (upd H p1 (.lst [V.int 5, V.int 11])) p2 (.lst (pool.map V.int))) D (.lst ys) ∧ ws.length = i ∧ Shop ws ∧ ∀ v ∈ ws, ∃ j : Nat, j < i ∧ pool[((fr + 5 * (j : Int)) % 12).toNat]? = some v)
      ⟨[], rfl, rfl, rfl, ⟨by simp, by simp, by simp⟩, by simp⟩ ?_ ?_
    · rintro i H2 ys kk hk hi ⟨ws, rfl, rfl, hl, S, hv⟩
      refine ⟨upd_same, ?_⟩
      refine iteT ?_
      have z0 : (0 : Int) ≤ (fr + 5 * (i : Int)) % 12 := by omega
      have z1 : (fr + 5 * (i : Int)) % 12 < 12 := by omega
      obtain ⟨v, a1, a2, a3, a4⟩ := pool_at z0 z1
      have hp2' := same_new hD (.lst (ws.map V.int)) p2 _ upd_same
      have ez : fr + 5 * (0 + (i : Int)) = fr + 5 * (i : Int) := by omega
      refine ⟨_, rfl, _, rfl, _, rfl, _, _, rfl, rfl, .inl (.inl ⟨by decide, by decide⟩), _, _, rfl, rfl, _, _, rfl, rfl, (by show (0 : Int) < 12; decide), p2, _, _, _, rfl, rfl, SqL.of hp2', (by rw [ez]; exact a1), upd_same, (by rw [List.length_map]; exact small1000 (by omega)), ?_⟩
      refine hk _ _ ⟨ws ++ [v], by rw [List.map_append]; rfl, by rw [upd_upd], by simp [hl], S.snoc a3 a4 ?_, ?_⟩
      · intro hin
        obtain ⟨j, hj, ej⟩ := hv v hin
        have := pool_inj ej a2
        omega
      · intro u hu
        rcases List.mem_append.mp hu with z | z
        · obtain ⟨j, hj, ej⟩ := hv u z
          exact ⟨j, by omega, ej⟩
        · rw [List.mem_singleton.mp z]
          exact ⟨i, Nat.lt_succ_self _, a2⟩
    · rintro H2 ys ⟨ws, rfl, rfl, hl, S, hv⟩
      exact ⟨upd_same, q ws D _ S (by omega) (by omega) ((s1.trans s2).trans (same_new hD _)) nH upd_same⟩
  · refine ⟨_, rfl, _, rfl, fr, n, rfl, by omega, fun ws p H' S hl hs hn' hp => ?_⟩
    have nH : H p = none := by
      cases e : H p with
      | none => rfl
      | some o => cases ((s1.trans s2) p o e).symm.trans hn'
    exact q ws p H' S (by omega) (by omega) ((s1.trans s2).trans hs) nH hp

def spPairs (K : PySem.W.Frag) : Sp := fun vs H Q _ => ∃ (t : Addr) (ts : List Int), vs = [.ref t] ∧ SqL K H t (ts.map V.int) ∧ ts.length ≤ 12 ∧ ∀ (D : Addr) (H' : Hp), Same H H' → H D = none → TL H' D (pairsM ts) → (pairsM ts).length ≤ 144 → Q (.ref D) H'
theorem d_f_pairs_of (T : Txt K mg) : DefOk P w K mg base "pairs_of" ["teeth"] 1 (spPairs K) := by
  obtain ⟨f, fd, F, hm, hb⟩ := T.h_f_pairs_of
  refine ⟨f, fd, F.ok sc_f_pairs_of (fun vs H Q E h => ?_) (fun cdv A outer s H vs Q E hr h => ?_), hm, F.kp, hb⟩
  · obtain ⟨t, ts, rfl, _⟩ := h
    rfl
  obtain ⟨t, ts, rfl, hS, h12, q⟩ := h
  refine ⟨_, (@pss_cons _ _ _ _ _ (@ps_set _ _ 1 _ _ _ _ sc_f_pairs_of.nd rfl (Or.inl rfl) (@pe_lst _ _ _ _ pa_nil) (by rfl) (by first | exact .inl rfl | exact .inr rfl))
 (@pss_cons _ _ _ _ _ (ps_for PassesOwn.never rfl (pi_list (pv 0)) (pg_name (i := 2) sc_f_pairs_of.nd rfl (Or.inl rfl))
 (@pss_one _ _ _ (ps_for PassesOwn.never rfl (pi_list (pv 0)) (pg_name (i := 3) sc_f_pairs_of.nd rfl (Or.inl rfl))
 (@pss_one _ _ _ (ps_if (pt_cmp (pc_neI (pv 2) (pv 3)))
 (@pss_one _ _ _ (ps_expr (pe_bm PySem.F.plainAttrs_list PySem.F.slot_list_append PySem.F.type_list_append mt_append (pv 1) (pa_cons (@pe_tup _ _ _ _ _ (pa_cons (pv 2) (pa_cons (pv 3) pa_nil))) pa_nil))))
 pss_nil)))))
 (@pss_one _ _ _ (@ps_ret _ _ _ _ (pv 1))))), ?_⟩
  have hlen : (ts.map V.int).length = ts.length := List.length_map _
  refine ⟨(by show 0 ≤ sizeLine; decide), fun D hD => ?_⟩
  refine ⟨_, rfl, t, rfl, ⟨_, (same_new hD _).seq hS⟩, for_list (K := K) (a := t) (xs := ts.map V.int) (fun i σ H' => ∃ u v, σ = [some (.ref t), some (.ref D), u, v] ∧ Same H H' ∧ TL H' D ((ts.take i).flatMap (rowM ts)) ∧ ((ts.take i).flatMap (rowM ts)).length ≤ 12 * i)
    ⟨none, none, rfl, same_new hD _, ⟨[], upd_same, .nil⟩, Nat.le_refl _⟩ (fun i σ H' _ ⟨_, _, _, s, _⟩ => s.seq hS) ?_ ?_⟩
  · rintro i x σ H' hx ⟨u, v, rfl, s, tl, hl⟩
    obtain ⟨a, rfl, ha⟩ := int_at hx
    have hi : i < ts.length := (List.getElem?_eq_some_iff.mp ha).1
    refine ⟨_, rfl, t, rfl, ⟨_, s.seq hS⟩, for_list (K := K) (a := t) (xs := ts.map V.int) (fun j σ H2 => ∃ v, σ = [some (.ref t), some (.ref D), some (.int a), v] ∧ Same H H2 ∧ TL H2 D ((ts.take i).flatMap (rowM ts) ++ ((ts.take j).filter fun b => decide (a ≠ b)).map fun b => [a, b]) ∧ ((ts.take i).flatMap (rowM ts) ++ ((ts.take j).filter fun b => decide (a ≠ b)).map fun b => [a, b]).length ≤ 12 * i + j)
      ⟨v, rfl, s, by simpa using tl, by simpa using hl⟩ (fun j σ H2 _ ⟨_, _, s2, _⟩ => s2.seq hS) ?_ ?_⟩
    · rintro j y σ H2 hy ⟨v, rfl, s2, tl2, hl2⟩
      obtain ⟨b, rfl, hb'⟩ := int_at hy
      have hj : j < ts.length := (List.getElem?_eq_some_iff.mp hb').1
      refine ⟨_, rfl, _, rfl, _, _, rfl, rfl, _, rfl, ?_⟩
      refine iteND (fun ne => ?_) (fun eq => ?_)
      · obtain ⟨rs, h1, h2⟩ := tl2
        have hz : (rs.map V.ref).length < sizeLine := by rw [List.length_map, Paired.length h2]; exact big (by omega)
        refine ⟨_, rfl, .inl ⟨rfl, _, SqL.of h1⟩, _, rfl, _, rfl, (by show 2 ≤ sizeLine; decide), fun r hr' => ?_⟩
        refine ⟨D, _, _, rfl, rfl, (by rw [upd_ne (ne_of_none h1 hr')]; exact h1), hz, ?_⟩
        have e : ((ts.take (j + 1)).filter fun b => decide (a ≠ b)).map (fun b => [a, b]) = ((ts.take j).filter fun b => decide (a ≠ b)).map (fun b => [a, b]) ++ [[a, b]] := by
          rw [take_more hb', List.filter_append, List.map_append]
          simp [ne]
        refine ⟨_, rfl, same_push s2 hD hr', ?_, ?_⟩
        · rw [e, ← List.append_assoc]
          exact TL.push (t := [a, b]) h1 h2 hr'
        · rw [e, ← List.append_assoc, List.length_append, List.length_singleton]
          omega
      · have e : ((ts.take (j + 1)).filter fun b => decide (a ≠ b)).map (fun b => [a, b]) = ((ts.take j).filter fun b => decide (a ≠ b)).map (fun b => [a, b]) := by
          rw [take_more hb', List.filter_append, List.map_append]
          simp [eq]
        refine ⟨_, rfl, s2, ?_, ?_⟩
        · rw [e]; exact tl2
        · rw [e]; omega
    · rintro σ H2 ⟨v, rfl, s2, tl2, hl2⟩
      rw [hlen, List.take_length] at tl2 hl2
      refine ⟨_, _, rfl, s2, ?_, ?_⟩
      · rw [take_more ha, List.flatMap_append]; simpa [rowM] using tl2
      · rw [take_more ha, List.flatMap_append]
        have : (((ts.take i).flatMap (rowM ts)) ++ [a].flatMap (rowM ts)).length = ((ts.take i).flatMap (rowM ts) ++ (ts.filter fun b => decide (a ≠ b)).map fun b => [a, b]).length := by simp [rowM]
        rw [this]; omega
  · rintro σ H' ⟨u, v, rfl, s, tl, hl⟩
    rw [hlen, List.take_length] at tl hl
    exact ⟨_, rfl, q D H' s hD tl (Nat.le_trans hl (by omega))⟩

def spFours : Sp := fun vs H Q _ => ∃ (t : Addr) (ps : List (List Int)), vs = [.ref t] ∧ TL H t ps ∧ ps.length ≤ 144 ∧ (∀ p ∈ ps, ∃ x y, p = [x, y]) ∧ ∀ (D : Addr) (H' : Hp), Same H H' → H D = none → TL H' D (foursM ps) → (foursM ps).length ≤ 20736 → Q (.ref D) H'
theorem d_f_fours_of (T : Txt K mg) : DefOk P w K mg base "fours_of" ["pairs"] 1 spFours := by
  obtain ⟨f, fd, F, hm, hb⟩ := T.h_f_fours_of
  refine ⟨f, fd, F.ok sc_f_fours_of (fun vs H Q E h => ?_) (fun cdv A outer s H vs Q E hr h => ?_), hm, F.kp, hb⟩
  · obtain ⟨t, ps, rfl, _⟩ := h
    rfl
  obtain ⟨t, ps, rfl, ⟨rs, hS, hP⟩, h144, sh, q⟩ := h
  refine ⟨_, (@pss_cons _ _ _ _ _ (@ps_set _ _ 1 _ _ _ _ sc_f_fours_of.nd rfl (Or.inl rfl) (@pe_lst _ _ _ _ pa_nil) (by rfl) (by first | exact .inl rfl | exact .inr rfl))
 (@pss_cons _ _ _ _ _ (ps_for PassesOwn.never rfl (pi_list (pv 0)) (pg_name (i := 2) sc_f_fours_of.nd rfl (Or.inl rfl))
 (@pss_one _ _ _ (ps_for PassesOwn.never rfl (pi_list (pv 0)) (pg_name (i := 3) sc_f_fours_of.nd rfl (Or.inl rfl))
 (@pss_one _ _ _ (ps_if (pw_and (pt_cmpR op_notIn_seq (@pe_ix _ _ _ _ _ _ _ ix_tup (pv 3) pe_int (fun _ _ => rfl)) (pv 2) (by with_unfolding_all rfl)) (pw_and1 (pt_cmpR op_notIn_seq (@pe_ix _ _ _ _ _ _ _ ix_tup (pv 3) pe_int (fun _ _ => rfl)) (pv 2) (by with_unfolding_all rfl)))).pt
 (@pss_one _ _ _ (ps_expr (pe_bm PySem.F.plainAttrs_list PySem.F.slot_list_append PySem.F.type_list_append mt_append (pv 1) (pa_cons (pe_op op_catT (pv 2) (pv 3)) pa_nil))))
 pss_nil)))))
 (@pss_one _ _ _ (@ps_ret _ _ _ _ (pv 1))))), ?_⟩
  have hlen : (rs.map V.ref).length = ps.length := by rw [List.length_map, Paired.length hP]
  refine ⟨(by show 0 ≤ sizeLine; decide), fun D hD => ?_⟩
  refine ⟨_, rfl, t, rfl, ⟨_, SqL.of ((same_new hD _) _ _ hS)⟩, for_list (K := K) (a := t) (xs := rs.map V.ref) (fun i σ H' => ∃ u v, σ = [some (.ref t), some (.ref D), u, v] ∧ Same H H' ∧ TL H' D ((ps.take i).flatMap (rowF ps)) ∧ ((ps.take i).flatMap (rowF ps)).length ≤ 144 * i)
    ⟨none, none, rfl, same_new hD _, ⟨[], upd_same, .nil⟩, Nat.le_refl _⟩ (fun i σ H' _ ⟨_, _, _, s, _⟩ => SqL.of (s _ _ hS)) ?_ ?_⟩
  · rintro i x σ H' hx ⟨u, v, rfl, s, tl, hl⟩
    obtain ⟨fr, f0, rfl, ha, hfr⟩ := tl_at hP hx
    have hi : i < ps.length := (List.getElem?_eq_some_iff.mp ha).1
    obtain ⟨x1, x2, rfl⟩ := sh _ (List.mem_of_getElem? ha)
    refine ⟨_, rfl, t, rfl, ⟨_, SqL.of (s _ _ hS)⟩, for_list (K := K) (a := t) (xs := rs.map V.ref) (fun j σ H2 => ∃ v, σ = [some (.ref t), some (.ref D), some (.ref fr), v] ∧ Same H H2 ∧ TL H2 D ((ps.take i).flatMap (rowF ps) ++ ((ps.take j).filter (okB [x1, x2])).map fun b => [x1, x2] ++ b) ∧ ((ps.take i).flatMap (rowF ps) ++ ((ps.take j).filter (okB [x1, x2])).map fun b => [x1, x2] ++ b).length ≤ 144 * i + j)
      ⟨v, rfl, s, by simpa using tl, by simpa using hl⟩ (fun j σ H2 _ ⟨_, _, s2, _⟩ => SqL.of (s2 _ _ hS)) ?_ ?_⟩
    · rintro j y σ H2 hy ⟨v, rfl, s2, tl2, hl2⟩
      obtain ⟨br, b0, rfl, hb', hbr⟩ := tl_at hP hy
      have hj : j < ps.length := (List.getElem?_eq_some_iff.mp hb').1
      obtain ⟨y1, y2, rfl⟩ := sh _ (List.mem_of_getElem? hb')
      have F2 := s2 _ _ hfr
      have B2 := s2 _ _ hbr
      have skip : okB [x1, x2] [y1, y2] = false → ((ps.take (j + 1)).filter (okB [x1, x2])).map (fun b => [x1, x2] ++ b) = ((ps.take j).filter (okB [x1, x2])).map (fun b => [x1, x2] ++ b) := fun z => by
        rw [take_more hb', List.filter_append, List.map_append]
        simp [z]
      have more : okB [x1, x2] [y1, y2] = true → ((ps.take (j + 1)).filter (okB [x1, x2])).map (fun b => [x1, x2] ++ b) = ((ps.take j).filter (okB [x1, x2])).map (fun b => [x1, x2] ++ b) ++ [[x1, x2, y1, y2]] := fun z => by
        rw [take_more hb', List.filter_append, List.map_append]
        simp [z]
      refine ⟨_, rfl, _, _, _, _, rfl, rfl, SqT.of (B2), rfl, _, rfl, fr, _, rfl, .inr (SqT.of F2), rfl, flat_ints [x1, x2], _, rfl, ?_⟩
      dsimp only
      rw [if_pos rfl, in_ints]
      refine iteND (fun n1 => ?_) (fun n1 => ?_)
      · refine ⟨_, rfl, _, _, _, _, rfl, rfl, SqT.of (B2), rfl, _, rfl, fr, _, rfl, .inr (SqT.of F2), rfl, flat_ints [x1, x2], _, rfl, ?_⟩
        dsimp only
        rw [if_pos rfl, in_ints]
        refine iteND (fun n2 => ?_) (fun n2 => ?_)
        · have z : okB [x1, x2] [y1, y2] = true := by show (decide (y1 ∉ [x1, x2]) && decide (y2 ∉ [x1, x2])) = true; rw [show decide (y1 ∉ [x1, x2]) = true from decide_eq_true n1, show decide (y2 ∉ [x1, x2]) = true from decide_eq_true n2]; rfl
          obtain ⟨qs, h1, h2⟩ := tl2
          have hz : (qs.map V.ref).length < sizeLine := by rw [List.length_map, Paired.length h2]; exact big (by omega)
          refine ⟨_, rfl, .inl ⟨rfl, _, SqL.of h1⟩, _, rfl, _, rfl, fr, br, _, _, rfl, rfl, SqT.of F2, SqT.of B2, by simp, (by show 4 ≤ sizeLine; decide), fun z => by simp at z, fun _ r hr' => ?_⟩
          refine ⟨D, _, _, rfl, rfl, (by rw [upd_ne (ne_of_none h1 hr')]; exact h1), hz, ?_⟩
          refine ⟨_, rfl, same_push s2 hD hr', ?_, ?_⟩
          · rw [more z, ← List.append_assoc]
            exact TL.push (t := [x1, x2, y1, y2]) h1 h2 hr'
          · rw [more z, ← List.append_assoc, List.length_append, List.length_singleton]
            omega
        · have z : okB [x1, x2] [y1, y2] = false := by show (decide (y1 ∉ [x1, x2]) && decide (y2 ∉ [x1, x2])) = false; rw [show decide (y2 ∉ [x1, x2]) = false from decide_eq_false (fun w => w n2), Bool.and_false]
          exact ⟨_, rfl, s2, by rw [skip z]; exact tl2, by rw [skip z]; omega⟩
      · have z : okB [x1, x2] [y1, y2] = false := by show (decide (y1 ∉ [x1, x2]) && decide (y2 ∉ [x1, x2])) = false; rw [show decide (y1 ∉ [x1, x2]) = false from decide_eq_false (fun w => w n1), Bool.false_and]
        exact iteF ⟨_, rfl, s2, by rw [skip z]; exact tl2, by rw [skip z]; omega⟩
    · rintro σ H2 ⟨v, rfl, s2, tl2, hl2⟩
      rw [hlen, List.take_length] at tl2 hl2
      refine ⟨_, _, rfl, s2, ?_, ?_⟩
      · rw [take_more ha, List.flatMap_append]; simpa [rowF] using tl2
      · rw [take_more ha, List.flatMap_append]
        have : (((ps.take i).flatMap (rowF ps)) ++ [[x1, x2]].flatMap (rowF ps)).length = ((ps.take i).flatMap (rowF ps) ++ (ps.filter (okB [x1, x2])).map fun b => [x1, x2] ++ b).length := by simp [rowF]
        rw [this]; omega
  · rintro σ H' ⟨u, v, rfl, s, tl, hl⟩
    rw [hlen, List.take_length] at tl hl
    exact ⟨_, rfl, q D H' s hD tl (Nat.le_trans hl (by omega))⟩

def spAll (K : PySem.W.Frag) : Sp := fun vs H Q _ => ∃ (a : Addr) (ws : List Int), vs = [.ref a] ∧ SqA K H a (ws.map V.int) ∧ ws.length ≤ 12 ∧ ∀ (sw : List Int) (D : Addr) (H' : Hp), sw.Perm ws → sw.Pairwise (· ≤ ·) → Same H H' → H D = none → TL H' D (allT sw) → (allT sw).length ≤ 30000 → Q (.ref D) H'
theorem d_f_all_trains (T : Txt K mg) : DefOk P w K mg base "all_trains" ["wheels"] 2 (spAll K) := by
  obtain ⟨f, fd, F, hm, hb⟩ := T.h_f_all_trains
  refine ⟨f, fd, F.ok sc_f_all_trains (fun vs H Q E h => ?_) (fun cdv A outer s H vs Q E hr h => ?_), hm, F.kp, hb⟩
  · obtain ⟨a, ws, rfl, _⟩ := h
    rfl
  obtain ⟨a, ws, rfl, hA, h12, q⟩ := h
  refine ⟨_, (@pss_cons _ _ _ _ _ (@ps_set _ _ 1 _ _ _ _ sc_f_all_trains.nd rfl (Or.inl rfl) (pe_callD (d_f_pairs_of T) hr (pa_cons (pe_callB call_sorted_ints (by rfl) T.z_sorted PyProof.Rows.boot_sorted (pa_cons (pv 0) pa_nil)) pa_nil)) (by rfl) (by first | exact .inl rfl | exact .inr rfl))
 (@pss_one _ _ _ (@ps_ret _ _ _ _ (pe_op op_cat (pv 1) (pe_callD (d_f_fours_of T) hr (pa_cons (pv 1) pa_nil)))))), ?_⟩
  refine ⟨_, rfl, a, ws, rfl, hA, by omega, fun l sw hp hs hl => ?_⟩
  have s1 := same_new hl (.lst (sw.map V.int))
  refine ⟨l, sw, rfl, SqL.of upd_same, by rw [hp.length_eq]; exact h12, fun D H1 s2 nD tl hn => ?_⟩
  refine ⟨_, rfl, _, rfl, D, pairsM sw, rfl, tl, hn, fun p hp' => ?_, fun G H2 s3 nG tg hg => ?_⟩
  · obtain ⟨x, y, _, _, _, rfl⟩ := mem_pairsM.mp hp'
    exact ⟨x, y, rfl⟩
  · obtain ⟨r1, d1, p1⟩ := tl.mono s3
    obtain ⟨r2, d2, p2⟩ := tg
    refine ⟨D, G, _, _, rfl, rfl, d1, d2, ?_, fun p hp' => ?_⟩
    · rw [List.length_map, List.length_map, Paired.length p1, Paired.length p2]
      exact Nat.le_of_lt (big (by omega))
    · have s4 := same_new hp' (.lst (r1.map V.ref ++ r2.map V.ref))
      have sAll := s1.trans (s2.trans s3)
      refine q sw p _ hp hs (sAll.trans s4) (sAll.free hp') ⟨r1 ++ r2, by rw [upd_same, List.map_append], pair_mono s4 (paired_app p1 p2)⟩ ?_
      unfold allT
      rw [List.length_append]
      omega

structure Rat2 (H : Hp) (p : Addr) (a b : Int) : Prop where
  at_ : H p = some (.tup [.int a, .int b])
  a1 : 1 ≤ a
  a2 : a ≤ 16129
  b1 : 1 ≤ b
  b2 : b ≤ 16129
theorem Rat2.mono {H H' : Hp} {p : Addr} {a b : Int} (h : Rat2 H p a b) (s : Same H H') : Rat2 H' p a b := ⟨s _ _ h.at_, h.a1, h.a2, h.b1, h.b2⟩
theorem Rat2.ba {H : Hp} {p : Addr} {a b : Int} (h : Rat2 H p a b) : Bd 200 a := Bd.of60 (by have := h.a1; omega) (by have := h.a2; omega)
theorem Rat2.bb {H : Hp} {p : Addr} {a b : Int} (h : Rat2 H p a b) : Bd 200 b := Bd.of60 (by have := h.b1; omega) (by have := h.b2; omega)
theorem gap_bd {a b p q : Int} (h1 : Bd 200 a) (h2 : Bd 200 b) (h3 : Bd 300 p) (h4 : Bd 300 q) : Bd 501 (gapF a b p q) := by
  have h := (h1.mul h4).sub (h3.mul h2)
  unfold gapF
  split
  · exact h.neg
  · exact h
def spGap : Sp := fun vs H Q _ => ∃ (x r : Addr) (a b p q : Int), vs = [.ref x, .ref r] ∧ Rat2 H x a b ∧ Pit H r p q ∧ ∀ n, H n = none → Q (.ref n) (upd H n (.tup [.int (gapF a b p q), .int b]))
theorem d_f_scaled_gap (T : Txt K mg) : DefOk P w K mg base "scaled_gap" ["ratio", "pitch"] 1 spGap := by
  obtain ⟨f, fd, F, hm, hb⟩ := T.h_f_scaled_gap
  refine ⟨f, fd, F.ok sc_f_scaled_gap (fun vs H Q E h => ?_) (fun cdv A outer s H vs Q E hr h => ?_), hm, F.kp, hb⟩
  · obtain ⟨x, r, a, b, p, q, rfl, _⟩ := h
    rfl
  obtain ⟨x, r, a, b, p, qq, rfl, R, Pi, q⟩ := h
  refine ⟨_, (@pss_one _ _ _ (@ps_ret _ _ _ _ (@pe_tup _ _ _ _ _ (pa_cons (pe_callB call_abs (by rfl) T.z_abs PyProof.Rows.boot_abs (pa_cons (pe_op op_sub (pe_op op_mulX (@pe_ix _ _ _ _ _ _ _ ix_tup (pv 0) pe_int (fun _ _ => rfl)) (@pe_ix _ _ _ _ _ _ _ ix_tup (pv 1) pe_int (fun _ _ => rfl))) (pe_op op_mulX (@pe_ix _ _ _ _ _ _ _ ix_tup (pv 1) pe_int (fun _ _ => rfl)) (@pe_ix _ _ _ _ _ _ _ ix_tup (pv 0) pe_int (fun _ _ => rfl)))) pa_nil)) (pa_cons (@pe_ix _ _ _ _ _ _ _ ix_tup (pv 0) pe_int (fun _ _ => rfl)) pa_nil))))), ?_⟩
  exact ⟨_, rfl, _, _, _, _, rfl, rfl, SqT.of (R.at_), rfl, _, rfl, _, _, _, _, rfl, rfl, SqT.of (Pi.at_), rfl, _, _, rfl, rfl, .inr ⟨R.ba.mono (by decide), Pi.bq.mono (by decide)⟩, _, rfl, _, _, _, _, rfl, rfl, SqT.of (Pi.at_), rfl, _, rfl, _, _, _, _, rfl, rfl, SqT.of (R.at_), rfl, _, _, rfl, rfl, .inr ⟨Pi.bp.mono (by decide), R.bb.mono (by decide)⟩, _, _, rfl, rfl, _, rfl, _, rfl, _, _, _, _, rfl, rfl, SqT.of (R.at_), rfl, (by show 2 ≤ sizeLine; decide), q⟩

def spLess : Sp := fun vs H Q _ => ∃ (p r : Addr) (a b c d : Int), vs = [.ref p, .ref r] ∧ H p = some (.tup [.int a, .int b]) ∧ H r = some (.tup [.int c, .int d]) ∧ Bd 2000 a ∧ Bd 2000 b ∧ Bd 2000 c ∧ Bd 2000 d ∧ Q (.bl (decide (a * d < c * b))) H
theorem d_f_is_less (T : Txt K mg) : DefOk P w K mg base "is_less" ["a", "b"] 1 spLess := by
  obtain ⟨f, fd, F, hm, hb⟩ := T.h_f_is_less
  refine ⟨f, fd, F.ok sc_f_is_less (fun vs H Q E h => ?_) (fun cdv A outer s H vs Q E hr h => ?_), hm, F.kp, hb⟩
  · obtain ⟨p, r, a, b, c, d, rfl, _⟩ := h
    rfl
  obtain ⟨p, r, a, b, c, d, rfl, hp, hr', ba, bb, bc, bd, q⟩ := h
  refine ⟨_, (@pss_one _ _ _ (@ps_ret _ _ _ _ (pe_cmp (pc_lt (pe_op op_mulX (@pe_ix _ _ _ _ _ _ _ ix_tup (pv 0) pe_int (fun _ _ => rfl)) (@pe_ix _ _ _ _ _ _ _ ix_tup (pv 1) pe_int (fun _ _ => rfl))) (pe_op op_mulX (@pe_ix _ _ _ _ _ _ _ ix_tup (pv 1) pe_int (fun _ _ => rfl)) (@pe_ix _ _ _ _ _ _ _ ix_tup (pv 0) pe_int (fun _ _ => rfl))))))), ?_⟩
  exact ⟨_, rfl, _, _, _, _, rfl, rfl, SqT.of (hp), rfl, _, rfl, _, _, _, _, rfl, rfl, SqT.of (hr'), rfl, _, _, rfl, rfl, .inr ⟨ba.mono (by decide), bd.mono (by decide)⟩, _, rfl, _, _, _, _, rfl, rfl, SqT.of (hr'), rfl, _, rfl, _, _, _, _, rfl, rfl, SqT.of (hp), rfl, _, _, rfl, rfl, .inr ⟨bc.mono (by decide), bb.mono (by decide)⟩, _, _, rfl, rfl, q⟩

def spSuits : Sp := fun vs H Q _ => ∃ (x y r : Addr) (a b c d p q : Int), vs = [.ref x, .ref y, .ref r] ∧ Rat2 H x a b ∧ Rat2 H y c d ∧ Pit H r p q ∧ ∀ H', Same H H' → Q (.bl (decide (Bt a b c d p q))) H'
theorem d_f_suits_better (T : Txt K mg) : DefOk P w K mg base "suits_better" ["ratio", "other", "pitch"] 2 spSuits := by
  obtain ⟨f, fd, F, hm, hb⟩ := T.h_f_suits_better
  refine ⟨f, fd, F.ok sc_f_suits_better (fun vs H Q E h => ?_) (fun cdv A outer s H vs Q E hr h => ?_), hm, F.kp, hb⟩
  · obtain ⟨x, y, r, a, b, c, d, p, q, rfl, _⟩ := h
    rfl
  obtain ⟨x, y, r, a, b, c, d, p, qq, rfl, R1, R2, Pi, q⟩ := h
  refine ⟨_, (@pss_cons _ _ _ _ _ (@ps_set _ _ 3 _ _ _ _ sc_f_suits_better.nd rfl (Or.inl rfl) (pe_callD (d_f_scaled_gap T) hr (pa_cons (pv 0) (pa_cons (pv 2) pa_nil))) (by rfl) (by first | exact .inl rfl | exact .inr rfl))
 (@pss_cons _ _ _ _ _ (@ps_set _ _ 4 _ _ _ _ sc_f_suits_better.nd rfl (Or.inl rfl) (pe_callD (d_f_scaled_gap T) hr (pa_cons (pv 1) (pa_cons (pv 2) pa_nil))) (by rfl) (by first | exact .inl rfl | exact .inr rfl))
 (@pss_cons _ _ _ _ _ (ps_if (pt_val (pe_callD (d_f_is_less T) hr (pa_cons (pv 3) (pa_cons (pv 4) pa_nil))))
 (@pss_one _ _ _ (@ps_ret _ _ _ _ pe_bl))
 pss_nil)
 (@pss_cons _ _ _ _ _ (ps_if (pt_val (pe_callD (d_f_is_less T) hr (pa_cons (pv 4) (pa_cons (pv 3) pa_nil))))
 (@pss_one _ _ _ (@ps_ret _ _ _ _ pe_bl))
 pss_nil)
 (@pss_one _ _ _ (@ps_ret _ _ _ _ (pe_callD (d_f_is_less T) hr (pa_cons (pv 0) (pa_cons (pv 1) pa_nil))))))))), ?_⟩
  refine ⟨_, rfl, _, rfl, x, r, a, b, p, qq, rfl, R1, Pi, fun n1 h1 => ?_⟩
  have s1 := same_new h1 (.tup [.int (gapF a b p qq), .int b])
  refine ⟨_, rfl, _, rfl, y, r, c, d, p, qq, rfl, R2.mono s1, Pi.mono s1, fun n2 h2 => ?_⟩
  have s2 := same_new h2 (.tup [.int (gapF c d p qq), .int d])
  have g1 := s2 _ _ (upd_same (H := H) (a := n1) (o := .tup [.int (gapF a b p qq), .int b]))
  have b1 := (gap_bd R1.ba R1.bb Pi.bp Pi.bq).mono (show 501 ≤ 2000 by decide)
  have b2 := (gap_bd R2.ba R2.bb Pi.bp Pi.bq).mono (show 501 ≤ 2000 by decide)
  have sAll := s1.trans s2
  refine ⟨_, rfl, _, rfl, n1, n2, _, _, _, _, rfl, g1, upd_same, b1, R1.bb.mono (by decide), b2, R2.bb.mono (by decide), _, rfl, ?_⟩
  refine iteD (fun l1 => ?_) (fun l1 => ?_)
  · have z := q _ sAll
    rw [decide_eq_true (show Bt a b c d p qq from .inl l1)] at z
    exact z
  refine ⟨_, rfl, _, rfl, n2, n1, _, _, _, _, rfl, upd_same, g1, b2, R2.bb.mono (by decide), b1, R1.bb.mono (by decide), _, rfl, ?_⟩
  refine iteD (fun l2 => ?_) (fun l2 => ?_)
  · have z := q _ sAll
    rw [decide_eq_false (show ¬ Bt a b c d p qq from fun h => by rcases h with h | ⟨h, _⟩ <;> omega)] at z
    exact z
  refine ⟨_, rfl, _, rfl, x, y, _, _, _, _, rfl, (R1.mono sAll).at_, (R2.mono sAll).at_, R1.ba.mono (by decide), R1.bb.mono (by decide), R2.ba.mono (by decide), R2.bb.mono (by decide), ?_⟩
  have z := q _ sAll
  have e : decide (Bt a b c d p qq) = decide (a * d < c * b) := decide_eq_decide.mpr ⟨fun h => by rcases h with h | ⟨_, h⟩; exact absurd h l1; exact h, fun h => .inr ⟨by omega, h⟩⟩
  rw [e] at z
  exact z

def spPlain (K : PySem.W.Frag) : Sp := fun vs H Q _ => ∃ (a : Addr) (ws : List Int), vs = [.ref a] ∧ SqA K H a (ws.map V.int) ∧ Train ws ∧ ∀ p, H p = none → Q (.ref p) (upd H p (.tup [.int (ratT ws), .int (ratB ws)]))
theorem d_f_plain_ratio (T : Txt K mg) : DefOk P w K mg base "plain_ratio" ["train"] 1 (spPlain K) := by
  obtain ⟨f, fd, F, hm, hb⟩ := T.h_f_plain_ratio
  refine ⟨f, fd, F.ok sc_f_plain_ratio (fun vs H Q E h => ?_) (fun cdv A outer s H vs Q E hr h => ?_), hm, F.kp, hb⟩
  · obtain ⟨a, ws, rfl, _⟩ := h
    rfl
  obtain ⟨a, ws, rfl, hA, R, q⟩ := h
  refine ⟨_, (@pss_cons _ _ _ _ _ (ps_if (pt_cmp (pc_eqI (pe_callB call_len_seq (by rfl) T.z_len PySem.boot_len (pa_cons (pv 0) pa_nil)) pe_int))
 (@pss_one _ _ _ (@ps_ret _ _ _ _ (@pe_tup _ _ _ _ _ (pa_cons (@pe_ix _ _ _ _ _ _ _ ix_any (pv 0) pe_int (fun _ _ => rfl)) (pa_cons (@pe_ix _ _ _ _ _ _ _ ix_any (pv 0) pe_int (fun _ _ => rfl)) pa_nil)))))
 pss_nil)
 (@pss_one _ _ _ (@ps_ret _ _ _ _ (@pe_tup _ _ _ _ _ (pa_cons (pe_op op_mulX (@pe_ix _ _ _ _ _ _ _ ix_any (pv 0) pe_int (fun _ _ => rfl)) (@pe_ix _ _ _ _ _ _ _ ix_any (pv 0) pe_int (fun _ _ => rfl))) (pa_cons (pe_op op_mulX (@pe_ix _ _ _ _ _ _ _ ix_any (pv 0) pe_int (fun _ _ => rfl)) (@pe_ix _ _ _ _ _ _ _ ix_any (pv 0) pe_int (fun _ _ => rfl))) pa_nil)))))), ?_⟩
  rcases R.cases with ⟨x, y, rfl⟩ | ⟨x, y, z, t, rfl⟩
  · refine ⟨_, rfl, a, _, rfl, hA, _, _, rfl, rfl, _, rfl, ?_⟩
    refine iteDT rfl ?_
    exact ⟨_, rfl, _, _, _, _, rfl, rfl, hA, rfl, _, rfl, _, _, _, _, rfl, rfl, hA, rfl, (by show 2 ≤ sizeLine; decide), q⟩
  · refine ⟨_, rfl, a, _, rfl, hA, _, _, rfl, rfl, _, rfl, ?_⟩
    refine iteDF (show ¬ ((4 : Nat) : Int) = 2 by decide) ?_
    have h1 := R.lo x (by simp)
    have h2 := R.hi x (by simp)
    have h3 := R.lo y (by simp)
    have h4 := R.hi y (by simp)
    exact ⟨_, rfl, _, _, _, _, rfl, rfl, hA, rfl, _, rfl, _, _, _, _, rfl, rfl, hA, rfl, _, _, rfl, rfl, .inl (.inl ⟨by omega, by omega⟩), _, rfl, _, _, _, _, rfl, rfl, hA, rfl, _, rfl, _, _, _, _, rfl, rfl, hA, rfl, _, _, rfl, rfl, .inl (.inl ⟨by omega, by omega⟩), (by show 2 ≤ sizeLine; decide), q⟩

def spGd : Sp := fun vs H Q _ => ∃ (a b : Int), vs = [.int a, .int b] ∧ 0 ≤ a ∧ 0 ≤ b ∧ Q (.int ((Int.gcd a b : Nat) : Int)) H
theorem d_f_greatest_divisor (T : Txt K mg) : DefOk P w K mg base "greatest_divisor" ["a", "b"] 1 spGd := by
  obtain ⟨f, fd, F, hm, hb⟩ := T.h_f_greatest_divisor
  refine ⟨f, fd, F.ok sc_f_greatest_divisor (fun vs H Q E h => ?_) (fun cdv A outer s H vs Q E hr h => ?_), hm, F.kp, hb⟩
  · obtain ⟨a, b, rfl, _⟩ := h
    rfl
  obtain ⟨a, b, rfl, ha0, hb0, q⟩ := h
  refine ⟨_, (@pss_cons _ _ _ _ _ (ps_while PassesOwn.never (pt_cmp (pc_neI (pv 1) pe_int))
 (@pss_cons _ _ _ _ _ (@ps_set _ _ 2 _ _ _ _ sc_f_greatest_divisor.nd rfl (Or.inl rfl) (pe_op op_mod (pv 0) (pv 1)) (by rfl) (by first | exact .inl rfl | exact .inr rfl))
 (@pss_cons _ _ _ _ _ (@ps_set _ _ 0 _ _ _ _ sc_f_greatest_divisor.nd rfl (Or.inl rfl) (pv 1) (by rfl) (by first | exact .inl rfl | exact .inr rfl))
 (@pss_one _ _ _ (@ps_set _ _ 1 _ _ _ _ sc_f_greatest_divisor.nd rfl (Or.inl rfl) (pv 2) (by rfl) (by first | exact .inl rfl | exact .inr rfl))))))
 (@pss_one _ _ _ (@ps_ret _ _ _ _ (pv 0)))), ?_⟩
  refine ⟨fun m σ H' => ∃ (x y : Int) (r : Option V), σ = [some (.int x), some (.int y), r] ∧ H' = H ∧ 0 ≤ x ∧ 0 ≤ y ∧ Int.gcd x y = Int.gcd a b ∧ m = y.toNat, ⟨_, a, b, none, rfl, rfl, ha0, hb0, rfl, rfl⟩, ?_⟩
  rintro m σ H' ⟨x, y, r, rfl, rfl, hx, hy, hg, rfl⟩
  refine ⟨_, rfl, _, _, rfl, rfl, _, rfl, ?_⟩
  by_cases c : y = 0
  · subst c
    refine iteNS rfl ?_
    refine ⟨_, rfl, ?_⟩
    have e : x = ((Int.gcd a b : Nat) : Int) := by
      rw [← hg, Int.gcd_zero_right]; omega
    rw [← e] at q
    exact q
  · refine ite2 (fun _ => ?_) (fun z => absurd (by simp [c]) z)
    refine ⟨fun σ' H'' => ∃ (x' y' : Int) (r' : Option V), σ' = [some (.int x'), some (.int y'), r'] ∧ H'' = H' ∧ 0 ≤ x' ∧ 0 ≤ y' ∧ Int.gcd x' y' = Int.gcd a b ∧ y'.toNat < y.toNat, ?_, ?_⟩
    · rintro σ' H'' ⟨x', y', r', rfl, rfl, h0, h1, h2, h3⟩
      exact ⟨_, h3, x', y', r', rfl, rfl, h0, h1, h2, rfl⟩
    · have p : 0 < y := by omega
      have e0 := Int.emod_nonneg x (Int.ne_of_gt p)
      have e1 := Int.emod_lt_of_pos x p
      refine ⟨_, rfl, _, rfl, _, _, rfl, rfl, p, _, rfl, _, rfl, y, x % y, _, rfl, rfl, hy, e0, ?_, by omega⟩
      rw [gcd_step, hg]

def spLt : Sp := fun vs H Q _ => ∃ (t b : Int), vs = [.int t, .int b] ∧ b ≠ 0 ∧ Bd 8000 b ∧ ∀ p, H p = none → Q (.ref p) (upd H p (.tup [.int (ltN t b), .int (ltD t b)]))
theorem d_f_least_terms (T : Txt K mg) : DefOk P w K mg base "least_terms" ["top", "bottom"] 2 spLt := by
  obtain ⟨f, fd, F, hm, hb⟩ := T.h_f_least_terms
  refine ⟨f, fd, F.ok sc_f_least_terms (fun vs H Q E h => ?_) (fun cdv A outer s H vs Q E hr h => ?_), hm, F.kp, hb⟩
  · obtain ⟨t, b, rfl, _⟩ := h
    rfl
  obtain ⟨t, b, rfl, hb0, hbd, q⟩ := h
  refine ⟨_, (@pss_cons _ _ _ _ _ (@ps_set _ _ 2 _ _ _ _ sc_f_least_terms.nd rfl (Or.inl rfl) (pe_callD (d_f_greatest_divisor T) hr (pa_cons (pe_callB call_abs (by rfl) T.z_abs PyProof.Rows.boot_abs (pa_cons (pv 0) pa_nil)) (pa_cons (pe_callB call_abs (by rfl) T.z_abs PyProof.Rows.boot_abs (pa_cons (pv 1) pa_nil)) pa_nil))) (by rfl) (by first | exact .inl rfl | exact .inr rfl))
 (@pss_cons _ _ _ _ _ (ps_if (pt_cmp (pc_lt (pv 1) pe_int))
 (@pss_one _ _ _ (@ps_set _ _ 2 _ _ _ _ sc_f_least_terms.nd rfl (Or.inl rfl) (pe_un un_neg (pv 2)) (by rfl) (by first | exact .inl rfl | exact .inr rfl)))
 pss_nil)
 (@pss_one _ _ _ (@ps_ret _ _ _ _ (@pe_tup _ _ _ _ _ (pa_cons (pe_op op_fdivX (pv 0) (pv 2)) (pa_cons (pe_op op_fdivX (pv 1) (pv 2)) pa_nil))))))), ?_⟩
  refine ⟨_, rfl, _, rfl, _, rfl, _, rfl, _, _, rfl, by split <;> omega, by split <;> omega, ?_⟩
  rw [gcd_abs]
  refine ⟨_, rfl, _, _, rfl, rfl, _, rfl, ?_⟩
  have hs : sg t b ≠ 0 := sg_ne hb0
  have hd : Bd 8000 (sg t b) := hbd.le (sg_le hb0)
  refine ite2 (fun c => ?_) (fun c => ?_)
  · have c' : b < 0 := of_decide_eq_true c
    have e : -((Int.gcd t b : Nat) : Int) = sg t b := (if_pos c').symm
    unfold ltN ltD at q
    rw [← e] at q hs hd
    exact ⟨_, rfl, _, rfl, _, rfl, _, rfl, _, _, rfl, rfl, ⟨hs, hd⟩, _, rfl, _, rfl, _, _, rfl, rfl, ⟨hs, hd⟩, (by show 2 ≤ sizeLine; decide), q⟩
  · have c' : ¬ b < 0 := of_decide_eq_false (Bool.eq_false_iff.mpr c)
    have e : ((Int.gcd t b : Nat) : Int) = sg t b := (if_neg c').symm
    rw [e]
    exact ⟨_, rfl, _, rfl, _, _, rfl, rfl, ⟨hs, hd⟩, _, rfl, _, rfl, _, _, rfl, rfl, ⟨hs, hd⟩, (by show 2 ≤ sizeLine; decide), q⟩

def spRatio (K : PySem.W.Frag) : Sp := fun vs H Q _ => ∃ (a : Addr) (ws : List Int), vs = [.ref a] ∧ SqA K H a (ws.map V.int) ∧ Train ws ∧ ∀ p H', Same H H' → H p = none → H' p = some (.tup [.int (ltN (ratT ws) (ratB ws)), .int (ltD (ratT ws) (ratB ws))]) → Q (.ref p) H'
theorem d_f_ratio_of (T : Txt K mg) : DefOk P w K mg base "ratio_of" ["train"] 3 (spRatio K) := by
  obtain ⟨f, fd, F, hm, hb⟩ := T.h_f_ratio_of
  refine ⟨f, fd, F.ok sc_f_ratio_of (fun vs H Q E h => ?_) (fun cdv A outer s H vs Q E hr h => ?_), hm, F.kp, hb⟩
  · obtain ⟨a, ws, rfl, _⟩ := h
    rfl
  obtain ⟨a, ws, rfl, hA, R, q⟩ := h
  refine ⟨_, (@pss_cons _ _ _ _ _ (@ps_set _ _ 1 _ _ _ _ sc_f_ratio_of.nd rfl (Or.inl rfl) (pe_callD (d_f_plain_ratio T) hr (pa_cons (pv 0) pa_nil)) (by rfl) (by first | exact .inl rfl | exact .inr rfl))
 (@pss_one _ _ _ (@ps_ret _ _ _ _ (pe_callD (d_f_least_terms T) hr (pa_cons (@pe_ix _ _ _ _ _ _ _ ix_tup (pv 1) pe_int (fun _ _ => rfl)) (pa_cons (@pe_ix _ _ _ _ _ _ _ ix_tup (pv 1) pe_int (fun _ _ => rfl)) pa_nil)))))), ?_⟩
  obtain ⟨_, _, b1, b2⟩ := R.in
  refine ⟨_, rfl, a, ws, rfl, hA, R, fun p hp => ?_⟩
  refine ⟨_, rfl, _, _, _, _, rfl, rfl, SqT.of (upd_same), rfl, _, rfl, _, _, _, _, rfl, rfl, SqT.of (upd_same), rfl, _, _, rfl, by omega, (Bd.of60 (by omega) (by omega)).mono (by decide), fun r hr' => ?_⟩
  have s1 := same_new hp (.tup [.int (ratT ws), .int (ratB ws)])
  exact q r _ (s1.trans (same_new hr' _)) (s1.free hr') upd_same

theorem train_rat {t : List Int} (R : Train t) {H : Hp} {p : Addr} (h : H p = some (.tup [.int (ratT t), .int (ratB t)])) : Rat2 H p (ratT t) (ratB t) := by
  obtain ⟨h1, h2, h3, h4⟩ := R.in
  exact ⟨h, h1, h2, h3, h4⟩
theorem all_ne {sw : List Int} (hs : sw.Pairwise (· < ·)) (h2 : 2 ≤ sw.length) : ∃ t r, allT sw = t :: r := by
  match sw, h2, hs with
  | a :: b :: r, _, hs =>
    have l : a < b := (List.pairwise_cons.mp hs).1 b (by simp)
    have m : [a, b] ∈ allT (a :: b :: r) := List.mem_append_left _ (mem_pairsM.mpr ⟨a, b, by simp, by simp, by omega, rfl⟩)
    cases e : allT (a :: b :: r) with
    | nil => rw [e] at m; simp at m
    | cons t r => exact ⟨t, r, rfl⟩
def spChoose (K : PySem.W.Frag) : Sp := fun vs H Q _ => ∃ (a r : Addr) (ws : List Int) (p q : Int), vs = [.ref a, .ref r] ∧ SqA K H a (ws.map V.int) ∧ Shop ws ∧ 2 ≤ ws.length ∧ ws.length ≤ 12 ∧ Pit H r p q ∧
  ∀ (sw c : List Int) (o o1 o2 : Addr) (H' : Hp), sw.Perm ws → sw.Pairwise (· < ·) → Best p q (allT sw) c → Train c → Same H H' → H' o = some (.tup [.ref o1, .ref o2]) → H' o1 = some (.tup [.int (ltN (ratT c) (ratB c)), .int (ltD (ratT c) (ratB c))]) → H' o2 = some (.tup (c.map V.int)) → Q (.ref o) H'
theorem d_f_choose_train (T : Txt K mg) : DefOk P w K mg base "choose_train" ["wheels", "pitch"] 4 (spChoose K) := by
  obtain ⟨f, fd, F, hm, hb⟩ := T.h_f_choose_train
  refine ⟨f, fd, F.ok sc_f_choose_train (fun vs H Q E h => ?_) (fun cdv A outer s H vs Q E hr h => ?_), hm, F.kp, hb⟩
  · obtain ⟨a, r, ws, p, q, rfl, _⟩ := h
    rfl
  obtain ⟨a, r, ws, p, qq, rfl, hA, S, l2, l12, Pi, q⟩ := h
  refine ⟨_, (@pss_cons _ _ _ _ _ (@ps_set _ _ 2 _ _ _ _ sc_f_choose_train.nd rfl (Or.inl rfl) (pe_callD (d_f_all_trains T) hr (pa_cons (pv 0) pa_nil)) (by rfl) (by first | exact .inl rfl | exact .inr rfl))
 (@pss_cons _ _ _ _ _ (@ps_set _ _ 3 _ _ _ _ sc_f_choose_train.nd rfl (Or.inl rfl) (@pe_ix _ _ _ _ _ _ _ ix_list (pv 2) pe_int (fun _ _ => rfl)) (by rfl) (by first | exact .inl rfl | exact .inr rfl))
 (@pss_cons _ _ _ _ _ (ps_for PassesOwn.never rfl (pi_list (pv 2)) (pg_name (i := 4) sc_f_choose_train.nd rfl (Or.inl rfl))
 (@pss_one _ _ _ (ps_if (pt_val (pe_callD (d_f_suits_better T) hr (pa_cons (pe_callD (d_f_plain_ratio T) hr (pa_cons (pv 4) pa_nil)) (pa_cons (pe_callD (d_f_plain_ratio T) hr (pa_cons (pv 3) pa_nil)) (pa_cons (pv 1) pa_nil)))))
 (@pss_one _ _ _ (@ps_set _ _ 3 _ _ _ _ sc_f_choose_train.nd rfl (Or.inl rfl) (pv 4) (by rfl) (by first | exact .inl rfl | exact .inr rfl)))
 pss_nil)))
 (@pss_one _ _ _ (@ps_ret _ _ _ _ (@pe_tup _ _ _ _ _ (pa_cons (pe_callD (d_f_ratio_of T) hr (pa_cons (pv 3) pa_nil)) (pa_cons (pv 3) pa_nil)))))))), ?_⟩
  refine ⟨_, rfl, a, ws, rfl, hA, l12, fun sw D H1 hp hs0 s1 nD tl hn => ?_⟩
  have hs := strict_of hp S.nd hs0
  have tr := allT_train (ts := sw) (fun v hv => S.lo v (hp.mem_iff.mp hv)) (fun v hv => S.hi v (hp.mem_iff.mp hv))
  have pos : ∀ x ∈ allT sw, 0 < ratB x := fun x hx => by have := (tr x hx).in; omega
  obtain ⟨t0, rest, e0⟩ := all_ne hs (by rw [hp.length_eq]; exact l2)
  obtain ⟨rs, hD, hP⟩ := tl
  have hlen : (rs.map V.ref).length = (allT sw).length := by rw [List.length_map, Paired.length hP]
  have h0 : ∃ r0, (rs.map V.ref)[0]? = some (.ref r0) ∧ H1 r0 = some (.tup (t0.map V.int)) := by
    cases e : (rs.map V.ref)[0]? with
    | none => rw [List.getElem?_eq_none_iff, hlen, e0] at e; simp at e
    | some x =>
      obtain ⟨r0, t, rfl, e1, e2⟩ := tl_at hP e
      rw [e0] at e1
      cases e1
      exact ⟨r0, rfl, e2⟩
  obtain ⟨r0, g0, g1⟩ := h0
  refine ⟨_, rfl, D, _, _, _, rfl, rfl, SqL.of hD, atI_nat g0, ?_⟩
  refine ⟨_, rfl, D, rfl, ⟨_, SqL.of hD⟩, for_list (K := K) (a := D) (xs := rs.map V.ref) (fun i σ H' => ∃ (c : List Int) (cr : Addr) (u : Option V), σ = [some (.ref a), some (.ref r), some (.ref D), some (.ref cr), u] ∧ Same H1 H' ∧ H' cr = some (.tup (c.map V.int)) ∧ c ∈ allT sw ∧ ((i = 0 ∧ c = t0) ∨ Best p qq ((allT sw).take i) c))
    ⟨t0, r0, none, rfl, Same.refl _, g1, by rw [e0]; simp, .inl ⟨rfl, rfl⟩⟩ (fun i σ H' _ ⟨_, _, _, _, s, _⟩ => SqL.of (s _ _ hD)) ?_ ?_⟩
  · rintro i x σ H' hx ⟨c, cr, u, rfl, s, hc, mc, bst⟩
    obtain ⟨tr', t, rfl, ht, htr⟩ := tl_at hP hx
    have mt : t ∈ allT sw := List.mem_of_getElem? ht
    refine ⟨_, rfl, tr', t, rfl, .inr (SqT.of (s _ _ htr)), tr t mt, fun n1 h1 => ?_⟩
    have u1 := same_new h1 (.tup [.int (ratT t), .int (ratB t)])
    refine ⟨_, rfl, cr, c, rfl, .inr (SqT.of (u1 _ _ hc)), tr c mc, fun n2 h2 => ?_⟩
    have u2 := same_new h2 (.tup [.int (ratT c), .int (ratB c)])
    have e1 := u2 _ _ (upd_same (H := H') (a := n1) (o := .tup [.int (ratT t), .int (ratB t)]))
    refine ⟨_, rfl, n1, n2, r, _, _, _, _, p, qq, rfl, train_rat (tr t mt) e1, train_rat (tr c mc) upd_same, Pi.mono (s1.trans (s.trans (u1.trans u2))), fun H2 s2 => ⟨_, rfl, ?_⟩⟩
    have sAll := u1.trans (u2.trans s2)
    have tk : (allT sw).take (i + 1) = (allT sw).take i ++ [t] := take_more ht
    have next : Best p qq ((allT sw).take (i + 1)) (stepM p qq c t) := by
      rcases bst with ⟨rfl, rfl⟩ | b
      · have : t = c := by rw [e0] at ht; cases ht; rfl
        subst this
        have : stepM p qq t t = t := by unfold stepM; split <;> rfl
        rw [this, tk]
        exact ⟨[], [], by simp, by simp, by simp⟩
      · rw [tk]
        exact b.more (fun x hx => pos x (List.mem_of_mem_take hx)) (pos t mt)
    refine iteD (fun bt => ?_) (fun bt => ?_)
    · have : stepM p qq c t = t := if_pos bt
      rw [this] at next
      exact ⟨_, rfl, t, tr', _, rfl, s.trans sAll, sAll _ _ (s _ _ htr), mt, .inr next⟩
    · have : stepM p qq c t = c := if_neg bt
      rw [this] at next
      exact ⟨c, cr, _, rfl, s.trans sAll, sAll _ _ hc, mc, .inr next⟩
  · rintro σ H' ⟨c, cr, u, rfl, s, hc, mc, bst⟩
    rw [hlen, List.take_length] at bst
    have b : Best p qq (allT sw) c := by
      rcases bst with ⟨z, _⟩ | b
      · rw [e0] at z; simp at z
      · exact b
    refine ⟨_, rfl, cr, c, rfl, .inr (SqT.of hc), tr c mc, fun o1 H2 s2 n1 h1 => ?_⟩
    refine ⟨_, rfl, (by show 2 ≤ sizeLine; decide), fun o ho => ?_⟩
    have s3 := same_new ho (.tup [.ref o1, .ref cr])
    exact q sw c o o1 cr _ hp hs b (tr c mc) (s1.trans (s.trans (s2.trans s3))) upd_same (s3 _ _ h1) (s3 _ _ (s2 _ _ hc))

/-- what is gone through lies ahead, what is still to come behind -/
theorem take_lt {sw : List Int} (hs : sw.Pairwise (· < ·)) {i : Nat} {a x : Int} (ha : sw[i]? = some a) (hx : x ∈ sw) (l : x < a) : x ∈ sw.take i := by
  obtain ⟨hi, ea⟩ := List.getElem?_eq_some_iff.mp ha
  obtain ⟨j, hj, ex⟩ := List.getElem_of_mem hx
  rw [List.pairwise_iff_getElem] at hs
  have : j < i := by
    rcases Nat.lt_trichotomy j i with z | z | z
    · exact z
    · subst z; omega
    · have := hs i j hi hj z; omega
  rw [List.mem_take_iff_getElem]
  exact ⟨j, by omega, ex⟩
theorem mem_more {α : Type} {l : List α} {i : Nat} {a x : α} (h : l[i]? = some a) (hx : x ∈ l.take (i + 1)) : x ∈ l.take i ∨ x = a := by
  rw [take_more h] at hx
  rcases List.mem_append.mp hx with z | z
  · exact .inl z
  · exact .inr (List.mem_singleton.mp z)
/-- a four whose drivers and whose driven wheels rise, and that gives the pitch -/
def Sol (sw : List Int) (p q a b c d : Int) : Prop := (a ∈ sw ∧ b ∈ sw ∧ c ∈ sw ∧ d ∈ sw) ∧ b ≠ a ∧ c > a ∧ c ≠ b ∧ d > b ∧ d ≠ a ∧ d ≠ c ∧ a * c * q = b * d * p
def spFirst (K : PySem.W.Frag) : Sp := fun vs H Q _ => ∃ (a : Addr) (ws : List Int) (p q : Int), vs = [.ref a, .int p, .int q] ∧ SqL K H a (ws.map V.int) ∧ Shop ws ∧ ws.length ≤ 12 ∧ Bd 300 p ∧ Bd 300 q ∧
  ∀ (sw r : List Int) (o : Addr) (H' : Hp), sw.Perm ws → sw.Pairwise (· < ·) → (First sw p q r ∨ (r = [] ∧ ∀ t ∈ allT sw, ¬ Ex p q t)) → Same H H' → H' o = some (.tup (r.map V.int)) → Q (.ref o) H'
theorem d_l_first (T : Txt K mg) : DefOk P w K mg base "_law_first" ["_law_wheels", "_law_top", "_law_bottom"] 1 (spFirst K) := by
  obtain ⟨f, fd, F, hm, hb⟩ := T.h_l_first
  refine ⟨f, fd, F.ok sc_l_first (fun vs H Q E h => ?_) (fun cdv A outer s H vs Q E hr h => ?_), hm, F.kp, hb⟩
  · obtain ⟨a, ws, p, q, rfl, _⟩ := h
    rfl
  obtain ⟨a0, ws, p, qq, rfl, hS, S, l12, bp, bq, q⟩ := h
  refine ⟨_, (@pss_cons _ _ _ _ _ (@ps_set _ _ 3 _ _ _ _ sc_l_first.nd rfl (Or.inl rfl) (pe_callB call_sorted_ints (by rfl) T.z_sorted PyProof.Rows.boot_sorted (pa_cons (pv 0) pa_nil)) (by rfl) (by first | exact .inl rfl | exact .inr rfl))
 (@pss_cons _ _ _ _ _ (ps_for PassesOwn.never rfl (pi_list (pv 3)) (pg_name (i := 4) sc_l_first.nd rfl (Or.inl rfl))
 (@pss_one _ _ _ (ps_for PassesOwn.never rfl (pi_list (pv 3)) (pg_name (i := 5) sc_l_first.nd rfl (Or.inl rfl))
 (@pss_one _ _ _ (ps_if (pw_and (pt_cmp (pc_neI (pv 4) (pv 5))) (pw_and1 (pt_cmp (pc_eqI (pe_op op_mulX (pv 4) (pv 2)) (pe_op op_mulX (pv 5) (pv 1)))))).pt
 (@pss_one _ _ _ (@ps_ret _ _ _ _ (@pe_tup _ _ _ _ _ (pa_cons (pv 4) (pa_cons (pv 5) pa_nil)))))
 pss_nil)))))
 (@pss_cons _ _ _ _ _ (ps_for PassesOwn.never rfl (pi_list (pv 3)) (pg_name (i := 4) sc_l_first.nd rfl (Or.inl rfl))
 (@pss_one _ _ _ (ps_for PassesOwn.never rfl (pi_list (pv 3)) (pg_name (i := 5) sc_l_first.nd rfl (Or.inl rfl))
 (@pss_one _ _ _ (ps_if (pt_cmp (pc_neI (pv 5) (pv 4)))
 (@pss_one _ _ _ (ps_for PassesOwn.never rfl (pi_list (pv 3)) (pg_name (i := 6) sc_l_first.nd rfl (Or.inl rfl))
 (@pss_one _ _ _ (ps_if (pw_and (pt_cmp (pc_gt (pv 6) (pv 4))) (pw_and1 (pt_cmp (pc_neI (pv 6) (pv 5))))).pt
 (@pss_one _ _ _ (ps_for PassesOwn.never rfl (pi_list (pv 3)) (pg_name (i := 7) sc_l_first.nd rfl (Or.inl rfl))
 (@pss_one _ _ _ (ps_if (pw_and (pt_cmp (pc_gt (pv 7) (pv 5))) (pw_and (pt_cmp (pc_neI (pv 7) (pv 4))) (pw_and (pt_cmp (pc_neI (pv 7) (pv 6))) (pw_and1 (pt_cmp (pc_eqI (pe_op op_mulX (pe_op op_mulX (pv 4) (pv 6)) (pv 2)) (pe_op op_mulX (pe_op op_mulX (pv 5) (pv 7)) (pv 1)))))))).pt
 (@pss_one _ _ _ (@ps_ret _ _ _ _ (@pe_tup _ _ _ _ _ (pa_cons (pv 4) (pa_cons (pv 5) (pa_cons (pv 6) (pa_cons (pv 7) pa_nil)))))))
 pss_nil))))
 pss_nil))))
 pss_nil)))))
 (@pss_one _ _ _ (@ps_ret _ _ _ _ (@pe_tup _ _ _ _ _ pa_nil)))))), ?_⟩
  refine ⟨_, rfl, a0, ws, rfl, .inl hS, by omega, fun L sw hp hs0 hL => ?_⟩
  have hs := strict_of hp S.nd hs0
  have s1 := same_new hL (.lst (sw.map V.int))
  have hLs : (upd H L (.lst (sw.map V.int))) L = some (.lst (sw.map V.int)) := upd_same
  have bt : ∀ x ∈ sw, Bd 200 x := fun x hx => Bd.of60 (by have := S.lo x (hp.mem_iff.mp hx); omega) (by have := S.hi x (hp.mem_iff.mp hx); omega)
  have hlen : (sw.map V.int).length = sw.length := List.length_map _
  generalize upd H L (.lst (sw.map V.int)) = H1 at *
  have two : ∀ x y : Int, Ex p qq [x, y] ↔ x * qq = y * p := fun x y => by show x * qq = p * y ↔ _; rw [Int.mul_comm p y]
  have four : ∀ x y z t : Int, Ex p qq [x, y, z, t] ↔ x * z * qq = y * t * p := fun x y z t => by show x * z * qq = p * (y * t) ↔ _; rw [Int.mul_comm p (y * t)]
  -- pairs
  refine ⟨_, rfl, L, rfl, ⟨_, SqL.of hLs⟩, for_list (K := K) (a := L) (xs := sw.map V.int) (fun i σ H' => (∃ u v, σ = [some (.ref a0), some (.int p), some (.int qq), some (.ref L), u, v, none, none]) ∧ H' = H1 ∧ ∀ x ∈ sw.take i, ∀ y ∈ sw, x ≠ y → ¬ x * qq = y * p)
    ⟨⟨none, none, rfl⟩, rfl, by simp⟩ (fun i σ H' _ ⟨_, e, _⟩ => by rw [e]; exact SqL.of hLs) ?_ ?_⟩
  · rintro i x σ H' hx ⟨⟨u, v, rfl⟩, rfl, no⟩
    obtain ⟨a, rfl, ha⟩ := int_at hx
    have ma := List.mem_of_getElem? ha
    refine ⟨_, rfl, L, rfl, ⟨_, SqL.of hLs⟩, for_list (K := K) (a := L) (xs := sw.map V.int) (fun j σ H2 => (∃ v, σ = [some (.ref a0), some (.int p), some (.int qq), some (.ref L), some (.int a), v, none, none]) ∧ H2 = H' ∧ ∀ y ∈ sw.take j, a ≠ y → ¬ a * qq = y * p)
      ⟨⟨v, rfl⟩, rfl, by simp⟩ (fun i σ H2 _ ⟨_, e, _⟩ => by rw [e]; exact SqL.of hLs) ?_ ?_⟩
    · rintro j y σ H2 hy ⟨⟨v, rfl⟩, rfl, no2⟩
      obtain ⟨b, rfl, hb'⟩ := int_at hy
      have mb := List.mem_of_getElem? hb'
      refine ⟨_, rfl, _, rfl, _, _, rfl, rfl, _, rfl, ?_⟩
      refine iteND (fun ne => ?_) (fun eq => ?_)
      · refine ⟨_, rfl, _, rfl, _, _, rfl, rfl, .inr ⟨(bt a ma).mono (by decide), bq.mono (by decide)⟩, _, rfl, _, rfl, _, _, rfl, rfl, .inr ⟨(bt b mb).mono (by decide), bp.mono (by decide)⟩, _, _, rfl, rfl, _, rfl, ?_⟩
        refine iteD (fun e => ?_) (fun e => ?_)
        · refine ⟨_, rfl, _, rfl, (by show 2 ≤ sizeLine; decide), fun o ho => ?_⟩
          refine q sw [a, b] o _ hp hs (.inl (first_two ma mb ne ((two a b).mpr e) fun x hx' y hy' n ex l => ?_)) (s1.trans (same_new ho _)) upd_same
          rcases lx2.mp l with z | ⟨z1, z2⟩
          · exact no x (take_lt hs ha hx' z) y hy' n ((two x y).mp ex)
          · subst z1
            exact no2 y (take_lt hs hb' hy' z2) n ((two x y).mp ex)
        · refine ⟨⟨_, rfl⟩, rfl, fun y hy' n => ?_⟩
          rcases mem_more hb' hy' with z | z
          · exact no2 y z n
          · subst z; exact e
      · refine iteF ⟨⟨_, rfl⟩, rfl, fun y hy' n => ?_⟩
        rcases mem_more hb' hy' with z | z
        · exact no2 y z n
        · subst z; exact absurd eq n
    · rintro σ H2 ⟨⟨v, rfl⟩, rfl, no2⟩
      rw [hlen, List.take_length] at no2
      refine ⟨⟨_, _, rfl⟩, rfl, fun x hx' y hy' n => ?_⟩
      rcases mem_more ha hx' with z | z
      · exact no x z y hy' n
      · subst z; exact no2 y hy' n
  rintro σ H' ⟨⟨u, v, rfl⟩, rfl, nop⟩
  rw [hlen, List.take_length] at nop
  -- fours
  refine ⟨_, rfl, L, rfl, ⟨_, SqL.of hLs⟩, for_list (K := K) (a := L) (xs := sw.map V.int) (fun i σ H2 => (∃ u v x y, σ = [some (.ref a0), some (.int p), some (.int qq), some (.ref L), u, v, x, y]) ∧ H2 = H' ∧ ∀ a b c d, a ∈ sw.take i → ¬ Sol sw p qq a b c d)
    ⟨⟨_, _, _, _, rfl⟩, rfl, by simp⟩ (fun i σ H2 _ ⟨_, e, _⟩ => by rw [e]; exact SqL.of hLs) ?_ ?_⟩
  · rintro i x σ H2 hx ⟨⟨u, v, x', y', rfl⟩, rfl, noA⟩
    obtain ⟨a, rfl, ha⟩ := int_at hx
    have ma := List.mem_of_getElem? ha
    refine ⟨_, rfl, L, rfl, ⟨_, SqL.of hLs⟩, for_list (K := K) (a := L) (xs := sw.map V.int) (fun j σ H3 => (∃ v x y, σ = [some (.ref a0), some (.int p), some (.int qq), some (.ref L), some (.int a), v, x, y]) ∧ H3 = H2 ∧ ∀ b c d, b ∈ sw.take j → ¬ Sol sw p qq a b c d)
      ⟨⟨_, _, _, rfl⟩, rfl, by simp⟩ (fun i σ H3 _ ⟨_, e, _⟩ => by rw [e]; exact SqL.of hLs) ?_ ?_⟩
    · rintro j y σ H3 hy ⟨⟨v, x', y', rfl⟩, rfl, noB⟩
      obtain ⟨b, rfl, hb'⟩ := int_at hy
      have mb := List.mem_of_getElem? hb'
      have goB : (∀ c d, ¬ Sol sw p qq a b c d) → ∀ b1 c d, b1 ∈ sw.take (j + 1) → ¬ Sol sw p qq a b1 c d := fun h b1 c d hm => by
        rcases mem_more hb' hm with z | z
        · exact noB b1 c d z
        · subst z; exact h c d
      refine ⟨_, rfl, _, rfl, _, _, rfl, rfl, _, rfl, ?_⟩
      refine iteND (fun ne => ?_) (fun eq => ⟨⟨_, _, _, rfl⟩, rfl, goB fun c d s => s.2.1 eq⟩)
      refine ⟨_, rfl, L, rfl, ⟨_, SqL.of hLs⟩, for_list (K := K) (a := L) (xs := sw.map V.int) (fun k σ H4 => (∃ x y, σ = [some (.ref a0), some (.int p), some (.int qq), some (.ref L), some (.int a), some (.int b), x, y]) ∧ H4 = H3 ∧ ∀ c d, c ∈ sw.take k → ¬ Sol sw p qq a b c d)
        ⟨⟨_, _, rfl⟩, rfl, by simp⟩ (fun i σ H4 _ ⟨_, e, _⟩ => by rw [e]; exact SqL.of hLs) ?_ ?_⟩
      · rintro k z σ H4 hz ⟨⟨x', y', rfl⟩, rfl, noC⟩
        obtain ⟨c, rfl, hc⟩ := int_at hz
        have mc := List.mem_of_getElem? hc
        have goC : (∀ d, ¬ Sol sw p qq a b c d) → ∀ c1 d, c1 ∈ sw.take (k + 1) → ¬ Sol sw p qq a b c1 d := fun h c1 d hm => by
          rcases mem_more hc hm with z | z
          · exact noC c1 d z
          · subst z; exact h d
        refine ⟨_, rfl, _, rfl, _, _, rfl, rfl, _, rfl, ?_⟩
        refine iteD (fun gt => ?_) (fun gt => iteF ⟨⟨_, _, rfl⟩, rfl, goC fun d s => gt s.2.2.1⟩)
        refine ⟨_, rfl, _, rfl, _, _, rfl, rfl, _, rfl, ?_⟩
        refine iteND (fun ncb => ?_) (fun ncb => ⟨⟨_, _, rfl⟩, rfl, goC fun d s => s.2.2.2.1 ncb⟩)
        refine ⟨_, rfl, L, rfl, ⟨_, SqL.of hLs⟩, for_list (K := K) (a := L) (xs := sw.map V.int) (fun m σ H5 => (∃ y, σ = [some (.ref a0), some (.int p), some (.int qq), some (.ref L), some (.int a), some (.int b), some (.int c), y]) ∧ H5 = H4 ∧ ∀ d, d ∈ sw.take m → ¬ Sol sw p qq a b c d)
          ⟨⟨_, rfl⟩, rfl, by simp⟩ (fun i σ H5 _ ⟨_, e, _⟩ => by rw [e]; exact SqL.of hLs) ?_ ?_⟩
        · rintro m t σ H5 ht ⟨⟨y', rfl⟩, rfl, noD⟩
          obtain ⟨d, rfl, hd⟩ := int_at ht
          have md := List.mem_of_getElem? hd
          have goD : ¬ Sol sw p qq a b c d → ∀ d1, d1 ∈ sw.take (m + 1) → ¬ Sol sw p qq a b c d1 := fun h d1 hm => by
            rcases mem_more hd hm with z | z
            · exact noD d1 z
            · subst z; exact h
          refine ⟨_, rfl, _, rfl, _, _, rfl, rfl, _, rfl, ?_⟩
          refine iteD (fun gdb => ?_) (fun gdb => iteF ⟨⟨_, rfl⟩, rfl, goD fun s => gdb s.2.2.2.2.1⟩)
          refine ⟨_, rfl, _, rfl, _, _, rfl, rfl, _, rfl, ?_⟩
          refine iteND (fun nda => ?_) (fun nda => iteF ⟨⟨_, rfl⟩, rfl, goD fun s => s.2.2.2.2.2.1 nda⟩)
          refine ⟨_, rfl, _, rfl, _, _, rfl, rfl, _, rfl, ?_⟩
          refine iteND (fun ndc => ?_) (fun ndc => iteF ⟨⟨_, rfl⟩, rfl, goD fun s => s.2.2.2.2.2.2.1 ndc⟩)
          refine ⟨_, rfl, _, rfl, _, _, rfl, rfl, .inr ⟨(bt a ma).mono (by decide), (bt c mc).mono (by decide)⟩, _, rfl, _, _, rfl, rfl, .inr ⟨((bt a ma).mul (bt c mc)).mono (by decide), bq.mono (by decide)⟩, _, rfl, _, rfl, _, _, rfl, rfl, .inr ⟨(bt b mb).mono (by decide), (bt d md).mono (by decide)⟩, _, rfl, _, _, rfl, rfl, .inr ⟨((bt b mb).mul (bt d md)).mono (by decide), bp.mono (by decide)⟩, _, _, rfl, rfl, _, rfl, ?_⟩
          refine iteD (fun e => ?_) (fun e => ⟨⟨_, rfl⟩, rfl, goD fun s => e s.2.2.2.2.2.2.2⟩)
          refine ⟨_, rfl, _, rfl, _, rfl, _, rfl, (by show 4 ≤ sizeLine; decide), fun o ho => ?_⟩
          refine q sw [a, b, c, d] o _ hp hs (.inl (first_four (fun x hx' y hy' n ex => nop x hx' y hy' n ((two x y).mp ex)) ⟨ma, mb, mc, md⟩ (fun z => ne z.symm) (fun z => ndc z.symm) gt (fun z => nda z.symm) (fun z => ncb z.symm) gdb ((four a b c d).mpr e) fun a' b' c' d' h1 h2 h3 h4 k1 k2 k3 k4 k5 k6 ex l => ?_)) (s1.trans (same_new ho _)) upd_same
          have sol : Sol sw p qq a' b' c' d' := ⟨⟨h1, h2, h3, h4⟩, fun z => k1 z.symm, k3, fun z => k5 z.symm, k6, fun z => k4 z.symm, fun z => k2 z.symm, (four ..).mp ex⟩
          rcases lx4.mp l with z | ⟨z1, z | ⟨z2, z | ⟨z3, z⟩⟩⟩
          · exact noA a' b' c' d' (take_lt hs ha h1 z) sol
          · subst z1; exact noB b' c' d' (take_lt hs hb' h2 z) sol
          · subst z1 z2; exact noC c' d' (take_lt hs hc h3 z) sol
          · subst z1 z2 z3; exact noD d' (take_lt hs hd h4 z) sol
        · rintro σ H5 ⟨⟨y', rfl⟩, rfl, noD⟩
          rw [hlen, List.take_length] at noD
          exact ⟨⟨_, _, rfl⟩, rfl, goC fun d s => noD d s.1.2.2.2 s⟩
      · rintro σ H4 ⟨⟨x', y', rfl⟩, rfl, noC⟩
        rw [hlen, List.take_length] at noC
        exact ⟨⟨_, _, _, rfl⟩, rfl, goB fun c d s => noC c d s.1.2.2.1 s⟩
    · rintro σ H3 ⟨⟨v, x', y', rfl⟩, rfl, noB⟩
      rw [hlen, List.take_length] at noB
      refine ⟨⟨_, _, _, _, rfl⟩, rfl, fun a1 b c d hm => ?_⟩
      rcases mem_more ha hm with z | z
      · exact noA a1 b c d z
      · subst z; exact fun s => noB b c d s.1.2.1 s
  · rintro σ H2 ⟨⟨u, v, x', y', rfl⟩, rfl, noA⟩
    rw [hlen, List.take_length] at noA
    refine ⟨(by show 0 ≤ sizeLine; decide), fun o ho => ?_⟩
    refine q sw [] o _ hp hs (.inr ⟨rfl, fun t ht ex => ?_⟩) (s1.trans (same_new ho _)) upd_same
    rcases List.mem_append.mp ht with h | h
    · obtain ⟨x, y, hx, hy, n, rfl⟩ := mem_pairsM.mp h
      exact nop x hx y hy n ((two x y).mp ex)
    · obtain ⟨a, b, c, d, ⟨h1, h2, h3, h4⟩, k1, k2, k3, k4, k5, k6, rfl⟩ := mem_foursM.mp h
      have e := (four a b c d).mp ex
      have c1 : c * a = a * c := Int.mul_comm _ _
      have c2 : d * b = b * d := Int.mul_comm _ _
      by_cases o1 : a < c <;> by_cases o2 : b < d
      · exact noA a b c d h1 ⟨⟨h1, h2, h3, h4⟩, by omega, o1, by omega, o2, by omega, by omega, e⟩
      · exact noA a d c b h1 ⟨⟨h1, h4, h3, h2⟩, by omega, o1, by omega, by omega, by omega, by omega, by rw [c2]; exact e⟩
      · exact noA c b a d h3 ⟨⟨h3, h2, h1, h4⟩, by omega, by omega, by omega, o2, by omega, by omega, by rw [c1]; exact e⟩
      · exact noA c d a b h3 ⟨⟨h3, h4, h1, h2⟩, by omega, by omega, by omega, by omega, by omega, by omega, by rw [c1, c2]; exact e⟩

theorem tl_push1 {H0 H : Hp} {D : Addr} {acc : List (List Int)} {t : List Int} (s : Same H0 H) (nD : H0 D = none) (tl : TL H D acc) (hb : acc.length ≤ 90000) : ∃ rs : List Addr, H D = some (.lst (rs.map V.ref)) ∧ (rs.map V.ref).length < sizeLine ∧
    ∀ r : Addr, H r = none → (upd H r (.tup (t.map V.int))) D = some (.lst (rs.map V.ref)) ∧ Same H0 (upd (upd H r (.tup (t.map V.int))) D (.lst (rs.map V.ref ++ [V.ref r]))) ∧ TL (upd (upd H r (.tup (t.map V.int))) D (.lst (rs.map V.ref ++ [V.ref r]))) D (acc ++ [t]) := by
  obtain ⟨rs, h1, h2⟩ := tl
  exact ⟨rs, h1, by rw [List.length_map, Paired.length h2]; exact big (by omega), fun r hr => ⟨by rw [upd_ne (ne_of_none h1 hr)]; exact h1, same_push s nD hr, TL.push h1 h2 hr⟩⟩
def spPitches (K : PySem.W.Frag) : Sp := fun vs H Q _ => ∃ (a : Addr) (ws : List Int), vs = [.ref a] ∧ SqL K H a (ws.map V.int) ∧ ws.length ≤ 12 ∧ (∀ v ∈ ws, 10 ≤ v ∧ v ≤ 127) ∧ ∀ (D : Addr) (H' : Hp), Same H H' → H D = none → TL H' D (pairsM ws ++ quadM ws) → (pairsM ws ++ quadM ws).length ≤ 30000 → Q (.ref D) H'
theorem d_l_pitches (T : Txt K mg) : DefOk P w K mg base "_law_pitches" ["_law_wheels"] 1 (spPitches K) := by
  obtain ⟨f, fd, F, hm, hb⟩ := T.h_l_pitches
  refine ⟨f, fd, F.ok sc_l_pitches (fun vs H Q E h => ?_) (fun cdv A outer s H vs Q E hr h => ?_), hm, F.kp, hb⟩
  · obtain ⟨a, ws, rfl, _⟩ := h
    rfl
  obtain ⟨a0, ws, rfl, hS, l12, rg, q⟩ := h
  refine ⟨_, (@pss_cons _ _ _ _ _ (@ps_set _ _ 1 _ _ _ _ sc_l_pitches.nd rfl (Or.inl rfl) (@pe_lst _ _ _ _ pa_nil) (by rfl) (by first | exact .inl rfl | exact .inr rfl))
 (@pss_cons _ _ _ _ _ (ps_for PassesOwn.never rfl (pi_list (pv 0)) (pg_name (i := 2) sc_l_pitches.nd rfl (Or.inl rfl))
 (@pss_one _ _ _ (ps_for PassesOwn.never rfl (pi_list (pv 0)) (pg_name (i := 3) sc_l_pitches.nd rfl (Or.inl rfl))
 (@pss_one _ _ _ (ps_if (pt_cmp (pc_neI (pv 2) (pv 3)))
 (@pss_one _ _ _ (ps_expr (pe_bm PySem.F.plainAttrs_list PySem.F.slot_list_append PySem.F.type_list_append mt_append (pv 1) (pa_cons (@pe_tup _ _ _ _ _ (pa_cons (pv 2) (pa_cons (pv 3) pa_nil))) pa_nil))))
 pss_nil)))))
 (@pss_cons _ _ _ _ _ (ps_for PassesOwn.never rfl (pi_list (pv 0)) (pg_name (i := 2) sc_l_pitches.nd rfl (Or.inl rfl))
 (@pss_one _ _ _ (ps_for PassesOwn.never rfl (pi_list (pv 0)) (pg_name (i := 4) sc_l_pitches.nd rfl (Or.inl rfl))
 (@pss_one _ _ _ (ps_if (pt_cmp (pc_lt (pv 2) (pv 4)))
 (@pss_one _ _ _ (ps_for PassesOwn.never rfl (pi_list (pv 0)) (pg_name (i := 3) sc_l_pitches.nd rfl (Or.inl rfl))
 (@pss_one _ _ _ (ps_for PassesOwn.never rfl (pi_list (pv 0)) (pg_name (i := 5) sc_l_pitches.nd rfl (Or.inl rfl))
 (@pss_one _ _ _ (ps_if (pw_and (pt_cmp (pc_lt (pv 3) (pv 5))) (pw_and (pt_cmp (pc_neI (pv 3) (pv 2))) (pw_and (pt_cmp (pc_neI (pv 3) (pv 4))) (pw_and (pt_cmp (pc_neI (pv 5) (pv 2))) (pw_and1 (pt_cmp (pc_neI (pv 5) (pv 4)))))))).pt
 (@pss_one _ _ _ (ps_expr (pe_bm PySem.F.plainAttrs_list PySem.F.slot_list_append PySem.F.type_list_append mt_append (pv 1) (pa_cons (@pe_tup _ _ _ _ _ (pa_cons (pe_op op_mulX (pv 2) (pv 4)) (pa_cons (pe_op op_mulX (pv 3) (pv 5)) pa_nil))) pa_nil))))
 pss_nil))))))
 pss_nil)))))
 (@pss_one _ _ _ (@ps_ret _ _ _ _ (pv 1)))))), ?_⟩
  refine ⟨(by show 0 ≤ sizeLine; decide), fun D hD => ?_⟩
  have s0 := same_new hD (.lst [])
  have row1 : ∀ a ∈ ws, (rowM ws a).length ≤ 12 := fun a _ => by unfold rowM; rw [List.length_map]; exact Nat.le_trans (List.length_filter_le _ _) l12
  have lp : (pairsM ws).length ≤ 144 := by have := flat_len ws (rowM ws) 12 row1; unfold pairsM; omega
  have lq : (quadM ws).length ≤ 20736 := by have := flat_len ws (q1 ws) 1728 fun a _ => q1_len l12 a; unfold quadM; omega
  refine ⟨_, rfl, a0, rfl, ⟨_, s0.seq hS⟩, loop_app (K := K) (L := a0) (ws := ws) D H (fun σ => ∃ x y z t, σ = [some (.ref a0), some (.ref D), x, y, z, t]) [] (rowM ws) 12 hS row1 ⟨_, _, _, _, rfl⟩ s0 ⟨[], upd_same, .nil⟩ ?_ ?_⟩
  · rintro a σ H1 acc kk ma ⟨x, y, z, t, rfl⟩ s1 tl1 hl1 hk
    rw [rowM_flat] at hk
    refine ⟨_, rfl, a0, rfl, ⟨_, s1.seq hS⟩, loop_app (K := K) (L := a0) (ws := ws) D H (fun σ => ∃ y z t, σ = [some (.ref a0), some (.ref D), some (.int a), y, z, t]) acc (fun b => if a ≠ b then [[a, b]] else []) 1 hS (fun b _ => by split <;> simp) ⟨_, _, _, rfl⟩ s1 tl1 ?_ ?_⟩
    · rintro b σ H2 acc2 kk2 mb ⟨y, z, t, rfl⟩ s2 tl2 hl2 hk2
      refine ⟨_, rfl, _, rfl, _, _, rfl, rfl, _, rfl, ?_⟩
      refine iteND (fun ne => ?_) (fun eq => ?_)
      · rw [if_pos ne] at hk2
        obtain ⟨rs, h1, h2, h3⟩ := tl_push1 (t := [a, b]) s2 hD tl2 (by simp at hl1; omega)
        refine ⟨_, rfl, .inl ⟨rfl, _, SqL.of h1⟩, _, rfl, _, rfl, (by show 2 ≤ sizeLine; decide), fun r hr' => ?_⟩
        obtain ⟨e1, e2, e3⟩ := h3 r hr'
        exact ⟨D, _, _, rfl, rfl, e1, h2, hk2 _ _ ⟨_, _, _, rfl⟩ e2 e3⟩
      · rw [if_neg fun z => z eq, List.append_nil] at hk2
        exact hk2 _ _ ⟨_, _, _, rfl⟩ s2 tl2
    · rintro σ H2 ⟨y, z, t, rfl⟩ s2 tl2
      exact hk _ _ ⟨_, _, _, _, rfl⟩ s2 tl2
  rintro σ H1 ⟨x, y, z, t, rfl⟩ s1 tl1
  rw [List.nil_append] at tl1
  refine ⟨_, rfl, a0, rfl, ⟨_, s1.seq hS⟩, loop_app (K := K) (L := a0) (ws := ws) D H (fun σ => ∃ x y z t, σ = [some (.ref a0), some (.ref D), x, y, z, t]) (pairsM ws) (q1 ws) 1728 hS (fun a _ => q1_len l12 a) ⟨_, _, _, _, rfl⟩ s1 tl1 ?_ ?_⟩
  · rintro a σ H2 acc kk ma ⟨x, y, z, t, rfl⟩ s2 tl2 hl2 hk
    refine ⟨_, rfl, a0, rfl, ⟨_, s2.seq hS⟩, loop_app (K := K) (L := a0) (ws := ws) D H (fun σ => ∃ y z t, σ = [some (.ref a0), some (.ref D), some (.int a), y, z, t]) acc (q2 ws a) 144 hS (fun c _ => q2_len l12 a c) ⟨_, _, _, rfl⟩ s2 tl2 ?_ ?_⟩
    · rintro c σ H3 acc3 kk3 mc ⟨y, z, t, rfl⟩ s3 tl3 hl3 hk3
      unfold q2 at hk3
      refine ⟨_, rfl, _, rfl, _, _, rfl, rfl, _, rfl, ?_⟩
      refine iteD (fun lt => ?_) (fun lt => ?_)
      · rw [if_pos lt] at hk3
        refine ⟨_, rfl, a0, rfl, ⟨_, s3.seq hS⟩, loop_app (K := K) (L := a0) (ws := ws) D H (fun σ => ∃ y t, σ = [some (.ref a0), some (.ref D), some (.int a), y, some (.int c), t]) acc3 (q3 ws a c) 12 hS (fun b _ => q3_len l12 a c b) ⟨_, _, rfl⟩ s3 tl3 ?_ ?_⟩
        · rintro b σ H4 acc4 kk4 mb ⟨y, t, rfl⟩ s4 tl4 hl4 hk4
          refine ⟨_, rfl, a0, rfl, ⟨_, s4.seq hS⟩, loop_app (K := K) (L := a0) (ws := ws) D H (fun σ => ∃ t, σ = [some (.ref a0), some (.ref D), some (.int a), some (.int b), some (.int c), t]) acc4 (q4 a c b) 1 hS (fun d _ => q4_len a c b d) ⟨_, rfl⟩ s4 tl4 ?_ ?_⟩
          · rintro d σ H5 acc5 kk5 md ⟨t, rfl⟩ s5 tl5 hl5 hk5
            have no : ¬ (b < d ∧ b ≠ a ∧ b ≠ c ∧ d ≠ a ∧ d ≠ c) → kk5 [some (.ref a0), some (.ref D), some (.int a), some (.int b), some (.int c), some (.int d)] H5 := fun z => by
              unfold q4 at hk5
              rw [if_neg z, List.append_nil] at hk5
              exact hk5 _ _ ⟨_, rfl⟩ s5 tl5
            refine ⟨_, rfl, _, rfl, _, _, rfl, rfl, _, rfl, ?_⟩
            refine iteD (fun c1 => ?_) (fun c1 => iteF (no fun z => c1 z.1))
            refine ⟨_, rfl, _, rfl, _, _, rfl, rfl, _, rfl, ?_⟩
            refine iteND (fun c2 => ?_) (fun c2 => iteF (no fun z => z.2.1 c2))
            refine ⟨_, rfl, _, rfl, _, _, rfl, rfl, _, rfl, ?_⟩
            refine iteND (fun c3 => ?_) (fun c3 => iteF (no fun z => z.2.2.1 c3))
            refine ⟨_, rfl, _, rfl, _, _, rfl, rfl, _, rfl, ?_⟩
            refine iteND (fun c4 => ?_) (fun c4 => iteF (no fun z => z.2.2.2.1 c4))
            refine ⟨_, rfl, _, rfl, _, _, rfl, rfl, _, rfl, ?_⟩
            refine iteND (fun c5 => ?_) (fun c5 => no fun z => z.2.2.2.2 c5)
            unfold q4 at hk5
            rw [if_pos ⟨c1, c2, c3, c4, c5⟩] at hk5
            obtain ⟨rs, h1, h2, h3⟩ := tl_push1 (t := [a * c, b * d]) s5 hD tl5 (by omega)
            have r1 := rg a ma
            have r2 := rg b mb
            refine ⟨_, rfl, .inl ⟨rfl, _, SqL.of h1⟩, _, rfl, _, rfl, _, _, rfl, rfl, .inl (.inl ⟨by omega, by omega⟩), _, rfl, _, rfl, _, _, rfl, rfl, .inl (.inl ⟨by omega, by omega⟩), (by show 2 ≤ sizeLine; decide), fun r hr' => ?_⟩
            obtain ⟨e1, e2, e3⟩ := h3 r hr'
            exact ⟨D, _, _, rfl, rfl, e1, h2, hk5 _ _ ⟨_, rfl⟩ e2 e3⟩
          · rintro σ H5 ⟨t, rfl⟩ s5 tl5
            exact hk4 _ _ ⟨_, _, rfl⟩ s5 tl5
        · rintro σ H4 ⟨y, t, rfl⟩ s4 tl4
          exact hk3 _ _ ⟨_, _, _, rfl⟩ s4 tl4
      · rw [if_neg lt, List.append_nil] at hk3
        exact hk3 _ _ ⟨_, _, _, rfl⟩ s3 tl3
    · rintro σ H3 ⟨y, z, t, rfl⟩ s3 tl3
      exact hk _ _ ⟨_, _, _, _, rfl⟩ s3 tl3
  · rintro σ H2 ⟨x, y, z, t, rfl⟩ s2 tl2
    exact ⟨_, rfl, q D H2 s2 hD tl2 (by rw [List.length_append]; omega)⟩

def spNearest (K : PySem.W.Frag) : Sp := fun vs H Q _ => ∃ (a r : Addr) (ws : List Int) (p q x y : Int), vs = [.ref a, .ref r, .int x, .int y] ∧ SqL K H a (ws.map V.int) ∧ ws.length ≤ 12 ∧ (∀ v ∈ ws, 10 ≤ v ∧ v ≤ 127) ∧ Pit H r p q ∧ Bd 200 x ∧ Bd 200 y ∧
  (∀ u v, [u, v] ∈ pairsM ws ++ quadM ws → ¬ Bt u v x y p q) ∧ ∀ H', Q (.bl true) H'
theorem d_l_nearest (T : Txt K mg) : DefOk P w K mg base "_law_nearest" ["_law_wheels", "_law_pitch", "_law_top", "_law_bottom"] 2 (spNearest K) := by
  obtain ⟨f, fd, F, hm, hb⟩ := T.h_l_nearest
  refine ⟨f, fd, F.ok sc_l_nearest (fun vs H Q E h => ?_) (fun cdv A outer s H vs Q E hr h => ?_), hm, F.kp, hb⟩
  · obtain ⟨a, r, ws, p, q, x, y, rfl, _⟩ := h
    rfl
  obtain ⟨a, r, ws, p, qq, x, y, rfl, hS, l12, rg, Pi, bx, by', no, q⟩ := h
  refine ⟨_, (@pss_cons _ _ _ _ _ (@ps_set _ _ 4 _ _ _ _ sc_l_nearest.nd rfl (Or.inl rfl) (pe_callB call_abs (by rfl) T.z_abs PyProof.Rows.boot_abs (pa_cons (pe_op op_sub (pe_op op_mulX (pv 2) (@pe_ix _ _ _ _ _ _ _ ix_tup (pv 1) pe_int (fun _ _ => rfl))) (pe_op op_mulX (@pe_ix _ _ _ _ _ _ _ ix_tup (pv 1) pe_int (fun _ _ => rfl)) (pv 3))) pa_nil)) (by rfl) (by first | exact .inl rfl | exact .inr rfl))
 (@pss_cons _ _ _ _ _ (ps_for PassesOwn.never rfl (pi_list (pe_callD (d_l_pitches T) hr (pa_cons (pv 0) pa_nil))) (pg_tup rfl (pgs_cons (pg_name (i := 5) sc_l_nearest.nd rfl (Or.inl rfl)) (pgs_cons (pg_name (i := 6) sc_l_nearest.nd rfl (Or.inl rfl)) pgs_nil)))
 (@pss_cons _ _ _ _ _ (@ps_set _ _ 7 _ _ _ _ sc_l_nearest.nd rfl (Or.inl rfl) (pe_callB call_abs (by rfl) T.z_abs PyProof.Rows.boot_abs (pa_cons (pe_op op_sub (pe_op op_mulX (pv 5) (@pe_ix _ _ _ _ _ _ _ ix_tup (pv 1) pe_int (fun _ _ => rfl))) (pe_op op_mulX (@pe_ix _ _ _ _ _ _ _ ix_tup (pv 1) pe_int (fun _ _ => rfl)) (pv 6))) pa_nil)) (by rfl) (by first | exact .inl rfl | exact .inr rfl))
 (@pss_cons _ _ _ _ _ (ps_if (pt_cmp (pc_lt (pe_op op_mulX (pv 7) (pv 3)) (pe_op op_mulX (pv 4) (pv 6))))
 (@pss_one _ _ _ (@ps_ret _ _ _ _ pe_bl))
 pss_nil)
 (@pss_one _ _ _ (ps_if (pw_and (pt_cmp (pc_eqI (pe_op op_mulX (pv 7) (pv 3)) (pe_op op_mulX (pv 4) (pv 6)))) (pw_and1 (pt_cmp (pc_lt (pe_op op_mulX (pv 5) (pv 3)) (pe_op op_mulX (pv 2) (pv 6)))))).pt
 (@pss_one _ _ _ (@ps_ret _ _ _ _ pe_bl))
 pss_nil)))))
 (@pss_one _ _ _ (@ps_ret _ _ _ _ pe_bl)))), ?_⟩
  refine ⟨_, rfl, _, rfl, _, _, _, _, rfl, rfl, SqT.of (Pi.at_), rfl, _, _, rfl, rfl, .inr ⟨bx.mono (by decide), Pi.bq.mono (by decide)⟩, _, rfl, _, _, _, _, rfl, rfl, SqT.of (Pi.at_), rfl, _, rfl, _, _, rfl, rfl, .inr ⟨Pi.bp.mono (by decide), by'.mono (by decide)⟩, _, _, rfl, rfl, _, rfl, ?_⟩
  refine ⟨_, rfl, a, ws, rfl, hS, l12, rg, fun D H1 s1 nD tl hn => ?_⟩
  obtain ⟨rs, hD, hP⟩ := tl
  have P1 := (Pi.mono s1).at_
  have bg := gap501 bx by' Pi.bp Pi.bq
  refine ⟨D, rfl, ⟨_, SqL.of hD⟩, for_list (K := K) (a := D) (xs := rs.map V.ref) (fun i σ H' => H' = H1 ∧ ∃ u v z, σ = [some (.ref a), some (.ref r), some (.int x), some (.int y), some (.int (gapF x y p qq)), u, v, z]) ⟨rfl, _, _, _, rfl⟩ (fun i σ H' _ ⟨e, _⟩ => by rw [e]; exact SqL.of hD) ?_ ?_⟩
  · rintro i x0 σ H' hx ⟨rfl, u, v, z, rfl⟩
    obtain ⟨tr, t, rfl, ht, htr⟩ := tl_at hP hx
    have mt := List.mem_of_getElem? ht
    obtain ⟨u', v', rfl, ⟨h1, h2⟩, h3, h4⟩ := row_in rg t mt
    have bu : Bd 200 u' := Bd.of60 (by omega) (by omega)
    have bv : Bd 200 v' := Bd.of60 (by omega) (by omega)
    have bo := gap501 bu bv Pi.bp Pi.bq
    refine ⟨tr, _, rfl, SqT.of htr, rfl, _, _, rfl, _, _, rfl, rfl, ?_⟩
    refine ⟨_, rfl, _, rfl, _, _, _, _, rfl, rfl, SqT.of (P1), rfl, _, _, rfl, rfl, .inr ⟨bu.mono (by decide), Pi.bq.mono (by decide)⟩, _, rfl, _, _, _, _, rfl, rfl, SqT.of (P1), rfl, _, rfl, _, _, rfl, rfl, .inr ⟨Pi.bp.mono (by decide), bv.mono (by decide)⟩, _, _, rfl, rfl, _, rfl, ?_⟩
    refine ⟨_, rfl, _, rfl, _, _, rfl, rfl, .inr ⟨bo.mono (by decide), by'.mono (by decide)⟩, _, rfl, _, rfl, _, _, rfl, rfl, .inr ⟨bg.mono (by decide), bv.mono (by decide)⟩, _, _, rfl, rfl, _, rfl, ?_⟩
    refine iteD (fun lt => (no u' v' mt (.inl lt)).elim) (fun ge => ?_)
    refine ⟨_, rfl, _, rfl, _, _, rfl, rfl, .inr ⟨bo.mono (by decide), by'.mono (by decide)⟩, _, rfl, _, rfl, _, _, rfl, rfl, .inr ⟨bg.mono (by decide), bv.mono (by decide)⟩, _, _, rfl, rfl, _, rfl, ?_⟩
    refine iteD (fun e => ?_) (fun e => iteF ⟨rfl, _, _, _, rfl⟩)
    refine ⟨_, rfl, _, rfl, _, _, rfl, rfl, .inr ⟨bu.mono (by decide), by'.mono (by decide)⟩, _, rfl, _, rfl, _, _, rfl, rfl, .inr ⟨bx.mono (by decide), bv.mono (by decide)⟩, _, _, rfl, rfl, _, rfl, ?_⟩
    exact iteD (fun lt => (no u' v' mt (.inr ⟨e, lt⟩)).elim) (fun _ => ⟨rfl, _, _, _, rfl⟩)
  · rintro σ H' ⟨rfl, u, v, z, rfl⟩
    exact q _

def spBetween (K : PySem.W.Frag) : Sp := fun vs H Q _ => ∃ (a : Addr) (ws : List Int) (c : Int), vs = [.ref a, .int c] ∧ SqL K H a (ws.map V.int) ∧ Shop ws ∧ 2 ≤ ws.length ∧ ws.length ≤ 12 ∧
  ∀ (o : Addr) (H' : Hp) (p q : Int), Same H H' → H' o = some (.tup [.int p, .int q]) → 0 < q → Bd 200 p → Bd 200 q → Q (.ref o) H'
theorem d_l_between (T : Txt K mg) : DefOk P w K mg base "_law_between" ["_law_wheels", "_law_cell"] 2 (spBetween K) := by
  obtain ⟨f, fd, F, hm, hb⟩ := T.h_l_between
  refine ⟨f, fd, F.ok sc_l_between (fun vs H Q E h => ?_) (fun cdv A outer s H vs Q E hr h => ?_), hm, F.kp, hb⟩
  · obtain ⟨a, ws, c, rfl, _⟩ := h
    rfl
  obtain ⟨a, ws, c, rfl, hS, S, l2, l12, q⟩ := h
  refine ⟨_, (@pss_cons _ _ _ _ _ (@ps_set _ _ 2 _ _ _ _ sc_l_between.nd rfl (Or.inl rfl) (@pe_lst _ _ _ _ pa_nil) (by rfl) (by first | exact .inl rfl | exact .inr rfl))
 (@pss_cons _ _ _ _ _ (ps_for PassesOwn.never rfl (pi_list (pe_callD (d_l_pitches T) hr (pa_cons (pe_slice sl_list (pv 0) po_none (po_some pe_int)) pa_nil))) (pg_tup rfl (pgs_cons (pg_name (i := 3) sc_l_between.nd rfl (Or.inl rfl)) (pgs_cons (pg_name (i := 4) sc_l_between.nd rfl (Or.inl rfl)) pgs_nil)))
 (@pss_one _ _ _ (ps_expr (pe_bm PySem.F.plainAttrs_list PySem.F.slot_list_append PySem.F.type_list_append mt_append (pv 2) (pa_cons (@pe_tup _ _ _ _ _ (pa_cons (pe_op op_fdivP (pe_op op_mulX (pv 3) (pe_op op_pow pe_int pe_int)) (pv 4)) (pa_cons (pv 3) (pa_cons (pv 4) pa_nil)))) pa_nil)))))
 (@pss_cons _ _ _ _ _ (@ps_set _ _ 2 _ _ _ _ sc_l_between.nd rfl (Or.inl rfl) (pe_callB call_sorted_tups (by rfl) T.z_sorted PyProof.Rows.boot_sorted (pa_cons (pv 2) pa_nil)) (by rfl) (by first | exact .inl rfl | exact .inr rfl))
 (@pss_cons _ _ _ _ _ (@ps_set _ _ 5 _ _ _ _ sc_l_between.nd rfl (Or.inl rfl) (pe_op op_mod (pv 1) (pe_op op_sub (pe_callB call_len_seq (by rfl) T.z_len PySem.boot_len (pa_cons (pv 2) pa_nil)) pe_int)) (by rfl) (by first | exact .inl rfl | exact .inr rfl))
 (@pss_cons _ _ _ _ _ (@ps_set _ _ 6 _ _ _ _ sc_l_between.nd rfl (Or.inl rfl) (@pe_ix _ _ _ _ _ _ _ ix_list (pv 2) (pv 5) (fun _ _ => rfl)) (by rfl) (by first | exact .inl rfl | exact .inr rfl))
 (@pss_cons _ _ _ _ _ (@ps_set _ _ 7 _ _ _ _ sc_l_between.nd rfl (Or.inl rfl) (@pe_ix _ _ _ _ _ _ _ ix_list (pv 2) (pe_op op_add (pv 5) pe_int) (fun _ _ => rfl)) (by rfl) (by first | exact .inl rfl | exact .inr rfl))
 (@pss_one _ _ _ (@ps_ret _ _ _ _ (@pe_tup _ _ _ _ _ (pa_cons (pe_op op_add (pe_op op_mulX (@pe_ix _ _ _ _ _ _ _ ix_tup (pv 6) pe_int (fun _ _ => rfl)) (@pe_ix _ _ _ _ _ _ _ ix_tup (pv 7) pe_int (fun _ _ => rfl))) (pe_op op_mulX (@pe_ix _ _ _ _ _ _ _ ix_tup (pv 7) pe_int (fun _ _ => rfl)) (@pe_ix _ _ _ _ _ _ _ ix_tup (pv 6) pe_int (fun _ _ => rfl)))) (pa_cons (pe_op op_mulX (pe_op op_mulX pe_int (@pe_ix _ _ _ _ _ _ _ ix_tup (pv 6) pe_int (fun _ _ => rfl))) (@pe_ix _ _ _ _ _ _ _ ix_tup (pv 7) pe_int (fun _ _ => rfl))) pa_nil))))))))))), ?_⟩
  refine ⟨(by show 0 ≤ sizeLine; decide), fun R hR => ?_⟩
  have s0 := same_new hR (.lst [])
  refine ⟨_, rfl, _, rfl, a, _, rfl, s0.seq hS, fun L hL => ?_⟩
  have t1 := same_new hL (.lst (cutV (ws.map V.int) none (some 6)))
  have hLs : (upd (upd H R (.lst [])) L (.lst (cutV (ws.map V.int) none (some 6)))) L = some (.lst ((ws.take 6).map V.int)) := by rw [cut6]; exact upd_same
  have hR1 := t1 _ _ (upd_same (H := H) (a := R) (o := .lst []))
  have s01 := s0.trans t1
  generalize upd (upd H R (.lst [])) L (.lst (cutV (ws.map V.int) none (some 6))) = H0 at *
  have nd6 : (ws.take 6).Nodup := S.nd.sublist (List.take_sublist _ _)
  have len6 : (ws.take 6).length = min 6 ws.length := List.length_take
  have rg : ∀ v ∈ ws.take 6, 10 ≤ v ∧ v ≤ 127 := fun v hv => ⟨S.lo v (List.mem_of_mem_take hv), S.hi v (List.mem_of_mem_take hv)⟩
  refine ⟨L, ws.take 6, rfl, SqL.of hLs, by omega, rg, fun D H1 s1 nD tl hn => ?_⟩
  obtain ⟨rs, hD, hP⟩ := tl
  have hR2 := s1 _ _ hR1
  have nDR : D ≠ R := (ne_of_none hR1 nD).symm
  have lr : (rs.map V.ref).length = (pairsM (ws.take 6) ++ quadM (ws.take 6)).length := by rw [List.length_map, Paired.length hP]
  have two : 2 ≤ (rs.map V.ref).length := by
    rw [lr, List.length_append, pairs_len nd6, len6]
    have : min 6 ws.length = 2 ∨ min 6 ws.length = 3 ∨ min 6 ws.length = 4 ∨ min 6 ws.length = 5 ∨ min 6 ws.length = 6 := by omega
    rcases this with e | e | e | e | e <;> rw [e] <;> omega
  refine ⟨D, rfl, ⟨_, SqL.of hD⟩, for_list (K := K) (a := D) (xs := rs.map V.ref) (fun i σ H' => ∃ (acc : List (List Int)) (u v : Option V), σ = [some (.ref a), some (.int c), some (.ref R), u, v, none, none, none] ∧ Same (hide H1 R) H' ∧ TL H' R acc ∧ acc.length = i ∧ ∀ t ∈ acc, Row3 t)
    ⟨[], none, none, rfl, hide_refl, ⟨[], hR2, .nil⟩, rfl, by simp⟩ (fun i σ H' _ ⟨_, _, _, _, s, _⟩ => SqL.of (s _ _ (by rw [hide_ne nDR]; exact hD))) ?_ ?_⟩
  · rintro i x0 σ H' hx ⟨acc, u, v, rfl, s2, tl2, hal, hrow⟩
    have hi : i < (rs.map V.ref).length := (List.getElem?_eq_some_iff.mp hx).1
    obtain ⟨tr, t, rfl, ht, htr⟩ := tl_at hP hx
    obtain ⟨u', v', rfl, ⟨h1, h2⟩, h3, h4⟩ := row_in rg t (List.mem_of_getElem? ht)
    have ntr : tr ≠ R := fun e => by rw [e, hR2] at htr; cases htr
    have htr' := s2 _ _ (show hide H1 R tr = some _ by rw [hide_ne ntr]; exact htr)
    refine ⟨tr, _, rfl, SqT.of htr', rfl, _, _, rfl, _, _, rfl, rfl, ?_⟩
    obtain ⟨rs', g1, g2, g3⟩ := tl_push1 (t := [u' * 10 ^ 12 / v', u', v']) s2 hide_at tl2 (by omega)
    refine ⟨_, rfl, .inl ⟨rfl, _, SqL.of g1⟩, _, rfl, _, _, rfl, rfl, ⟨by decide, by decide, by decide⟩, _, _, rfl, rfl, .inl (.inl ⟨by omega, by omega⟩), _, rfl, _, _, rfl, rfl, ⟨by omega, (show Bd 200 v' from Bd.of60 (by omega) (by omega)).mono (by decide)⟩, _, rfl, _, rfl, (by show 3 ≤ sizeLine; decide), fun r hr' => ?_⟩
    obtain ⟨e1, e2, e3⟩ := g3 r hr'
    refine ⟨R, _, _, rfl, rfl, e1, g2, acc ++ [[u' * 10 ^ 12 / v', u', v']], _, _, rfl, e2, e3, by simp [hal], fun t ht => ?_⟩
    rcases List.mem_append.mp ht with z | z
    · exact hrow t z
    · exact ⟨_, _, _, List.mem_singleton.mp z, ⟨h1, h2⟩, h3, h4⟩
  rintro σ H2 ⟨acc, u, v, rfl, s2, ⟨rs2, hR3, hP2⟩, hal, hrow⟩
  have lr2 : (rs2.map V.ref).length = acc.length := by rw [List.length_map, Paired.length hP2]
  refine ⟨_, rfl, R, _, rfl, SqL.of hR3, by omega, by omega, fun v hv => ?_, fun G us hl hm hn2 => ?_⟩
  · obtain ⟨r, t, rfl, mt, hr2⟩ := tl_mem hP2 hv
    obtain ⟨x, y, z, rfl, _⟩ := hrow t mt
    exact ⟨r, [x, y, z], rfl, SqT.of hr2, by simp⟩
  have s3 := same_new hn2 (.lst us)
  have hG : (upd H2 G (.lst us)) G = some (.lst us) := upd_same
  have hit : ∀ (k : Nat), k < us.length → ∃ r x y z, us[k]? = some (.ref r) ∧ (upd H2 G (.lst us)) r = some (.tup [.int x, .int y, .int z]) ∧ (1 ≤ y ∧ y ≤ 16129) ∧ 1 ≤ z ∧ z ≤ 16129 := fun k hk => by
    have e : us[k]? = some us[k] := List.getElem?_eq_getElem hk
    obtain ⟨r, t, e1, mt, hr2⟩ := tl_mem hP2 (hm _ (List.getElem_mem hk))
    obtain ⟨x, y, z, rfl, b1, b2⟩ := hrow t mt
    exact ⟨r, x, y, z, by rw [e, e1], s3 _ _ hr2, b1, b2⟩
  have sAll : Same H (upd H2 G (.lst us)) := (hide_same (s01.trans s1) hR s2).trans s3
  generalize upd H2 G (.lst us) = H3 at *
  have hn3 : 0 < ((us.length : Nat) : Int) - 1 := by omega
  refine ⟨_, rfl, _, rfl, G, _, rfl, .inl (SqL.of hG), _, _, rfl, rfl, _, _, rfl, rfl, hn3, ?_⟩
  have e0 := Int.emod_nonneg c (show ((us.length : Nat) : Int) - 1 ≠ 0 by omega)
  have e1 := Int.emod_lt_of_pos c hn3
  obtain ⟨k, hk⟩ : ∃ k : Nat, c % (((us.length : Nat) : Int) - 1) = (k : Int) := ⟨(c % (((us.length : Nat) : Int) - 1)).toNat, by omega⟩
  obtain ⟨r1, x1, y1, z1, f1, g1, b1, b2⟩ := hit k (by omega)
  obtain ⟨r2, x2, y2, z2, f2, g2, b3, b4⟩ := hit (k + 1) (by omega)
  refine ⟨_, rfl, _, rfl, G, _, _, _, rfl, rfl, SqL.of hG, (by rw [hk]; exact atI_nat f1), ?_⟩
  refine ⟨_, rfl, _, rfl, _, _, rfl, rfl, G, _, _, _, rfl, rfl, SqL.of hG, (by rw [hk]; exact atI_nat f2), ?_⟩
  have m1 : 1 ≤ y1 * z2 ∧ y1 * z2 ≤ 16129 * 16129 := ⟨by have := Int.mul_pos (show 0 < y1 by omega) (show 0 < z2 by omega); omega, Int.mul_le_mul (by omega) (by omega) (by omega) (by omega)⟩
  have m2 : 1 ≤ y2 * z1 ∧ y2 * z1 ≤ 16129 * 16129 := ⟨by have := Int.mul_pos (show 0 < y2 by omega) (show 0 < z1 by omega); omega, Int.mul_le_mul (by omega) (by omega) (by omega) (by omega)⟩
  have m3 : 1 ≤ 2 * z1 * z2 ∧ 2 * z1 * z2 ≤ 32258 * 16129 := ⟨by have := Int.mul_pos (show 0 < 2 * z1 by omega) (show 0 < z2 by omega); omega, Int.mul_le_mul (by omega) (by omega) (by omega) (by omega)⟩
  refine ⟨_, rfl, _, _, _, _, rfl, rfl, SqT.of (g1), rfl, _, rfl, _, _, _, _, rfl, rfl, SqT.of (g2), rfl, _, _, rfl, rfl, .inl (.inl ⟨by omega, by omega⟩), _, rfl, _, _, _, _, rfl, rfl, SqT.of (g2), rfl, _, rfl, _, _, _, _, rfl, rfl, SqT.of (g1), rfl, _, _, rfl, rfl, .inl (.inl ⟨by omega, by omega⟩), _, _, rfl, rfl, _, rfl, _, _, _, _, rfl, rfl, SqT.of (g1), rfl, _, _, rfl, rfl, .inl (.inl ⟨by omega, by omega⟩), _, rfl, _, _, _, _, rfl, rfl, SqT.of (g2), rfl, _, _, rfl, rfl, .inl (.inl ⟨by omega, by omega⟩), (by show 2 ≤ sizeLine; decide), fun o ho => ?_⟩
  exact q o _ _ _ (sAll.trans (same_new ho _)) upd_same (by omega) (Bd.of60 (by omega) (by omega)) (Bd.of60 (by omega) (by omega))

def spGcd : Sp := fun vs H Q _ => ∃ (a b : Int), vs = [.int a, .int b] ∧ 0 ≤ b ∧ Q (.int ((Int.gcd a b : Nat) : Int)) H
theorem d_l_gcd (T : Txt K mg) : DefOk P w K mg base "_law_gcd" ["_law_a", "_law_b"] 1 spGcd := by
  obtain ⟨f, fd, F, hm, hb⟩ := T.h_l_gcd
  refine ⟨f, fd, F.ok sc_l_gcd (fun vs H Q E h => ?_) (fun cdv A outer s H vs Q E hr h => ?_), hm, F.kp, hb⟩
  · obtain ⟨a, b, rfl, _⟩ := h
    rfl
  obtain ⟨a, b, rfl, hb0, q⟩ := h
  refine ⟨_, (@pss_cons _ _ _ _ _ (ps_while PassesOwn.never (pt_cmp (pc_neI (pv 1) pe_int))
 (@pss_one _ _ _ (ps_par (i := 0) (j := 1) rfl sc_l_gcd.nd rfl rfl (by decide) rfl rfl (pa_cons (pv 1) (pa_cons (pe_op op_mod (pv 0) (pv 1)) pa_nil)) rfl)))
 (@pss_one _ _ _ (@ps_ret _ _ _ _ (pe_callB call_abs (by rfl) T.z_abs PyProof.Rows.boot_abs (pa_cons (pv 0) pa_nil))))), ?_⟩
  refine ⟨fun m σ H' => ∃ x y : Int, σ = [some (.int x), some (.int y)] ∧ H' = H ∧ 0 ≤ y ∧ Int.gcd x y = Int.gcd a b ∧ m = y.toNat, ⟨_, a, b, rfl, rfl, hb0, rfl, rfl⟩, ?_⟩
  rintro m σ H' ⟨x, y, rfl, rfl, hy, hg, rfl⟩
  refine ⟨_, rfl, _, _, rfl, rfl, _, rfl, ?_⟩
  by_cases c : y = 0
  · subst c
    refine iteNS rfl ?_
    refine ⟨_, rfl, _, rfl, ?_⟩
    rw [gcd_end, hg]
    exact q
  · refine ite2 (fun _ => ?_) (fun z => absurd (by simp [c]) z)
    refine ⟨fun σ' H'' => ∃ x' y' : Int, σ' = [some (.int x'), some (.int y')] ∧ H'' = H' ∧ 0 ≤ y' ∧ Int.gcd x' y' = Int.gcd a b ∧ y'.toNat < y.toNat, ?_, ?_⟩
    · rintro σ' H'' ⟨x', y', rfl, rfl, h1, h2, h3⟩
      exact ⟨_, h3, x', y', rfl, rfl, h1, h2, rfl⟩
    · have p : 0 < y := by omega
      have e0 := Int.emod_nonneg x (Int.ne_of_gt p)
      have e1 := Int.emod_lt_of_pos x p
      refine ⟨_, rfl, _, rfl, _, rfl, _, _, rfl, rfl, p, _, _, rfl, y, x % y, rfl, rfl, e0, ?_, by omega⟩
      rw [gcd_step, hg]

def spWhole : Sp := fun vs H Q _ => ∃ (i : Int), vs = [.int i] ∧ Q (.bl true) H
theorem d_l_whole (T : Txt K mg) : DefOk P w K mg base "_law_whole" ["_law_found"] 1 spWhole := by
  obtain ⟨f, fd, F, hm, hb⟩ := T.h_l_whole
  refine ⟨f, fd, F.ok sc_l_whole (fun vs H Q E h => ?_) (fun cdv A outer s H vs Q E hr h => ?_), hm, F.kp, hb⟩
  · obtain ⟨i, rfl, _⟩ := h
    rfl
  obtain ⟨i, rfl, q⟩ := h
  refine ⟨_, (@pss_one _ _ _ (@ps_ret _ _ _ _ (pe_and (pe_callB call_isinst (by rfl) T.z_isinstance PyProof.Rows.boot_isinstance (pa_cons (pv 0) (pa_cons (pe_bltn (by rfl) T.z_int PyProof.Rows.boot_int (v := .ty "int") rfl) pa_nil))) (pe_one (pe_not (pe_callB call_isinst (by rfl) T.z_isinstance PyProof.Rows.boot_isinstance (pa_cons (pv 0) (pa_cons (pe_bltn (by rfl) T.z_bool PyProof.Rows.boot_bool (v := .ty "bool") rfl) pa_nil)))))))), ?_⟩
  refine ⟨_, rfl, _, "int", _, _, rfl, .int i, kit_same _, _, rfl, ?_⟩
  refine iteT ?_
  exact ⟨_, rfl, _, "bool", _, false, rfl, .int i, (by with_unfolding_all rfl), _, rfl, q⟩

def spFrac : Sp := fun vs H Q _ => ∃ (p : Addr) (x y : Int), vs = [.ref p] ∧ H p = some (.tup [.int x, .int y]) ∧ 1 ≤ y ∧ Int.gcd x y = 1 ∧ Q (.bl true) H
theorem d_l_frac (T : Txt K mg) : DefOk P w K mg base "_law_frac" ["_law_found"] 2 spFrac := by
  obtain ⟨f, fd, F, hm, hb⟩ := T.h_l_frac
  refine ⟨f, fd, F.ok sc_l_frac (fun vs H Q E h => ?_) (fun cdv A outer s H vs Q E hr h => ?_), hm, F.kp, hb⟩
  · obtain ⟨p, x, y, rfl, _⟩ := h
    rfl
  obtain ⟨p, x, y, rfl, hp, h1, hg, q⟩ := h
  refine ⟨_, (@pss_cons _ _ _ _ _ (ps_if (pw_or (pt_not (pt_val (pe_callB call_isinst (by rfl) T.z_isinstance PyProof.Rows.boot_isinstance (pa_cons (pv 0) (pa_cons (pe_bltn (by rfl) T.z_tuple PyProof.Rows.boot_tuple (v := .ty "tuple") rfl) pa_nil))))) (pw_or1 (pt_cmp (pc_neI (pe_callB call_len_seq (by rfl) T.z_len PySem.boot_len (pa_cons (pv 0) pa_nil)) pe_int)))).pt
 (@pss_one _ _ _ (@ps_ret _ _ _ _ pe_bl))
 pss_nil)
 (@pss_cons _ _ _ _ _ (ps_if (pw_or (pt_not (pt_val (pe_callD (d_l_whole T) hr (pa_cons (@pe_ix _ _ _ _ _ _ _ ix_tup (pv 0) pe_int (fun _ _ => rfl)) pa_nil)))) (pw_or (pt_not (pt_val (pe_callD (d_l_whole T) hr (pa_cons (@pe_ix _ _ _ _ _ _ _ ix_tup (pv 0) pe_int (fun _ _ => rfl)) pa_nil)))) (pw_or1 (pt_cmp (pc_lt (@pe_ix _ _ _ _ _ _ _ ix_tup (pv 0) pe_int (fun _ _ => rfl)) pe_int))))).pt
 (@pss_one _ _ _ (@ps_ret _ _ _ _ pe_bl))
 pss_nil)
 (@pss_one _ _ _ (@ps_ret _ _ _ _ (pe_cmp (pc_eqI (pe_callD (d_l_gcd T) hr (pa_cons (@pe_ix _ _ _ _ _ _ _ ix_tup (pv 0) pe_int (fun _ _ => rfl)) (pa_cons (@pe_ix _ _ _ _ _ _ _ ix_tup (pv 0) pe_int (fun _ _ => rfl)) pa_nil))) pe_int)))))), ?_⟩
  refine ⟨_, rfl, _, "tuple", _, _, rfl, .tup hp, kit_same _, _, rfl, ?_⟩
  refine iteF ?_
  refine ⟨_, rfl, p, _, rfl, .inr (SqT.of hp), _, _, rfl, rfl, _, rfl, ?_⟩
  refine iteF ?_
  refine ⟨_, rfl, p, _, _, _, rfl, rfl, SqT.of hp, rfl, x, rfl, _, rfl, ?_⟩
  refine iteF ?_
  refine ⟨_, rfl, p, _, _, _, rfl, rfl, SqT.of hp, rfl, y, rfl, _, rfl, ?_⟩
  refine iteF ?_
  refine ⟨_, rfl, p, _, _, _, rfl, rfl, SqT.of hp, rfl, _, _, rfl, rfl, _, rfl, ?_⟩
  refine iteDF (show ¬ y < 1 by omega) ?_
  refine ⟨_, rfl, p, _, _, _, rfl, rfl, SqT.of hp, rfl, _, rfl, p, _, _, _, rfl, rfl, SqT.of hp, rfl, x, y, rfl, by omega, ?_⟩
  refine ⟨_, _, rfl, rfl, ?_⟩
  dsimp only
  rw [hg]
  exact q

def spIs (K : PySem.W.Frag) : Sp := fun vs H Q _ => ∃ (a b : Addr) (ws : List Int), vs = [.ref a, .ref b] ∧ H a = some (.tup (ws.map V.int)) ∧ H b = some (.tup (ws.map V.int)) ∧ ws.length ≤ 1000 ∧ Q (.bl true) H
theorem d_l_is (T : Txt K mg) : DefOk P w K mg base "_law_is" ["_law_found", "_law_due"] 2 (spIs K) := by
  obtain ⟨f, fd, F, hm, hb⟩ := T.h_l_is
  refine ⟨f, fd, F.ok sc_l_is (fun vs H Q E h => ?_) (fun cdv A outer s H vs Q E hr h => ?_), hm, F.kp, hb⟩
  · obtain ⟨a, b, ws, rfl, _⟩ := h
    rfl
  obtain ⟨a, b, ws, rfl, hA, hB, hl, q⟩ := h
  refine ⟨_, (@pss_cons _ _ _ _ _ (ps_if (pw_or (pt_not (pt_val (pe_callB call_isinst (by rfl) T.z_isinstance PyProof.Rows.boot_isinstance (pa_cons (pv 0) (pa_cons (pe_bltn (by rfl) T.z_tuple PyProof.Rows.boot_tuple (v := .ty "tuple") rfl) pa_nil))))) (pw_or1 (pt_cmp (pc_neI (pe_callB call_len_seq (by rfl) T.z_len PySem.boot_len (pa_cons (pv 0) pa_nil)) (pe_callB call_len_seq (by rfl) T.z_len PySem.boot_len (pa_cons (pv 1) pa_nil)))))).pt
 (@pss_one _ _ _ (@ps_ret _ _ _ _ pe_bl))
 pss_nil)
 (@pss_cons _ _ _ _ _ (ps_for PassesOwn.never rfl (pi_range1 (by rfl) T.z_range (pa_cons (pe_callB call_len_seq (by rfl) T.z_len PySem.boot_len (pa_cons (pv 1) pa_nil)) pa_nil)) (pg_name (i := 2) sc_l_is.nd rfl (Or.inl rfl))
 (@pss_one _ _ _ (ps_if (pw_or (pt_not (pt_val (pe_callD (d_l_whole T) hr (pa_cons (@pe_ix _ _ _ _ _ _ _ ix_tup (pv 0) (pv 2) (fun _ _ => rfl)) pa_nil)))) (pw_or1 (pt_cmp (pc_neI (@pe_ix _ _ _ _ _ _ _ ix_tup (pv 0) (pv 2) (fun _ _ => rfl)) (@pe_ix _ _ _ _ _ _ _ ix_tup (pv 1) (pv 2) (fun _ _ => rfl)))))).pt
 (@pss_one _ _ _ (@ps_ret _ _ _ _ pe_bl))
 pss_nil)))
 (@pss_one _ _ _ (@ps_ret _ _ _ _ pe_bl)))), ?_⟩
  refine ⟨_, rfl, _, "tuple", _, _, rfl, .tup hA, kit_same _, _, rfl, ?_⟩
  refine iteF ?_
  refine ⟨_, rfl, a, _, rfl, .inr (SqT.of hA), _, rfl, b, _, rfl, .inr (SqT.of hB), _, _, rfl, rfl, _, rfl, ?_⟩
  refine iteNS rfl ?_
  have hlen : (ws.map V.int).length = ws.length := List.length_map _
  refine ⟨_, rfl, b, _, rfl, .inr (SqT.of hB), _, rfl, by omega, by rw [hlen]; omega, ?_⟩
  rw [Int.toNat_natCast, hlen]
  refine for_range (lo := 0) (n := ws.length) (fun i σ H' => ∃ (k : Option V), σ = [some (.ref a), some (.ref b), k] ∧ H' = H) ⟨none, rfl, rfl⟩ ?_ ?_
  · rintro i σ H' hi ⟨k, rfl, rfl⟩
    have ea : atI (ws.map V.int) (0 + (i : Int)) = some (.int ws[i]) := by
      rw [Int.zero_add]
      exact atI_nat (by rw [List.getElem?_map, List.getElem?_eq_getElem hi] <;> rfl)
    refine ⟨_, rfl, _, rfl, a, _, _, _, rfl, rfl, SqT.of hA, ea, _, rfl, _, rfl, ?_⟩
    refine iteF ?_
    refine ⟨_, rfl, _, rfl, a, _, _, _, rfl, rfl, SqT.of hA, ea, _, rfl, _, rfl, b, _, _, _, rfl, rfl, SqT.of hB, ea, _, _, rfl, rfl, _, rfl, ?_⟩
    exact iteNS rfl ⟨_, rfl, rfl⟩
  · rintro σ H' ⟨k, rfl, rfl⟩
    exact q

def spKept (K : PySem.W.Frag) : Sp := fun vs H Q _ => ∃ (a b : Addr) (ws : List Int), vs = [.ref a, .ref b] ∧ SqA K H a (ws.map V.int) ∧ SqL K H b (ws.map V.int) ∧ ws.length ≤ 1000 ∧ Q (.bl true) H
theorem d_l_kept (T : Txt K mg) : DefOk P w K mg base "_law_kept" ["_law_handed", "_law_copy_of"] 2 (spKept K) := by
  obtain ⟨f, fd, F, hm, hb⟩ := T.h_l_kept
  refine ⟨f, fd, F.ok sc_l_kept (fun vs H Q E h => ?_) (fun cdv A outer s H vs Q E hr h => ?_), hm, F.kp, hb⟩
  · obtain ⟨a, b, ws, rfl, _⟩ := h
    rfl
  obtain ⟨a, b, ws, rfl, hA, hB, hl, q⟩ := h
  refine ⟨_, (@pss_cons _ _ _ _ _ (ps_if (pt_cmp (pc_neI (pe_callB call_len_seq (by rfl) T.z_len PySem.boot_len (pa_cons (pv 0) pa_nil)) (pe_callB call_len_seq (by rfl) T.z_len PySem.boot_len (pa_cons (pv 1) pa_nil))))
 (@pss_one _ _ _ (@ps_ret _ _ _ _ pe_bl))
 pss_nil)
 (@pss_cons _ _ _ _ _ (ps_for PassesOwn.never rfl (pi_range1 (by rfl) T.z_range (pa_cons (pe_callB call_len_seq (by rfl) T.z_len PySem.boot_len (pa_cons (pv 1) pa_nil)) pa_nil)) (pg_name (i := 2) sc_l_kept.nd rfl (Or.inl rfl))
 (@pss_one _ _ _ (ps_if (pw_or (pt_not (pt_val (pe_callD (d_l_whole T) hr (pa_cons (@pe_ix _ _ _ _ _ _ _ ix_any (pv 0) (pv 2) (fun _ _ => rfl)) pa_nil)))) (pw_or1 (pt_cmp (pc_neI (@pe_ix _ _ _ _ _ _ _ ix_any (pv 0) (pv 2) (fun _ _ => rfl)) (@pe_ix _ _ _ _ _ _ _ ix_list (pv 1) (pv 2) (fun _ _ => rfl)))))).pt
 (@pss_one _ _ _ (@ps_ret _ _ _ _ pe_bl))
 pss_nil)))
 (@pss_one _ _ _ (@ps_ret _ _ _ _ pe_bl)))), ?_⟩
  refine ⟨_, rfl, a, _, rfl, hA, _, rfl, b, _, rfl, .inl hB, _, _, rfl, rfl, _, rfl, ?_⟩
  refine iteNS rfl ?_
  have hlen : (ws.map V.int).length = ws.length := List.length_map _
  refine ⟨_, rfl, b, _, rfl, .inl hB, _, rfl, by omega, by rw [hlen]; omega, ?_⟩
  rw [Int.toNat_natCast, hlen]
  refine for_range (lo := 0) (n := ws.length) (fun i σ H' => ∃ (k : Option V), σ = [some (.ref a), some (.ref b), k] ∧ H' = H) ⟨none, rfl, rfl⟩ ?_ ?_
  · rintro i σ H' hi ⟨k, rfl, rfl⟩
    have ea : atI (ws.map V.int) (0 + (i : Int)) = some (.int ws[i]) := by
      rw [Int.zero_add]
      exact atI_nat (by rw [List.getElem?_map, List.getElem?_eq_getElem hi] <;> rfl)
    refine ⟨_, rfl, _, rfl, a, _, _, _, rfl, rfl, hA, ea, _, rfl, _, rfl, ?_⟩
    refine iteF ?_
    refine ⟨_, rfl, _, rfl, a, _, _, _, rfl, rfl, hA, ea, _, rfl, _, rfl, b, _, _, _, rfl, rfl, hB, ea, _, _, rfl, rfl, _, rfl, ?_⟩
    exact iteNS rfl ⟨_, rfl, rfl⟩
  · rintro σ H' ⟨k, rfl, rfl⟩
    exact q

theorem Pit.of60 {H : Hp} {r : Addr} {p q : Int} (h : H r = some (.tup [.int p, .int q])) (p1 : -(10 ^ 60) ≤ p) (p2 : p ≤ 10 ^ 60) (q1 : 1 ≤ q) (q2 : q ≤ 10 ^ 60) : Pit H r p q :=
  ⟨h, (Bd.of60 p1 p2).mono (by decide), (Bd.of60 (by omega) q2).mono (by decide), q1⟩
theorem pit_of {H : Hp} {v : V} {x y : Addr} {n : Int} {A B : Prop} (h : (A ∧ v = .ref x) ∨ (B ∧ v = .ref y)) (hx : H x = some (.tup [.int 1, .int n])) (hy : H y = some (.tup [.int n, .int 1])) (n1 : 1 ≤ n) (n2 : n ≤ 10 ^ 60) : ∃ pr p q, v = .ref pr ∧ Pit H pr p q := by
  rcases h with ⟨_, e⟩ | ⟨_, e⟩
  · exact ⟨x, _, _, e, Pit.of60 hx (by omega) (by omega) (by omega) (by omega)⟩
  · exact ⟨y, _, _, e, Pit.of60 hy (by omega) (by omega) (by omega) (by omega)⟩
theorem any_of {H : Hp} {x y : Addr} {v : V} {xs : List V} {A B : Prop} (h : (A ∧ v = .ref x) ∨ (B ∧ v = .ref y)) (hx : SqA K H x xs) (hy : SqA K H y xs) : ∃ hd, v = .ref hd ∧ SqA K H hd xs := by
  rcases h with ⟨_, e⟩ | ⟨_, e⟩
  · exact ⟨x, e, hx⟩
  · exact ⟨y, e, hy⟩
theorem pit_any {H : Hp} {r : Addr} {p q : Int} (h : Pit H r p q) : ∃ pr p q, pr = r ∧ Pit H pr p q := ⟨_, _, _, rfl, h⟩
def spLaw (K : PySem.W.Frag) : Sp := fun vs H Q _ => ∃ (a : Addr) (ns : List Int), vs = [.ref a] ∧ SqL K H a (ns.map V.int) ∧ ns.length ≤ 63 ∧ ∀ H', Q (.bl true) H'
abbrev depth : Nat := 6
theorem ok_law {f : Addr} {fd : FuncData} (F : Fun K "law" "law" s_law f fd) (T : Txt K mg) : FnOk P w K mg base CX0 depth f fd ["_law_script"] (spLaw K) := by
  refine F.ok sc_law (fun vs H Q E h => ?_) (fun cdv A outer s H vs Q E hr h => ?_)
  · obtain ⟨a, ns, rfl, _⟩ := h
    rfl
  obtain ⟨a, ns, rfl, hS, h63, q⟩ := h
  refine ⟨_, (@pss_cons _ _ _ _ _ (@ps_set _ _ 1 _ _ _ _ sc_law.nd rfl (Or.inl rfl) (pe_callD (d_l_any_shop T) hr (pa_cons (pv 0) (pa_cons pe_int pa_nil))) (by rfl) (by first | exact .inl rfl | exact .inr rfl))
 (@pss_cons _ _ _ _ _ (@ps_set _ _ 2 _ _ _ _ sc_law.nd rfl (Or.inl rfl) (pe_callD (d_l_draw T) hr (pa_cons (pv 0) (pa_cons pe_int pa_nil))) (by rfl) (by first | exact .inl rfl | exact .inr rfl))
 (@pss_cons _ _ _ _ _ (@ps_set _ _ 3 _ _ _ _ sc_law.nd rfl (Or.inl rfl) (pe_callD (d_l_draw T) hr (pa_cons (pv 0) (pa_cons pe_int pa_nil))) (by rfl) (by first | exact .inl rfl | exact .inr rfl))
 (@pss_cons _ _ _ _ _ (@ps_set _ _ 4 _ _ _ _ sc_law.nd rfl (Or.inl rfl) (@pe_ix _ _ _ _ _ _ _ ix_list (@pe_lst _ _ _ _ (pa_cons pe_int (pa_cons (pe_op op_pow pe_int pe_int) pa_nil))) (pe_op op_mod (pe_op op_fdivP (pv 2) pe_int) pe_int) (fun _ _ => rfl)) (by rfl) (by first | exact .inl rfl | exact .inr rfl))
 (@pss_cons _ _ _ _ _ (@ps_set _ _ 5 _ _ _ _ sc_law.nd rfl (Or.inl rfl) (@pe_tup _ _ _ _ _ (pa_cons (pe_op op_add pe_int (pe_op op_mod (pv 3) (pv 4))) (pa_cons (pe_op op_add pe_int (pe_op op_mod (pe_callD (d_l_draw T) hr (pa_cons (pv 0) (pa_cons pe_int pa_nil))) (pv 4))) pa_nil))) (by rfl) (by first | exact .inl rfl | exact .inr rfl))
 (@pss_cons _ _ _ _ _ (ps_if (pt_cmp (pc_eqI (pe_op op_mod (pv 2) pe_int) pe_int))
 (@pss_one _ _ _ (@ps_set _ _ 5 _ _ _ _ sc_law.nd rfl (Or.inl rfl) (pe_callD (d_l_between T) hr (pa_cons (pv 1) (pa_cons (pv 3) pa_nil))) (by rfl) (by first | exact .inl rfl | exact .inr rfl)))
 pss_nil)
 (@pss_cons _ _ _ _ _ (ps_if (pt_cmp (pc_eqI (pe_op op_mod (pv 2) pe_int) pe_int))
 (@pss_one _ _ _ (@ps_set _ _ 5 _ _ _ _ sc_law.nd rfl (Or.inl rfl) (@pe_ix _ _ _ _ _ _ _ ix_list (@pe_lst _ _ _ _ (pa_cons (@pe_tup _ _ _ _ _ (pa_cons pe_int (pa_cons (pe_op op_add pe_int (pe_op op_mod (pv 3) (pe_op op_pow pe_int pe_int))) pa_nil))) (pa_cons (@pe_tup _ _ _ _ _ (pa_cons (pe_op op_add pe_int (pe_op op_mod (pv 3) (pe_op op_pow pe_int pe_int))) (pa_cons pe_int pa_nil))) pa_nil))) (pe_op op_mod (pe_op op_fdivP (pv 2) pe_int) pe_int) (fun _ _ => rfl)) (by rfl) (by first | exact .inl rfl | exact .inr rfl)))
 pss_nil)
 (@pss_cons _ _ _ _ _ (@ps_set _ _ 6 _ _ _ _ sc_law.nd rfl (Or.inl rfl) (@pe_ix _ _ _ _ _ _ _ ix_list (@pe_lst _ _ _ _ (pa_cons (pe_callTy call_list_of (by rfl) T.z_list PyProof.Rows.boot_list (pa_cons (pv 1) pa_nil)) (pa_cons (pe_callTy call_tuple_of (by rfl) T.z_tuple PyProof.Rows.boot_tuple (pa_cons (pv 1) pa_nil)) pa_nil))) (pe_op op_mod (pe_op op_fdivP (pv 2) pe_int) pe_int) (fun _ _ => rfl)) (by rfl) (by first | exact .inl rfl | exact .inr rfl))
 (@pss_cons _ _ _ _ _ (@ps_set _ _ 7 _ _ _ _ sc_law.nd rfl (Or.inl rfl) (pe_callD (d_f_choose_train T) hr (pa_cons (pv 6) (pa_cons (pv 5) pa_nil))) (by rfl) (by first | exact .inl rfl | exact .inr rfl))
 (@pss_cons _ _ _ _ _ (ps_if (pw_or (pt_not (pt_val (pe_callB call_isinst (by rfl) T.z_isinstance PyProof.Rows.boot_isinstance (pa_cons (pv 7) (pa_cons (pe_bltn (by rfl) T.z_tuple PyProof.Rows.boot_tuple (v := .ty "tuple") rfl) pa_nil))))) (pw_or (pt_cmp (pc_neI (pe_callB call_len_seq (by rfl) T.z_len PySem.boot_len (pa_cons (pv 7) pa_nil)) pe_int)) (pw_or1 (pt_not (pt_val (pe_callD (d_l_frac T) hr (pa_cons (@pe_ix _ _ _ _ _ _ _ ix_tup (pv 7) pe_int (fun _ _ => rfl)) pa_nil))))))).pt
 (@pss_one _ _ _ (@ps_ret _ _ _ _ pe_bl))
 pss_nil)
 (@pss_cons _ _ _ _ _ (@ps_set _ _ 8 _ _ _ _ sc_law.nd rfl (Or.inl rfl) (pe_callD (d_l_first T) hr (pa_cons (pv 1) (pa_cons (@pe_ix _ _ _ _ _ _ _ ix_tup (@pe_ix _ _ _ _ _ _ _ ix_tup (pv 7) pe_int (fun _ _ => rfl)) pe_int (fun _ _ => rfl)) (pa_cons (@pe_ix _ _ _ _ _ _ _ ix_tup (@pe_ix _ _ _ _ _ _ _ ix_tup (pv 7) pe_int (fun _ _ => rfl)) pe_int (fun _ _ => rfl)) pa_nil)))) (by rfl) (by first | exact .inl rfl | exact .inr rfl))
 (@pss_cons _ _ _ _ _ (ps_if (pw_or (pt_cmpR (op_eqT0 (hu5 hr)) (pv 8) (@pe_tup _ _ _ _ _ pa_nil) (nomark _)) (pw_or (pt_not (pt_val (pe_callD (d_l_is T) hr (pa_cons (@pe_ix _ _ _ _ _ _ _ ix_tup (pv 7) pe_int (fun _ _ => rfl)) (pa_cons (pv 8) pa_nil))))) (pw_or1 (pt_not (pt_val (pe_callD (d_l_kept T) hr (pa_cons (pv 6) (pa_cons (pv 1) pa_nil)))))))).pt
 (@pss_one _ _ _ (@ps_ret _ _ _ _ pe_bl))
 pss_nil)
 (@pss_one _ _ _ (@ps_ret _ _ _ _ (pe_callD (d_l_nearest T) hr (pa_cons (pv 1) (pa_cons (pv 5) (pa_cons (@pe_ix _ _ _ _ _ _ _ ix_tup (@pe_ix _ _ _ _ _ _ _ ix_tup (pv 7) pe_int (fun _ _ => rfl)) pe_int (fun _ _ => rfl)) (pa_cons (@pe_ix _ _ _ _ _ _ _ ix_tup (@pe_ix _ _ _ _ _ _ _ ix_tup (pv 7) pe_int (fun _ _ => rfl)) pe_int (fun _ _ => rfl)) pa_nil))))))))))))))))))), ?_⟩
  refine ⟨_, rfl, a, ns, 1, rfl, hS, by decide, by decide, fun ws W H1 S l2 l12 s1 nW hW => ?_⟩
  refine ⟨_, rfl, a, ns, 3, rfl, s1.seq hS, by decide, by decide, ?_⟩
  refine ⟨_, rfl, a, ns, 4, rfl, s1.seq hS, by decide, by decide, ?_⟩
  generalize drawF ns 3 = cl
  generalize drawF ns 4 = fr
  obtain ⟨g, hg, g1, g2⟩ := at2i (a := 1000) (b := 10 ^ 60) (i := cl / 4 % 2) (fun v => 1 ≤ v ∧ v ≤ 10 ^ 60 ) (by omega) (by omega) ⟨by decide, by decide⟩ ⟨by decide, by decide⟩
  refine ⟨_, _, rfl, rfl, ⟨by decide, by decide, by decide⟩, (by show 2 ≤ sizeLine; decide), fun p1 hp1 => ?_⟩
  have t1 := same_new hp1 (.lst [V.int 1000, V.int (10 ^ 60)])
  refine ⟨_, rfl, _, _, rfl, rfl, ⟨by decide, by unfold Bd; decide⟩, _, _, rfl, rfl, (by show (0 : Int) < 2; decide), p1, _, _, _, rfl, rfl, SqL.of upd_same, hg, ?_⟩
  refine ⟨_, rfl, _, rfl, _, _, rfl, rfl, (by show (0 : Int) < g; omega), _, _, rfl, rfl, _, rfl, a, ns, 5, rfl, (s1.trans t1).seq hS, by decide, by decide, _, rfl, _, _, rfl, rfl, (by show (0 : Int) < g; omega), _, _, rfl, rfl, (by show 2 ≤ sizeLine; decide), fun p2 hp2 => ?_⟩
  generalize drawF ns 5 = dr
  have t2 := same_new hp2 (.tup [V.int (1 + fr % g), V.int (1 + dr % g)])
  have f1 := Int.emod_nonneg fr (show g ≠ 0 by omega)
  have f2 := Int.emod_lt_of_pos fr (show 0 < g by omega)
  have f3 := Int.emod_nonneg dr (show g ≠ 0 by omega)
  have f4 := Int.emod_lt_of_pos dr (show 0 < g by omega)
  have hW2 := (t1.trans t2) _ _ hW
  refine ⟨_, rfl, _, _, rfl, rfl, (by show (0 : Int) < 4; decide), _, _, rfl, rfl, _, rfl, ?_⟩
  refine iteD (fun c1 => ?A) (fun c1 => ?B)
  case' A =>
    refine ⟨_, rfl, _, rfl, W, ws, fr, rfl, SqL.of hW2, S, l2, l12, fun pr H3 p qq s3 hpr q1 bp bq => ?_⟩
    have Pi : Pit H3 pr p qq := ⟨hpr, bp.mono (by decide), bq.mono (by decide), by omega⟩
    have hW3 := s3 _ _ hW2
    refine ⟨_, rfl, _, _, rfl, rfl, (by show (0 : Int) < 4; decide), _, _, rfl, rfl, _, rfl, ?_⟩
    refine iteDF (show ¬ cl % 4 = 2 by omega) ?_
  case' B =>
    refine ⟨_, rfl, _, _, rfl, rfl, (by show (0 : Int) < 4; decide), _, _, rfl, rfl, _, rfl, ?_⟩
    refine iteD (fun c2 => ?B1) (fun c2 => ?B2)
  case' B1 =>
    refine ⟨_, rfl, _, _, rfl, rfl, ⟨by decide, by decide, by decide⟩, _, _, rfl, rfl, (by show (0 : Int) < 10 ^ 60; decide), _, _, rfl, rfl, (by show 2 ≤ sizeLine; decide), fun q1 hq1 => ?_⟩
    have u1 := same_new hq1 (.tup [V.int 1, V.int (1 + fr % 10 ^ 60)])
    refine ⟨_, rfl, _, _, rfl, rfl, ⟨by decide, by decide, by decide⟩, _, _, rfl, rfl, (by show (0 : Int) < 10 ^ 60; decide), _, _, rfl, rfl, (by show 2 ≤ sizeLine; decide), fun q2 hq2 => ?_⟩
    have u2 := same_new hq2 (.tup [V.int (1 + fr % 10 ^ 60), V.int 1])
    refine ⟨(by show 2 ≤ sizeLine; decide), fun q3 hq3 => ?_⟩
    have u3 := same_new hq3 (.lst [V.ref q1, V.ref q2])
    obtain ⟨v, hv, v1⟩ := at2 (x := V.ref q1) (y := V.ref q2) (i := cl / 4 % 2) (by omega) (by omega)
    have f5 := Int.emod_nonneg fr (show (10 ^ 60 : Int) ≠ 0 by decide)
    have f6 := Int.emod_lt_of_pos fr (show (0 : Int) < 10 ^ 60 by decide)
    have hx1 := (u2.trans u3) _ _ (upd_same (o := .tup [V.int 1, V.int (1 + fr % 10 ^ 60)]))
    have hx2 := u3 _ _ (upd_same (o := .tup [V.int (1 + fr % 10 ^ 60), V.int 1]))
    have hW3 := (u1.trans (u2.trans u3)) _ _ hW2
    obtain ⟨pr, p, qq, rfl, Pi⟩ := pit_of v1 hx1 hx2 (by omega) (by omega)
    refine ⟨_, rfl, _, _, rfl, rfl, ⟨by decide, by unfold Bd; decide⟩, _, _, rfl, rfl, (by show (0 : Int) < 2; decide), q3, _, _, _, rfl, rfl, SqL.of upd_same, hv, ?_⟩
  case' B2 =>
    have Pi0 := Pit.of60 (r := p2) (p := 1 + fr % g) (q := 1 + dr % g) (upd_same (H := upd H1 p1 (.lst [V.int 1000, V.int (10 ^ 60)])) (a := p2) (o := .tup [V.int (1 + fr % g), V.int (1 + dr % g)])) (by omega) (by omega) (by omega) (by omega)
    have hW3 := hW2
    obtain ⟨pr, p, qq, hpr, Pi⟩ := pit_any Pi0
    subst hpr
  all_goals
    refine ⟨_, rfl, W, _, rfl, .inl (SqL.of hW3), fun p5 hp5 => ?_⟩
    have t4 := same_new hp5 (.lst (ws.map V.int))
    refine ⟨_, rfl, W, _, rfl, .inl ⟨t4.seq (SqL.of hW3), fun p3 hp3 => ?_⟩⟩
    have t5 := same_new hp3 (.tup (ws.map V.int))
    refine ⟨(by show 2 ≤ sizeLine; decide), fun p4 hp4 => ?_⟩
    have t6 := same_new hp4 (.lst [V.ref p5, V.ref p3])
    obtain ⟨v, hv, v1⟩ := at2 (x := V.ref p5) (y := V.ref p3) (i := cl / 8 % 2) (by omega) (by omega)
    obtain ⟨hd, rfl, hA⟩ := any_of (K := K) v1 (.inl (t6.seq (t5.seq (SqL.of upd_same)))) (.inr (t6.tup (SqT.of upd_same)))
    have u4 := t4.trans (t5.trans t6)
    have hW4 := u4 _ _ hW3
    have P4 := Pi.mono u4
    refine ⟨_, rfl, _, _, rfl, rfl, ⟨by decide, by unfold Bd; decide⟩, _, _, rfl, rfl, (by show (0 : Int) < 2; decide), p4, _, _, _, rfl, rfl, SqL.of upd_same, hv, ?_⟩
    refine ⟨_, rfl, _, rfl, hd, pr, ws, p, qq, rfl, hA, S, l2, l12, P4, fun sw c o o1 o2 H5 hpw hs B Rc s5 ho h1 h2 => ?_⟩
    have hW5 := s5 _ _ hW4
    have P5 := P4.mono s5
    have hA5 := s5.any hA
    have tr := allT_train (ts := sw) (fun v hv => S.lo v (hpw.mem_iff.mp hv)) (fun v hv => S.hi v (hpw.mem_iff.mp hv))
    have pos : ∀ x ∈ allT sw, 0 < ratB x := fun x hx => by have := (tr x hx).in; omega
    obtain ⟨c1', c2', c3, c4⟩ := Rc.in
    have Lc := lt_is (t := ratT c) (b := ratB c) (by omega)
    have bx : Bd 200 (ltN (ratT c) (ratB c)) := (show Bd 200 (ratT c) from Bd.of60 (by omega) (by omega)).le Lc.nx
    have by' : Bd 200 (ltD (ratT c) (ratB c)) := (show Bd 200 (ratB c) from Bd.of60 (by omega) (by omega)).le Lc.ny
    have ec : ratT c * ltD (ratT c) (ratB c) = ltN (ratT c) (ratB c) * ratB c := Lc.eq.symm
    have xp := Lc.pos
    have xc := Lc.co
    generalize ltN (ratT c) (ratB c) = xx at *
    generalize ltD (ratT c) (ratB c) = yy at *
    obtain ⟨uu, vv, eu, hu, hvv⟩ := B.ex
    have F1 : First sw xx yy c := first_of hs uu vv eu ec fun t ht z => Bt.ne (fr_eq (d := yy) (by omega) ec z.symm) (by omega) (pos t (by rw [eu]; simp [ht])) (hu t ht)
    refine ⟨_, rfl, _, "tuple", _, _, rfl, .tup ho, kit_same _, _, rfl, ?_⟩
    refine iteF ?_
    refine ⟨_, rfl, o, _, rfl, .inr (SqT.of ho), _, _, rfl, rfl, _, rfl, ?_⟩
    refine iteNS rfl ?_
    refine ⟨_, rfl, _, _, _, _, rfl, rfl, SqT.of (ho), rfl, o1, _, _, rfl, h1, xp, xc, _, rfl, ?_⟩
    refine iteF ?_
    refine ⟨_, rfl, _, rfl, _, _, _, _, rfl, rfl, SqT.of (ho), rfl, _, _, _, _, rfl, rfl, SqT.of h1, rfl, _, rfl, _, _, _, _, rfl, rfl, SqT.of (ho), rfl, _, _, _, _, rfl, rfl, SqT.of h1, rfl, W, ws, xx, yy, rfl, SqL.of hW5, S, l12, bx.mono (by decide), by'.mono (by decide), fun sw2 r od H6 hp6 hs2 fi s6 hod => ?_⟩
    have es : sw2 = sw := sorted_same hp6 hpw (hs2.imp fun {a b} h => by omega) (hs.imp fun {a b} h => by omega)
    subst es
    have er : r = c := by
      rcases fi with fi | ⟨_, no⟩
      · exact fi.uniq F1
      · exact absurd F1.ex (no c F1.mem)
    subst er
    have len := Rc.len
    refine ⟨_, rfl, (by show 0 ≤ sizeLine; decide), fun en hen => ?_⟩
    have s7 := same_new hen (.tup [])
    refine ⟨od, en, _, rfl, rfl, SqT.of (s7 _ _ hod), SqT.of upd_same, (by rw [List.length_map]; omega), _, rfl, ?_⟩
    have s67 := s6.trans s7
    refine iteF ?_
    refine ⟨_, rfl, _, _, _, _, rfl, rfl, SqT.of (s67 _ _ ho), rfl, _, rfl, o2, od, r, rfl, s67 _ _ h2, s7 _ _ hod, by omega, _, rfl, ?_⟩
    refine iteF ?_
    refine ⟨_, rfl, _, rfl, hd, W, ws, rfl, s67.any hA5, SqL.of (s67 _ _ hW5), by omega, _, rfl, ?_⟩
    refine iteF ?_
    have ho7 := s67 _ _ ho
    have h17 := s67 _ _ h1
    exact ⟨_, rfl, _, rfl, _, rfl, _, _, _, _, rfl, rfl, SqT.of (ho7), rfl, _, _, _, _, rfl, rfl, SqT.of h17, rfl, _, rfl, _, _, _, _, rfl, rfl, SqT.of (ho7), rfl, _, _, _, _, rfl, rfl, SqT.of h17, rfl, W, pr, ws, p, qq, xx, yy, rfl, SqL.of (s67 _ _ hW5), l12, fun v hv => ⟨S.lo v hv, S.hi v hv⟩, P5.mono s67, bx, by', fun u v huv => by
      obtain ⟨t, mt, e1, e2⟩ := row_all hpw u v huv
      exact B.near pos mt e1 e2 (by omega) (by omega) ec, q⟩

end
/-! what the top has written -/
theorem all_mk {l : PySem.W.OpenLaw} {w : World} {K : PySem.W.Frag} {h : Heap} {mg : Str → Option Value} {fa f0 f1 f2 f3 f4 f5 f6 f7 f8 f9 f10 f11 f12 f13 f14 f15 f16 f17 f18 f19 f20 f21 f22 f23 f24 : Addr} (X : K.In h) (G : h.Ns mainGlobals mg) (hfa : mg "law" = some (.ref fa))
    {od0 an0 od1 an1 od2 an2 od3 an3 od4 an4 od5 an5 od6 an6 od7 an7 od8 an8 od9 an9 od10 an10 od11 an11 od12 an12 od13 an13 od14 an14 od15 an15 od16 an16 od17 an17 od18 an18 od19 an19 od20 an20 od21 an21 od22 an22 od23 an23 od24 an24 : Option Addr} {sl0 sl1 sl2 sl3 sl4 sl5 sl6 sl7 sl8 sl9 sl10 sl11 sl12 sl13 sl14 sl15 sl16 sl17 sl18 sl19 sl20 sl21 sl22 sl23 sl24 : Array (Option Value)} {oc0 kV0 dc0 pm0 cd0 ct0 oc1 kV1 dc1 pm1 cd1 ct1 oc2 kV2 dc2 pm2 cd2 ct2 oc3 kV3 dc3 pm3 cd3 ct3 oc4 kV4 dc4 pm4 cd4 ct4 oc5 kV5 dc5 pm5 cd5 ct5 oc6 kV6 dc6 pm6 cd6 ct6 oc7 kV7 dc7 pm7 cd7 ct7 oc8 kV8 dc8 pm8 cd8 ct8 oc9 kV9 dc9 pm9 cd9 ct9 oc10 kV10 dc10 pm10 cd10 ct10 oc11 kV11 dc11 pm11 cd11 ct11 oc12 kV12 dc12 pm12 cd12 ct12 oc13 kV13 dc13 pm13 cd13 ct13 oc14 kV14 dc14 pm14 cd14 ct14 oc15 kV15 dc15 pm15 cd15 ct15 oc16 kV16 dc16 pm16 cd16 ct16 oc17 kV17 dc17 pm17 cd17 ct17 oc18 kV18 dc18 pm18 cd18 ct18 oc19 kV19 dc19 pm19 cd19 ct19 oc20 kV20 dc20 pm20 cd20 ct20 oc21 kV21 dc21 pm21 cd21 ct21 oc22 kV22 dc22 pm22 cd22 ct22 oc23 kV23 dc23 pm23 cd23 ct23 oc24 kV24 dc24 pm24 cd24 ct24 : Value}
    (a0 : PySem.W.nsIn K mainGlobals "greatest_divisor" = some (some (.ref f0))) (l0 : K.lookup f0 = some ⟨oc0, od0, .func (PySem.W.fnOf "greatest_divisor" "greatest_divisor" (defArgs s_f_greatest_divisor) (defBody s_f_greatest_divisor) (defScope s_f_greatest_divisor) .none kV0 dc0 pm0 an0 cd0 ct0), sl0⟩) (c0 : PySem.W.codeIn K cd0 "greatest_divisor" = true) (k0 : PySem.W.keepIn K (.ref f0) = true)
    (a1 : PySem.W.nsIn K mainGlobals "least_terms" = some (some (.ref f1))) (l1 : K.lookup f1 = some ⟨oc1, od1, .func (PySem.W.fnOf "least_terms" "least_terms" (defArgs s_f_least_terms) (defBody s_f_least_terms) (defScope s_f_least_terms) .none kV1 dc1 pm1 an1 cd1 ct1), sl1⟩) (c1 : PySem.W.codeIn K cd1 "least_terms" = true) (k1 : PySem.W.keepIn K (.ref f1) = true)
    (a2 : PySem.W.nsIn K mainGlobals "is_less" = some (some (.ref f2))) (l2 : K.lookup f2 = some ⟨oc2, od2, .func (PySem.W.fnOf "is_less" "is_less" (defArgs s_f_is_less) (defBody s_f_is_less) (defScope s_f_is_less) .none kV2 dc2 pm2 an2 cd2 ct2), sl2⟩) (c2 : PySem.W.codeIn K cd2 "is_less" = true) (k2 : PySem.W.keepIn K (.ref f2) = true)
    (a3 : PySem.W.nsIn K mainGlobals "plain_ratio" = some (some (.ref f3))) (l3 : K.lookup f3 = some ⟨oc3, od3, .func (PySem.W.fnOf "plain_ratio" "plain_ratio" (defArgs s_f_plain_ratio) (defBody s_f_plain_ratio) (defScope s_f_plain_ratio) .none kV3 dc3 pm3 an3 cd3 ct3), sl3⟩) (c3 : PySem.W.codeIn K cd3 "plain_ratio" = true) (k3 : PySem.W.keepIn K (.ref f3) = true)
    (a4 : PySem.W.nsIn K mainGlobals "ratio_of" = some (some (.ref f4))) (l4 : K.lookup f4 = some ⟨oc4, od4, .func (PySem.W.fnOf "ratio_of" "ratio_of" (defArgs s_f_ratio_of) (defBody s_f_ratio_of) (defScope s_f_ratio_of) .none kV4 dc4 pm4 an4 cd4 ct4), sl4⟩) (c4 : PySem.W.codeIn K cd4 "ratio_of" = true) (k4 : PySem.W.keepIn K (.ref f4) = true)
    (a5 : PySem.W.nsIn K mainGlobals "pairs_of" = some (some (.ref f5))) (l5 : K.lookup f5 = some ⟨oc5, od5, .func (PySem.W.fnOf "pairs_of" "pairs_of" (defArgs s_f_pairs_of) (defBody s_f_pairs_of) (defScope s_f_pairs_of) .none kV5 dc5 pm5 an5 cd5 ct5), sl5⟩) (c5 : PySem.W.codeIn K cd5 "pairs_of" = true) (k5 : PySem.W.keepIn K (.ref f5) = true)
    (a6 : PySem.W.nsIn K mainGlobals "fours_of" = some (some (.ref f6))) (l6 : K.lookup f6 = some ⟨oc6, od6, .func (PySem.W.fnOf "fours_of" "fours_of" (defArgs s_f_fours_of) (defBody s_f_fours_of) (defScope s_f_fours_of) .none kV6 dc6 pm6 an6 cd6 ct6), sl6⟩) (c6 : PySem.W.codeIn K cd6 "fours_of" = true) (k6 : PySem.W.keepIn K (.ref f6) = true)
    (a7 : PySem.W.nsIn K mainGlobals "all_trains" = some (some (.ref f7))) (l7 : K.lookup f7 = some ⟨oc7, od7, .func (PySem.W.fnOf "all_trains" "all_trains" (defArgs s_f_all_trains) (defBody s_f_all_trains) (defScope s_f_all_trains) .none kV7 dc7 pm7 an7 cd7 ct7), sl7⟩) (c7 : PySem.W.codeIn K cd7 "all_trains" = true) (k7 : PySem.W.keepIn K (.ref f7) = true)
    (a8 : PySem.W.nsIn K mainGlobals "scaled_gap" = some (some (.ref f8))) (l8 : K.lookup f8 = some ⟨oc8, od8, .func (PySem.W.fnOf "scaled_gap" "scaled_gap" (defArgs s_f_scaled_gap) (defBody s_f_scaled_gap) (defScope s_f_scaled_gap) .none kV8 dc8 pm8 an8 cd8 ct8), sl8⟩) (c8 : PySem.W.codeIn K cd8 "scaled_gap" = true) (k8 : PySem.W.keepIn K (.ref f8) = true)
    (a9 : PySem.W.nsIn K mainGlobals "suits_better" = some (some (.ref f9))) (l9 : K.lookup f9 = some ⟨oc9, od9, .func (PySem.W.fnOf "suits_better" "suits_better" (defArgs s_f_suits_better) (defBody s_f_suits_better) (defScope s_f_suits_better) .none kV9 dc9 pm9 an9 cd9 ct9), sl9⟩) (c9 : PySem.W.codeIn K cd9 "suits_better" = true) (k9 : PySem.W.keepIn K (.ref f9) = true)
    (a10 : PySem.W.nsIn K mainGlobals "choose_train" = some (some (.ref f10))) (l10 : K.lookup f10 = some ⟨oc10, od10, .func (PySem.W.fnOf "choose_train" "choose_train" (defArgs s_f_choose_train) (defBody s_f_choose_train) (defScope s_f_choose_train) .none kV10 dc10 pm10 an10 cd10 ct10), sl10⟩) (c10 : PySem.W.codeIn K cd10 "choose_train" = true) (k10 : PySem.W.keepIn K (.ref f10) = true)
    (a11 : PySem.W.nsIn K mainGlobals "_law_at" = some (some (.ref f11))) (l11 : K.lookup f11 = some ⟨oc11, od11, .func (PySem.W.fnOf "_law_at" "_law_at" (defArgs s_l_at) (defBody s_l_at) (defScope s_l_at) .none kV11 dc11 pm11 an11 cd11 ct11), sl11⟩) (c11 : PySem.W.codeIn K cd11 "_law_at" = true) (k11 : PySem.W.keepIn K (.ref f11) = true)
    (a12 : PySem.W.nsIn K mainGlobals "_law_draw" = some (some (.ref f12))) (l12 : K.lookup f12 = some ⟨oc12, od12, .func (PySem.W.fnOf "_law_draw" "_law_draw" (defArgs s_l_draw) (defBody s_l_draw) (defScope s_l_draw) .none kV12 dc12 pm12 an12 cd12 ct12), sl12⟩) (c12 : PySem.W.codeIn K cd12 "_law_draw" = true) (k12 : PySem.W.keepIn K (.ref f12) = true)
    (a13 : PySem.W.nsIn K mainGlobals "_law_whole" = some (some (.ref f13))) (l13 : K.lookup f13 = some ⟨oc13, od13, .func (PySem.W.fnOf "_law_whole" "_law_whole" (defArgs s_l_whole) (defBody s_l_whole) (defScope s_l_whole) .none kV13 dc13 pm13 an13 cd13 ct13), sl13⟩) (c13 : PySem.W.codeIn K cd13 "_law_whole" = true) (k13 : PySem.W.keepIn K (.ref f13) = true)
    (a14 : PySem.W.nsIn K mainGlobals "_law_gcd" = some (some (.ref f14))) (l14 : K.lookup f14 = some ⟨oc14, od14, .func (PySem.W.fnOf "_law_gcd" "_law_gcd" (defArgs s_l_gcd) (defBody s_l_gcd) (defScope s_l_gcd) .none kV14 dc14 pm14 an14 cd14 ct14), sl14⟩) (c14 : PySem.W.codeIn K cd14 "_law_gcd" = true) (k14 : PySem.W.keepIn K (.ref f14) = true)
    (a15 : PySem.W.nsIn K mainGlobals "_law_frac" = some (some (.ref f15))) (l15 : K.lookup f15 = some ⟨oc15, od15, .func (PySem.W.fnOf "_law_frac" "_law_frac" (defArgs s_l_frac) (defBody s_l_frac) (defScope s_l_frac) .none kV15 dc15 pm15 an15 cd15 ct15), sl15⟩) (c15 : PySem.W.codeIn K cd15 "_law_frac" = true) (k15 : PySem.W.keepIn K (.ref f15) = true)
    (a16 : PySem.W.nsIn K mainGlobals "_law_kept" = some (some (.ref f16))) (l16 : K.lookup f16 = some ⟨oc16, od16, .func (PySem.W.fnOf "_law_kept" "_law_kept" (defArgs s_l_kept) (defBody s_l_kept) (defScope s_l_kept) .none kV16 dc16 pm16 an16 cd16 ct16), sl16⟩) (c16 : PySem.W.codeIn K cd16 "_law_kept" = true) (k16 : PySem.W.keepIn K (.ref f16) = true)
    (a17 : PySem.W.nsIn K mainGlobals "_law_shop" = some (some (.ref f17))) (l17 : K.lookup f17 = some ⟨oc17, od17, .func (PySem.W.fnOf "_law_shop" "_law_shop" (defArgs s_l_shop) (defBody s_l_shop) (defScope s_l_shop) .none kV17 dc17 pm17 an17 cd17 ct17), sl17⟩) (c17 : PySem.W.codeIn K cd17 "_law_shop" = true) (k17 : PySem.W.keepIn K (.ref f17) = true)
    (a18 : PySem.W.nsIn K mainGlobals "_law_pitches" = some (some (.ref f18))) (l18 : K.lookup f18 = some ⟨oc18, od18, .func (PySem.W.fnOf "_law_pitches" "_law_pitches" (defArgs s_l_pitches) (defBody s_l_pitches) (defScope s_l_pitches) .none kV18 dc18 pm18 an18 cd18 ct18), sl18⟩) (c18 : PySem.W.codeIn K cd18 "_law_pitches" = true) (k18 : PySem.W.keepIn K (.ref f18) = true)
    (a19 : PySem.W.nsIn K mainGlobals "_law_first" = some (some (.ref f19))) (l19 : K.lookup f19 = some ⟨oc19, od19, .func (PySem.W.fnOf "_law_first" "_law_first" (defArgs s_l_first) (defBody s_l_first) (defScope s_l_first) .none kV19 dc19 pm19 an19 cd19 ct19), sl19⟩) (c19 : PySem.W.codeIn K cd19 "_law_first" = true) (k19 : PySem.W.keepIn K (.ref f19) = true)
    (a20 : PySem.W.nsIn K mainGlobals "_law_between" = some (some (.ref f20))) (l20 : K.lookup f20 = some ⟨oc20, od20, .func (PySem.W.fnOf "_law_between" "_law_between" (defArgs s_l_between) (defBody s_l_between) (defScope s_l_between) .none kV20 dc20 pm20 an20 cd20 ct20), sl20⟩) (c20 : PySem.W.codeIn K cd20 "_law_between" = true) (k20 : PySem.W.keepIn K (.ref f20) = true)
    (a21 : PySem.W.nsIn K mainGlobals "_law_nearest" = some (some (.ref f21))) (l21 : K.lookup f21 = some ⟨oc21, od21, .func (PySem.W.fnOf "_law_nearest" "_law_nearest" (defArgs s_l_nearest) (defBody s_l_nearest) (defScope s_l_nearest) .none kV21 dc21 pm21 an21 cd21 ct21), sl21⟩) (c21 : PySem.W.codeIn K cd21 "_law_nearest" = true) (k21 : PySem.W.keepIn K (.ref f21) = true)
    (a22 : PySem.W.nsIn K mainGlobals "_law_is" = some (some (.ref f22))) (l22 : K.lookup f22 = some ⟨oc22, od22, .func (PySem.W.fnOf "_law_is" "_law_is" (defArgs s_l_is) (defBody s_l_is) (defScope s_l_is) .none kV22 dc22 pm22 an22 cd22 ct22), sl22⟩) (c22 : PySem.W.codeIn K cd22 "_law_is" = true) (k22 : PySem.W.keepIn K (.ref f22) = true)
    (a23 : PySem.W.nsIn K mainGlobals "_law_any_shop" = some (some (.ref f23))) (l23 : K.lookup f23 = some ⟨oc23, od23, .func (PySem.W.fnOf "_law_any_shop" "_law_any_shop" (defArgs s_l_any_shop) (defBody s_l_any_shop) (defScope s_l_any_shop) .none kV23 dc23 pm23 an23 cd23 ct23), sl23⟩) (c23 : PySem.W.codeIn K cd23 "_law_any_shop" = true) (k23 : PySem.W.keepIn K (.ref f23) = true)
    (a24 : PySem.W.nsIn K mainGlobals "law" = some (some (.ref f24))) (l24 : K.lookup f24 = some ⟨oc24, od24, .func (PySem.W.fnOf "law" "law" (defArgs s_law) (defBody s_law) (defScope s_law) .none kV24 dc24 pm24 an24 cd24 ct24), sl24⟩) (c24 : PySem.W.codeIn K cd24 "law" = true) (k24 : PySem.W.keepIn K (.ref f24) = true)
    (z_abs : PySem.W.nsIn K mainGlobals "abs" = some none)
    (z_bool : PySem.W.nsIn K mainGlobals "bool" = some none)
    (z_int : PySem.W.nsIn K mainGlobals "int" = some none)
    (z_isinstance : PySem.W.nsIn K mainGlobals "isinstance" = some none)
    (z_len : PySem.W.nsIn K mainGlobals "len" = some none)
    (z_list : PySem.W.nsIn K mainGlobals "list" = some none)
    (z_range : PySem.W.nsIn K mainGlobals "range" = some none)
    (z_sorted : PySem.W.nsIn K mainGlobals "sorted" = some none)
    (z_tuple : PySem.W.nsIn K mainGlobals "tuple" = some none)
    : ∃ fd : FuncData, (∀ (s : Shared) (v : Value), BindsTo s fd ⟨[v], []⟩ [("_law_script", v)]) ∧ ∀ base : Heap, K.In base → base.Ns mainGlobals mg → FnOk l.prog w K mg base CX0 depth fa fd ["_law_script"] (spLaw K) := by
  have e := hfa.symm.trans (PySem.W.mg_of X G a24)
  cases e
  have T : Txt K mg := ⟨
    ⟨_, _, fun_mk (st := s_f_greatest_divisor) l0 c0 k0, PySem.W.mg_of X G a0, (fun_mk (st := s_f_greatest_divisor) l0 c0 k0).binds (ps := ["a", "b"]) fun _ _ _ _ _ _ us hl => match us, hl with | [_, _], _ => rfl⟩,
    ⟨_, _, fun_mk (st := s_f_least_terms) l1 c1 k1, PySem.W.mg_of X G a1, (fun_mk (st := s_f_least_terms) l1 c1 k1).binds (ps := ["top", "bottom"]) fun _ _ _ _ _ _ us hl => match us, hl with | [_, _], _ => rfl⟩,
    ⟨_, _, fun_mk (st := s_f_is_less) l2 c2 k2, PySem.W.mg_of X G a2, (fun_mk (st := s_f_is_less) l2 c2 k2).binds (ps := ["a", "b"]) fun _ _ _ _ _ _ us hl => match us, hl with | [_, _], _ => rfl⟩,
    ⟨_, _, fun_mk (st := s_f_plain_ratio) l3 c3 k3, PySem.W.mg_of X G a3, (fun_mk (st := s_f_plain_ratio) l3 c3 k3).binds (ps := ["train"]) fun _ _ _ _ _ _ us hl => match us, hl with | [_], _ => rfl⟩,
    ⟨_, _, fun_mk (st := s_f_ratio_of) l4 c4 k4, PySem.W.mg_of X G a4, (fun_mk (st := s_f_ratio_of) l4 c4 k4).binds (ps := ["train"]) fun _ _ _ _ _ _ us hl => match us, hl with | [_], _ => rfl⟩,
    ⟨_, _, fun_mk (st := s_f_pairs_of) l5 c5 k5, PySem.W.mg_of X G a5, (fun_mk (st := s_f_pairs_of) l5 c5 k5).binds (ps := ["teeth"]) fun _ _ _ _ _ _ us hl => match us, hl with | [_], _ => rfl⟩,
    ⟨_, _, fun_mk (st := s_f_fours_of) l6 c6 k6, PySem.W.mg_of X G a6, (fun_mk (st := s_f_fours_of) l6 c6 k6).binds (ps := ["pairs"]) fun _ _ _ _ _ _ us hl => match us, hl with | [_], _ => rfl⟩,
    ⟨_, _, fun_mk (st := s_f_all_trains) l7 c7 k7, PySem.W.mg_of X G a7, (fun_mk (st := s_f_all_trains) l7 c7 k7).binds (ps := ["wheels"]) fun _ _ _ _ _ _ us hl => match us, hl with | [_], _ => rfl⟩,
    ⟨_, _, fun_mk (st := s_f_scaled_gap) l8 c8 k8, PySem.W.mg_of X G a8, (fun_mk (st := s_f_scaled_gap) l8 c8 k8).binds (ps := ["ratio", "pitch"]) fun _ _ _ _ _ _ us hl => match us, hl with | [_, _], _ => rfl⟩,
    ⟨_, _, fun_mk (st := s_f_suits_better) l9 c9 k9, PySem.W.mg_of X G a9, (fun_mk (st := s_f_suits_better) l9 c9 k9).binds (ps := ["ratio", "other", "pitch"]) fun _ _ _ _ _ _ us hl => match us, hl with | [_, _, _], _ => rfl⟩,
    ⟨_, _, fun_mk (st := s_f_choose_train) l10 c10 k10, PySem.W.mg_of X G a10, (fun_mk (st := s_f_choose_train) l10 c10 k10).binds (ps := ["wheels", "pitch"]) fun _ _ _ _ _ _ us hl => match us, hl with | [_, _], _ => rfl⟩,
    ⟨_, _, fun_mk (st := s_l_at) l11 c11 k11, PySem.W.mg_of X G a11, (fun_mk (st := s_l_at) l11 c11 k11).binds (ps := ["_law_script", "_law_k"]) fun _ _ _ _ _ _ us hl => match us, hl with | [_, _], _ => rfl⟩,
    ⟨_, _, fun_mk (st := s_l_draw) l12 c12 k12, PySem.W.mg_of X G a12, (fun_mk (st := s_l_draw) l12 c12 k12).binds (ps := ["_law_script", "_law_k"]) fun _ _ _ _ _ _ us hl => match us, hl with | [_, _], _ => rfl⟩,
    ⟨_, _, fun_mk (st := s_l_whole) l13 c13 k13, PySem.W.mg_of X G a13, (fun_mk (st := s_l_whole) l13 c13 k13).binds (ps := ["_law_found"]) fun _ _ _ _ _ _ us hl => match us, hl with | [_], _ => rfl⟩,
    ⟨_, _, fun_mk (st := s_l_gcd) l14 c14 k14, PySem.W.mg_of X G a14, (fun_mk (st := s_l_gcd) l14 c14 k14).binds (ps := ["_law_a", "_law_b"]) fun _ _ _ _ _ _ us hl => match us, hl with | [_, _], _ => rfl⟩,
    ⟨_, _, fun_mk (st := s_l_frac) l15 c15 k15, PySem.W.mg_of X G a15, (fun_mk (st := s_l_frac) l15 c15 k15).binds (ps := ["_law_found"]) fun _ _ _ _ _ _ us hl => match us, hl with | [_], _ => rfl⟩,
    ⟨_, _, fun_mk (st := s_l_kept) l16 c16 k16, PySem.W.mg_of X G a16, (fun_mk (st := s_l_kept) l16 c16 k16).binds (ps := ["_law_handed", "_law_copy_of"]) fun _ _ _ _ _ _ us hl => match us, hl with | [_, _], _ => rfl⟩,
    ⟨_, _, fun_mk (st := s_l_shop) l17 c17 k17, PySem.W.mg_of X G a17, (fun_mk (st := s_l_shop) l17 c17 k17).binds (ps := ["_law_cell", "_law_many"]) fun _ _ _ _ _ _ us hl => match us, hl with | [_, _], _ => rfl⟩,
    ⟨_, _, fun_mk (st := s_l_pitches) l18 c18 k18, PySem.W.mg_of X G a18, (fun_mk (st := s_l_pitches) l18 c18 k18).binds (ps := ["_law_wheels"]) fun _ _ _ _ _ _ us hl => match us, hl with | [_], _ => rfl⟩,
    ⟨_, _, fun_mk (st := s_l_first) l19 c19 k19, PySem.W.mg_of X G a19, (fun_mk (st := s_l_first) l19 c19 k19).binds (ps := ["_law_wheels", "_law_top", "_law_bottom"]) fun _ _ _ _ _ _ us hl => match us, hl with | [_, _, _], _ => rfl⟩,
    ⟨_, _, fun_mk (st := s_l_between) l20 c20 k20, PySem.W.mg_of X G a20, (fun_mk (st := s_l_between) l20 c20 k20).binds (ps := ["_law_wheels", "_law_cell"]) fun _ _ _ _ _ _ us hl => match us, hl with | [_, _], _ => rfl⟩,
    ⟨_, _, fun_mk (st := s_l_nearest) l21 c21 k21, PySem.W.mg_of X G a21, (fun_mk (st := s_l_nearest) l21 c21 k21).binds (ps := ["_law_wheels", "_law_pitch", "_law_top", "_law_bottom"]) fun _ _ _ _ _ _ us hl => match us, hl with | [_, _, _, _], _ => rfl⟩,
    ⟨_, _, fun_mk (st := s_l_is) l22 c22 k22, PySem.W.mg_of X G a22, (fun_mk (st := s_l_is) l22 c22 k22).binds (ps := ["_law_found", "_law_due"]) fun _ _ _ _ _ _ us hl => match us, hl with | [_, _], _ => rfl⟩,
    ⟨_, _, fun_mk (st := s_l_any_shop) l23 c23 k23, PySem.W.mg_of X G a23, (fun_mk (st := s_l_any_shop) l23 c23 k23).binds (ps := ["_law_script", "_law_k"]) fun _ _ _ _ _ _ us hl => match us, hl with | [_, _], _ => rfl⟩,
    PySem.W.mg_none_of X G z_abs,
    PySem.W.mg_none_of X G z_bool,
    PySem.W.mg_none_of X G z_int,
    PySem.W.mg_none_of X G z_isinstance,
    PySem.W.mg_none_of X G z_len,
    PySem.W.mg_none_of X G z_list,
    PySem.W.mg_none_of X G z_range,
    PySem.W.mg_none_of X G z_sorted,
    PySem.W.mg_none_of X G z_tuple⟩
  exact ⟨_, fun s v => .of_eq rfl, fun base _ _ => ok_law (fun_mk (st := s_law) l24 c24 k24) T⟩
theorem walk {l : PySem.W.OpenLaw} {q : Program} {loose : List Str} {XP : (Str → Option Value) → Heap → Prop} {YP : World → Heap → Prop} {d : DefRec} {K : Params → PySem.W.Frag} (hn : l.most = some 63) (hdf : d.params.defaults = [])
    (hY : ∀ (w : World) (h : Heap), YP w h → (K w.params).In h)
    (F : ∀ (w : World) (mg : Str → Option Value) (fa : Addr) (h : Heap), (K w.params).In h → h.Ns mainGlobals mg → mg d.name = some (.ref fa) →
      ∃ fd : FuncData, (∀ (s : Shared) (u : Value), BindsTo s fd ⟨[u], []⟩ [("_law_script", u)]) ∧ ∀ base : Heap, (K w.params).In base → base.Ns mainGlobals mg → FnOk l.prog w (K w.params) mg base CX0 depth fa fd ["_law_script"] (spLaw (K w.params))) :
    PySem.W.WalkO q loose XP YP l.row.toRowW d [] (fun f vs => PySem.call f vs) :=
  L2.walk_of (n := 63) (k := depth) (x := "_law_script") (CX := fun _ => CX0) (sp := fun w => spLaw (K w.params)) hn (by decide) hdf ⟨rfl, by decide, by decide⟩ hY F (fun _ _ a ns hl _ hS => ⟨a, ns, rfl, hS, hl, fun _ => rfl⟩) fun _ _ _ _ _ z => z
end My
open PySem PySem.W PyProof.Rows
set_option maxRecDepth 100000 in
set_option maxHeartbeats 0 in
theorem PySem.Challenge.cw_threadlathe_k09_nearest_pitch_holds : PySem.Challenge.rw_threadlathe_k09_nearest_pitch.Holds := by
  w_on; o_law; k_head; (case hw => w_witness2)
  k_fill
  refine My.walk (l := PySem.Challenge.rw_threadlathe_k09_nearest_pitch) rfl rfl (fun w h Y => PySem.W.kIn_of Y) ?F
  case F =>
    intro w mg fa h KX G hmg
    refine' My.all_mk KX G hmg ?a0 ?l0 ?c0 ?k0 ?a1 ?l1 ?c1 ?k1 ?a2 ?l2 ?c2 ?k2 ?a3 ?l3 ?c3 ?k3 ?a4 ?l4 ?c4 ?k4 ?a5 ?l5 ?c5 ?k5 ?a6 ?l6 ?c6 ?k6 ?a7 ?l7 ?c7 ?k7 ?a8 ?l8 ?c8 ?k8 ?a9 ?l9 ?c9 ?k9 ?a10 ?l10 ?c10 ?k10 ?a11 ?l11 ?c11 ?k11 ?a12 ?l12 ?c12 ?k12 ?a13 ?l13 ?c13 ?k13 ?a14 ?l14 ?c14 ?k14 ?a15 ?l15 ?c15 ?k15 ?a16 ?l16 ?c16 ?k16 ?a17 ?l17 ?c17 ?k17 ?a18 ?l18 ?c18 ?k18 ?a19 ?l19 ?c19 ?k19 ?a20 ?l20 ?c20 ?k20 ?a21 ?l21 ?c21 ?k21 ?a22 ?l22 ?c22 ?k22 ?a23 ?l23 ?c23 ?k23 ?a24 ?l24 ?c24 ?k24 ?z_abs ?z_bool ?z_int ?z_isinstance ?z_len ?z_list ?z_range ?z_sorted ?z_tuple
    (case a0 => k_is)
    (case l0 => k_is)
    (case c0 => k_is)
    (case k0 => k_is)
    (case a1 => k_is)
    (case l1 => k_is)
    (case c1 => k_is)
    (case k1 => k_is)
    (case a2 => k_is)
    (case l2 => k_is)
    (case c2 => k_is)
    (case k2 => k_is)
    (case a3 => k_is)
    (case l3 => k_is)
    (case c3 => k_is)
    (case k3 => k_is)
    (case a4 => k_is)
    (case l4 => k_is)
    (case c4 => k_is)
    (case k4 => k_is)
    (case a5 => k_is)
    (case l5 => k_is)
    (case c5 => k_is)
    (case k5 => k_is)
    (case a6 => k_is)
    (case l6 => k_is)
    (case c6 => k_is)
    (case k6 => k_is)
    (case a7 => k_is)
    (case l7 => k_is)
    (case c7 => k_is)
    (case k7 => k_is)
    (case a8 => k_is)
    (case l8 => k_is)
    (case c8 => k_is)
    (case k8 => k_is)
    (case a9 => k_is)
    (case l9 => k_is)
    (case c9 => k_is)
    (case k9 => k_is)
    (case a10 => k_is)
    (case l10 => k_is)
    (case c10 => k_is)
    (case k10 => k_is)
    (case a11 => k_is)
    (case l11 => k_is)
    (case c11 => k_is)
    (case k11 => k_is)
    (case a12 => k_is)
    (case l12 => k_is)
    (case c12 => k_is)
    (case k12 => k_is)
    (case a13 => k_is)
    (case l13 => k_is)
    (case c13 => k_is)
    (case k13 => k_is)
    (case a14 => k_is)
    (case l14 => k_is)
    (case c14 => k_is)
    (case k14 => k_is)
    (case a15 => k_is)
    (case l15 => k_is)
    (case c15 => k_is)
    (case k15 => k_is)
    (case a16 => k_is)
    (case l16 => k_is)
    (case c16 => k_is)
    (case k16 => k_is)
    (case a17 => k_is)
    (case l17 => k_is)
    (case c17 => k_is)
    (case k17 => k_is)
    (case a18 => k_is)
    (case l18 => k_is)
    (case c18 => k_is)
    (case k18 => k_is)
    (case a19 => k_is)
    (case l19 => k_is)
    (case c19 => k_is)
    (case k19 => k_is)
    (case a20 => k_is)
    (case l20 => k_is)
    (case c20 => k_is)
    (case k20 => k_is)
    (case a21 => k_is)
    (case l21 => k_is)
    (case c21 => k_is)
    (case k21 => k_is)
    (case a22 => k_is)
    (case l22 => k_is)
    (case c22 => k_is)
    (case k22 => k_is)
    (case a23 => k_is)
    (case l23 => k_is)
    (case c23 => k_is)
    (case k23 => k_is)
    (case a24 => k_is)
    (case l24 => k_is)
    (case c24 => k_is)
    (case k24 => k_is)
    (case z_abs => k_is)
    (case z_bool => k_is)
    (case z_int => k_is)
    (case z_isinstance => k_is)
    (case z_len => k_is)
    (case z_list => k_is)
    (case z_range => k_is)
    (case z_sorted => k_is)
    (case z_tuple => k_is)
