/- Plain mathematics: bounds of products, clamping, roots. Small facts on memory: cells behind stores and new blocks; 'But': all is as it was but for one block. The reader of drawn bytes: its invariant and the contracts of its methods. The contracts of the draws of numbers. The contracts of the number functions of chapter 1, each for every argument of its domain. The contracts of the two roots. The contracts of the functions of chapter 2: ways. The contracts of the draws of ways. The contracts of the draws of two ways. The contracts of the specification's ways. The contracts of the shapes: what is ok. -/
import Derived.Test.YtcbgcochpflblaaRows
import Derived.WalkKit
import Derived.WalkSpells
import Derived.WalkLawsBesides
import Derived.OrdersHeld
import Derived.Deep.QuietTactic
import Derived.BigQuiet
import Derived.OpenShut
import Derived.Deep.RegionWith
import Derived.Deep.RegionHeld3
namespace Go.Proofs.Ytcbgcochpflblaa

theorem mul_bd {a b A B : Int} (ha : -A ≤ a ∧ a ≤ A) (hb : -B ≤ b ∧ b ≤ B) : -(A * B) ≤ a * b ∧ a * b ≤ A * B := by
  have h1 := Int.mul_nonneg (show 0 ≤ A - a by omega) (show 0 ≤ B + b by omega)
  have h2 := Int.mul_nonneg (show 0 ≤ A + a by omega) (show 0 ≤ B - b by omega)
  have h3 := Int.mul_nonneg (show 0 ≤ A - a by omega) (show 0 ≤ B - b by omega)
  have h4 := Int.mul_nonneg (show 0 ≤ A + a by omega) (show 0 ≤ B + b by omega)
  simp only [Int.mul_add, Int.add_mul, Int.sub_mul, Int.mul_sub] at h1 h2 h3 h4
  omega

def clampZ (l n : Int) : Int := if n < -l then -l else if l < n then l else n

theorem clampZ_bd {l : Int} (n : Int) (h : 0 ≤ l) : -l ≤ clampZ l n ∧ clampZ l n ≤ l := by
  unfold clampZ; split
  · omega
  · split <;> omega
theorem clampZ_id {l n : Int} (h1 : -l ≤ n) (h2 : n ≤ l) : clampZ l n = n := by
  unfold clampZ; rw [if_neg (by omega), if_neg (by omega)]
theorem clampZ_neg {l : Int} (n : Int) (h : 0 ≤ l) : clampZ l (-n) = -clampZ l n := by
  unfold clampZ; repeat' split
  all_goals omega
theorem clampZ_lo {l n : Int} (h : n < -l) : clampZ l n = -l := by
  unfold clampZ; rw [if_pos h]
theorem clampZ_hi {l n : Int} (h0 : 0 ≤ l) (h : l < n) : clampZ l n = l := by
  unfold clampZ; rw [if_neg (by omega), if_pos h]

def FM : Int := 1000000000
def fc (n : Int) : Int := clampZ 1000000000 n
theorem fc_bd (n : Int) : -1000000000 ≤ fc n ∧ fc n ≤ 1000000000 := clampZ_bd n (by decide)
theorem fc_id {n : Int} (h1 : -1000000000 ≤ n) (h2 : n ≤ 1000000000) : fc n = n := clampZ_id h1 h2
theorem fc_fc (n : Int) : fc (fc n) = fc n := fc_id (fc_bd n).1 (fc_bd n).2
theorem fc_neg (n : Int) : fc (-n) = -fc n := clampZ_neg n (by decide)

theorem fc_cases (n : Int) : (n < -1000000000 ∧ fc n = -1000000000) ∨ (1000000000 < n ∧ fc n = 1000000000) ∨ (-1000000000 ≤ n ∧ n ≤ 1000000000 ∧ fc n = n) := by
  unfold fc clampZ; repeat' split
  all_goals omega
theorem fc_mul_bd (a b : Int) : -1000000000000000000 ≤ fc a * fc b ∧ fc a * fc b ≤ 1000000000000000000 := by
  have := mul_bd (fc_bd a) (fc_bd b); omega

/-- the product of two numbers -/
def fmul (a b : Int) : Int := fc ((fc a * fc b).tdiv 256)
/-- the quotient of two numbers -/
def fdiv (a b : Int) : Int := if fc b = 0 then fc (fc a * 1000000000) else fc ((fc a * 256).tdiv (fc b))

def IsRoot (n r : Int) : Prop := 0 ≤ r ∧ r * r ≤ n ∧ n < (r + 1) * (r + 1)

theorem sq_mono {a b : Int} (h0 : 0 ≤ a) (h : a ≤ b) : a * a ≤ b * b := Int.mul_le_mul h h h0 (by omega)
theorem IsRoot.uniq {n r s : Int} (h : IsRoot n r) (k : IsRoot n s) : r = s := by
  obtain ⟨a0, a1, a2⟩ := h
  obtain ⟨b0, b1, b2⟩ := k
  rcases Int.lt_trichotomy r s with h | h | h
  · have := sq_mono (show 0 ≤ r + 1 by omega) (show r + 1 ≤ s by omega); omega
  · exact h
  · have := sq_mono (show 0 ≤ s + 1 by omega) (show s + 1 ≤ r by omega); omega
/-- the greatest number whose square is not above n -/
def rootN : Nat → Nat
  | 0 => 0
  | n + 1 => if (rootN n + 1) * (rootN n + 1) ≤ n + 1 then rootN n + 1 else rootN n
theorem rootN_is (n : Nat) : rootN n * rootN n ≤ n ∧ n < (rootN n + 1) * (rootN n + 1) := by
  induction n with
  | zero => simp [rootN]
  | succ n ih =>
    obtain ⟨h1, h2⟩ := ih
    unfold rootN
    split
    · refine ⟨by assumption, ?_⟩
      simp only [Nat.mul_add, Nat.add_mul] at *
      omega
    · exact ⟨by omega, by omega⟩
/-- the same of an integer; 0 below 0 -/
def rootZ (n : Int) : Int := if n < 0 then 0 else (rootN n.toNat : Int)
theorem rootZ_neg {n : Int} (h : n < 0) : rootZ n = 0 := by unfold rootZ; rw [if_pos h]
theorem rootZ_is {n : Int} (h : 0 ≤ n) : IsRoot n (rootZ n) := by
  have e : rootZ n = (rootN n.toNat : Int) := by unfold rootZ; rw [if_neg (by omega)]
  obtain ⟨h1, h2⟩ := rootN_is n.toNat
  have k1 : ((rootN n.toNat * rootN n.toNat : Nat) : Int) ≤ (n.toNat : Int) := by exact_mod_cast h1
  have k2 : (n.toNat : Int) < (((rootN n.toNat + 1) * (rootN n.toNat + 1) : Nat) : Int) := by exact_mod_cast h2
  rw [Int.natCast_mul] at k1 k2
  rw [Int.natCast_add, Int.toNat_of_nonneg h] at k2
  rw [Int.toNat_of_nonneg h] at k1
  rw [e]
  exact ⟨Int.natCast_nonneg _, k1, k2⟩
theorem rootZ_of {n r : Int} (h : IsRoot n r) : rootZ n = r := by
  have h0 : 0 ≤ n := by obtain ⟨a, b, _⟩ := h; have := Int.mul_nonneg a a; omega
  exact IsRoot.uniq (rootZ_is h0) h
theorem rootZ_nonneg (n : Int) : 0 ≤ rootZ n := by
  by_cases h : n < 0
  · rw [rootZ_neg h]; omega
  · exact (rootZ_is (by omega)).1
/-- The root of what is below (B+1)² is at most B. -/
theorem rootZ_le {n B : Int} (hB : 0 ≤ B) (h : n < (B + 1) * (B + 1)) : rootZ n ≤ B := by
  by_cases h0 : n < 0
  · rw [rootZ_neg h0]; exact hB
  · obtain ⟨a, b, c⟩ := rootZ_is (show 0 ≤ n by omega)
    rcases Int.lt_or_le B (rootZ n) with k | k
    · have := sq_mono (show 0 ≤ B + 1 by omega) (show B + 1 ≤ rootZ n by omega); omega
    · exact k
theorem tdiv_bd {x B : Int} (m : Int) (h : -B ≤ x ∧ x ≤ B) : -B ≤ x.tdiv m ∧ x.tdiv m ≤ B := by
  have := Int.natAbs_tdiv_le_natAbs x m; omega

theorem fmul_comm (a b : Int) : fmul b a = fmul a b := by unfold fmul; rw [Int.mul_comm]
theorem fmul_fc (a b : Int) : fmul (fc a) (fc b) = fmul a b := by unfold fmul; rw [fc_fc, fc_fc]
theorem fmul_neg (a b : Int) : fmul (-a) b = -fmul a b := by
  unfold fmul; rw [fc_neg, Int.neg_mul, Int.neg_tdiv, fc_neg]
theorem fmul_one (a : Int) : fmul (fc a) 256 = fc a := by
  unfold fmul
  rw [fc_fc, show fc 256 = 256 from rfl, Int.mul_tdiv_cancel _ (by decide), fc_fc]
theorem fmul_zero (a : Int) : fmul a 0 = 0 := by
  unfold fmul
  rw [show fc 0 = 0 from rfl, Int.mul_zero]; rfl
theorem fmul_bd (a b : Int) : -1000000000 ≤ fmul a b ∧ fmul a b ≤ 1000000000 := fc_bd _

def absZ (n : Int) : Int := if n < 0 then -n else n
theorem absZ_nat (n : Int) : absZ n = (n.natAbs : Int) := by unfold absZ; split <;> omega
theorem fdiv_bd (a b : Int) : -1000000000 ≤ fdiv a b ∧ fdiv a b ≤ 1000000000 := by
  unfold fdiv; split <;> exact fc_bd _
/-- by 0 -/
theorem fdiv_zero {a b : Int} (h : fc b = 0) : (fc a = 0 ∧ fdiv a b = 0) ∨ (0 < fc a ∧ fdiv a b = 1000000000) ∨ (fc a < 0 ∧ fdiv a b = -1000000000) := by
  have ha := fc_bd a
  unfold fdiv; rw [if_pos h]
  rcases fc_cases (fc a * 1000000000) with h | h | h <;> omega
theorem fdiv_one (a : Int) : fdiv (fc a) 256 = fc a := by
  unfold fdiv
  rw [show fc 256 = 256 from rfl, if_neg (by decide), fc_fc, Int.mul_tdiv_cancel _ (by decide), fc_fc]
theorem abs_mul_le {q b x : Nat} {t : Nat} (h : x = q * b + t) (k : 1000000000 ≤ q) : b * 999999999 ≤ x := by
  have := Nat.mul_le_mul k (Nat.le_refl b); omega
theorem fdiv_full {a b : Int} (h : fc b ≠ 0) (k : absZ (fdiv a b) = 1000000000) : absZ (fc b) * 999999999 ≤ absZ (fc a) * 256 := by
  unfold fdiv at k; rw [if_neg h] at k
  have e : 1000000000 ≤ ((fc a * 256).tdiv (fc b)).natAbs := by
    rcases fc_cases ((fc a * 256).tdiv (fc b)) with h | h | h <;> (unfold absZ at k; split at k <;> omega)
  rw [Int.natAbs_tdiv] at e
  rw [absZ_nat, absZ_nat]
  have d := Nat.div_add_mod (fc a * 256).natAbs (fc b).natAbs
  have := abs_mul_le (q := (fc a * 256).natAbs / (fc b).natAbs) (b := (fc b).natAbs) (x := (fc a * 256).natAbs) (t := (fc a * 256).natAbs % (fc b).natAbs) (by rw [Nat.mul_comm]; exact d.symm) (by omega)
  omega
theorem fdiv_rest {a b : Int} (h : fc b ≠ 0) (k : absZ (fdiv a b) ≠ 1000000000) : fc a * 256 - fdiv a b * fc b = (fc a * 256).tmod (fc b) := by
  unfold fdiv at *; rw [if_neg h] at *
  have e : fc ((fc a * 256).tdiv (fc b)) = (fc a * 256).tdiv (fc b) := by
    rcases fc_cases ((fc a * 256).tdiv (fc b)) with h | h | h <;> (unfold absZ at k; split at k <;> omega)
  rw [e]
  have := Int.mul_tdiv_add_tmod (fc a * 256) (fc b)
  rw [Int.mul_comm (fc b)] at this
  omega
theorem absZ_bd {n B : Int} (h : -B ≤ n ∧ n ≤ B) : 0 ≤ absZ n ∧ absZ n ≤ B := by unfold absZ; split <;> omega
theorem tmod_abs (x : Int) {m : Int} (h : m ≠ 0) : absZ (x.tmod m) < absZ m := by
  rw [absZ_nat, absZ_nat, Int.natAbs_tmod]
  have := Nat.mod_lt x.natAbs (show 0 < m.natAbs by omega)
  omega
theorem tmod_sign (x m : Int) : x.tmod m = 0 ∨ (decide (x.tmod m < 0) = decide (x < 0)) := by
  by_cases h : x < 0
  · have e := Int.tmod_nonneg m (show 0 ≤ -x by omega)
    rw [Int.neg_tmod] at e
    by_cases k : x.tmod m = 0
    · exact .inl k
    · exact .inr (by rw [decide_eq_true h, decide_eq_true]; omega)
  · have e := Int.tmod_nonneg m (show 0 ≤ x by omega)
    exact .inr (by rw [decide_eq_false h, decide_eq_false]; omega)
def fsqrt (n : Int) : Int := rootZ (fc n * 256)
theorem fsqrt_le {n : Int} (h : fc n ≤ 0) : fsqrt n = 0 := by
  unfold fsqrt
  by_cases k : fc n * 256 < 0
  · exact rootZ_neg k
  · exact rootZ_of ⟨by omega, by omega, by omega⟩
end Go.Proofs.Ytcbgcochpflblaa
namespace Go.Proofs.Ytcbgcochpflblaa
open Go.RowKit
set_option linter.unusedVariables false

theorem ret_int {k : IntKind} {a b : Int} (h : a = b) : Ending.returned (.int k a) = .returned (.int k b) := by rw [h]
theorem ret_bool {a b : Bool} (h : a = b) : Ending.returned (.bool a) = .returned (.bool b) := by rw [h]
theorem w64 {n : Int} (h : -9223372036854775808 ≤ n ∧ n ≤ 9223372036854775807) : wrap64 n = n := by unfold wrap64; omega

theorem cset_same {w : World} {a : Addr} {u v : Value} (h : w.cell? a = some u) : (w.setCell a v).cell? a = some v := World.cell?_setCell_same _ _ _ h
theorem cset_far {w : World} {p a : Addr} {v : Value} (h : a.block ≠ p.block) : (w.setCell p v).cell? a = w.cell? a := World.cell?_of_block (Below.heap_setCell _ _ _ _ h)
theorem cset_other {w : World} {p a : Addr} {v : Value} (h : p ≠ a) : (w.setCell p v).cell? a = w.cell? a := World.cell?_setCell_other _ _ _ _ h
theorem calloc_old {w : World} {a : Addr} {o : Obj} (h : a.block < w.heap.size) : (w.alloc o).cell? a = w.cell? a := World.cell?_of_block (Below.heap_alloc _ _ _ h)
theorem falloc_old {w : World} {a : Addr} {o : Obj} (h : a.block < w.heap.size) : (w.alloc o).frozen? a = w.frozen? a := World.frozen?_of_block (Below.heap_alloc _ _ _ h)
theorem fset_far {w : World} {p a : Addr} {v : Value} (h : a.block ≠ p.block) : (w.setCell p v).frozen? a = w.frozen? a := World.frozen?_of_block (Below.heap_setCell _ _ _ _ h)
theorem cell_lt {w : World} {a : Addr} {v : Value} (h : w.cell? a = some v) : a.block < w.heap.size := by
  rcases Nat.lt_or_ge a.block w.heap.size with k | k
  · exact k
  · simp [World.cell?, Array.getElem?_eq_none k] at h

/-- All blocks that were there are as they were, but for block rb. -/
structure But (rb : Nat) (w w' : World) : Prop where
  os : w'.os = w.os
  tape : w'.tape = w.tape
  output : w'.output = w.output
  size : w.heap.size ≤ w'.heap.size
  block : ∀ k, k < w.heap.size → k ≠ rb → w'.heap[k]? = w.heap[k]?

theorem But.refl (rb : Nat) (w : World) : But rb w w := ⟨rfl, rfl, rfl, Nat.le_refl _, fun _ _ _ => rfl⟩
theorem But.trans {rb : Nat} {a b c : World} (h : But rb a b) (k : But rb b c) : But rb a c :=
  ⟨k.os.trans h.os, k.tape.trans h.tape, k.output.trans h.output, Nat.le_trans h.size k.size, fun i hi hn => (k.block i (Nat.lt_of_lt_of_le hi h.size) hn).trans (h.block i hi hn)⟩
theorem But.of_below {rb : Nat} {w w' : World} (h : Below w.heap.size w w') : But rb w w' := ⟨h.os, h.tape, h.output, h.size, fun k hk _ => h.block k hk⟩
theorem But.below {rb B : Nat} {w w' : World} (h : But rb w w') (hB : B ≤ rb) (hB' : B ≤ w.heap.size) : Below B w w' := ⟨h.os, h.tape, h.output, h.size, fun k hk => h.block k (by omega) (by omega)⟩
theorem But.alloc {rb : Nat} {a w : World} (h : But rb a w) (o : Obj) : But rb a (w.alloc o) :=
  h.trans ⟨rfl, rfl, rfl, by simp, fun k hk _ => Below.heap_alloc _ _ _ hk⟩
theorem But.setCell {rb : Nat} {a w : World} (h : But rb a w) {p : Addr} (hp : p.block = rb) (u : Value) : But rb a (w.setCell p u) :=
  h.trans ⟨rfl, rfl, rfl, by simp [World.setCell], fun k _ hn => Below.heap_setCell _ _ _ _ (by omega)⟩
theorem But.drewN {rb : Nat} {a w : World} (h : But rb a w) (n : Nat) : But rb a (w.drewN n) := ⟨h.os, h.tape, h.output, h.size, h.block⟩
theorem But.cell {rb : Nat} {w w' : World} (h : But rb w w') {p : Addr} (hp : p.block < w.heap.size) (hn : p.block ≠ rb) : w'.cell? p = w.cell? p := World.cell?_of_block (w := w) (h.block p.block hp hn)
theorem But.frozen {rb : Nat} {w w' : World} (h : But rb w w') {p : Addr} (hp : p.block < w.heap.size) (hn : p.block ≠ rb) : w'.frozen? p = w.frozen? p := World.frozen?_of_block (w := w) (h.block p.block hp hn)

theorem xor_nonneg {x y : Int} (h0 : 0 ≤ x) (h1 : x < 4611686018427387904) (k0 : 0 ≤ y) (k1 : y < 4611686018427387904) : 0 ≤ bits .xor .i64 x y := by
  obtain ⟨a, rfl⟩ := Int.eq_ofNat_of_zero_le h0
  obtain ⟨b, rfl⟩ := Int.eq_ofNat_of_zero_le k0
  have hx : a ^^^ b < 2 ^ 62 := Nat.xor_lt_two_pow (by omega) (by omega)
  have e1 : (BitVec.ofInt 64 (a : Int)).toNat = a := by
    rw [BitVec.ofInt_natCast, BitVec.toNat_ofNat]; exact Nat.mod_eq_of_lt (by omega)
  have e2 : (BitVec.ofInt 64 (b : Int)).toNat = b := by
    rw [BitVec.ofInt_natCast, BitVec.toNat_ofNat]; exact Nat.mod_eq_of_lt (by omega)
  show 0 ≤ IntKind.i64.wrap ((BitVec.ofInt 64 (a : Int) ^^^ BitVec.ofInt 64 (b : Int)).toNat : Int)
  rw [BitVec.toNat_xor, e1, e2]
  simp [IntKind.wrap, IntKind.bits, IntKind.signed]
  omega
section
variable {P : Program} {md : Region.Mode} {ops : Array Oper} {Q : Exit → Act → World → Prop} {S : World → Prop}
theorem tk (i : Nat) (oi : Oper) {v : Value} {fuel : Nat} {listed : Array Bool} {a : Act} {w : World} (hi : ops[i]? = some oi)
    (hc : (Region.noSelect ops && (Region.free md ops listed i && (Region.ready md ops listed).contains i)) = true)
    (hQ : ∀ c a w, Q (.panic c) (a.put oi.dst v) w → Q (.panic c) a w) (hw : Region.wanted oi (yielded ops a.tmps) = true) (hS : S w)
    (hv : ∀ w, S w → (execOp a.eval oi).run P w = .ok (.value v) w)
    (h : wpAnyH P md ops Q S fuel (listed.setIfInBounds i true) (a.put oi.dst v) w) : wpAnyH P md ops Q S (fuel + 1) listed a w := by
  simp only [Bool.and_eq_true] at hc
  exact wpAnyH_take hi hc.1 hc.2.1 hc.2.2 hQ (.inl ⟨hw, hv⟩) hS h
end
end Go.Proofs.Ytcbgcochpflblaa
namespace Go.Proofs.Ytcbgcochpflblaa
open Go.RowKit
set_option linter.unusedVariables false

/-- The reader at block rb: a slice of at most 2000 bytes that lie elsewhere, and its place p. -/
def Rd (w : World) (rb p : Nat) : Prop := ∃ (a : Option Addr) (len cap : Nat), w.cell? ⟨rb, 0, none⟩ = some (.slice a len cap) ∧ w.cell? ⟨rb, 1, none⟩ = some (.int .i64 (p : Int)) ∧ w.frozen? ⟨rb, 1, none⟩ = false ∧ len ≤ 2000 ∧
  (len = 0 ∨ ∃ b off, a = some ⟨b, off, none⟩ ∧ b < rb ∧ ∀ i, i < len → ∃ z : Int, w.cell? ⟨b, off + i, none⟩ = some (.int .u8 z) ∧ 0 ≤ z ∧ z ≤ 255)

theorem Rd.lt {w : World} {rb p : Nat} (h : Rd w rb p) : rb < w.heap.size := by
  obtain ⟨a, len, cap, c0, _⟩ := h; exact cell_lt c0
theorem Rd.below {w w' : World} {rb p : Nat} (h : Rd w rb p) (k : Below w.heap.size w w') : Rd w' rb p := by
  have hl := h.lt
  obtain ⟨a, len, cap, c0, c1, f1, hle, hz⟩ := h
  refine ⟨a, len, cap, by rw [k.cell hl]; exact c0, by rw [k.cell hl]; exact c1, by rw [k.frozen hl]; exact f1, hle, ?_⟩
  rcases hz with hz | ⟨b, off, ha, hb, hz⟩
  · exact .inl hz
  · refine .inr ⟨b, off, ha, hb, fun i hi => ?_⟩
    obtain ⟨z, hz, r⟩ := hz i hi
    exact ⟨z, by rw [k.cell (cell_lt hz)]; exact hz, r⟩
theorem Rd.step {w : World} {rb p : Nat} (h : Rd w rb p) (m : Nat) (q : Nat) : Rd ((w.setCell ⟨rb, 1, none⟩ (.int .i64 (q : Int))).drewN m) rb q := by
  obtain ⟨a, len, cap, c0, c1, f1, hle, hz⟩ := h
  refine ⟨a, len, cap, ?_, ?_, ?_, hle, ?_⟩
  · rw [World.cell?_drewN, cset_other (by simp)]; exact c0
  · rw [World.cell?_drewN, cset_same c1]
  · simpa using f1
  rcases hz with hz | ⟨b, off, ha, hb, hz⟩
  · exact .inl hz
  · refine .inr ⟨b, off, ha, hb, fun i hi => ?_⟩
    obtain ⟨z, hz, r⟩ := hz i hi
    exact ⟨z, by rw [World.cell?_drewN, cset_far (Nat.ne_of_lt hb)]; exact hz, r⟩

theorem Rd.of_but {w w' : World} {rb p : Nat} (h : Rd w rb p) (k : But rb w w') (c0 : w'.cell? ⟨rb, 0, none⟩ = w.cell? ⟨rb, 0, none⟩) (c1 : w'.cell? ⟨rb, 1, none⟩ = w.cell? ⟨rb, 1, none⟩) (f1 : w'.frozen? ⟨rb, 1, none⟩ = w.frozen? ⟨rb, 1, none⟩) : Rd w' rb p := by
  obtain ⟨a, len, cap, e0, e1, g1, hle, hz⟩ := h
  refine ⟨a, len, cap, c0.trans e0, c1.trans e1, f1.trans g1, hle, ?_⟩
  rcases hz with hz | ⟨b, off, ha, hb, hz⟩
  · exact .inl hz
  · refine .inr ⟨b, off, ha, hb, fun i hi => ?_⟩
    obtain ⟨z, hz, r⟩ := hz i hi
    exact ⟨z, by rw [k.cell (cell_lt hz) (Nat.ne_of_lt hb)]; exact hz, r⟩
theorem Rd.alloc {w : World} {rb p : Nat} (h : Rd w rb p) (o : Obj) : Rd (w.alloc o) rb p := h.below ((Below.refl _ _).alloc (Nat.le_refl _) o)

/-- Each cell of a list is an integer between two bounds. -/
def AllBd (lo hi : Int) : List Value → Prop
  | [] => True
  | c :: r => (∃ z : Int, c = .int .i64 z ∧ lo ≤ z ∧ z ≤ hi) ∧ AllBd lo hi r
theorem AllBd.get {lo hi : Int} : ∀ {l : List Value}, AllBd lo hi l → ∀ i, i < l.length → ∃ z : Int, l[i]? = some (.int .i64 z) ∧ lo ≤ z ∧ z ≤ hi
  | c :: r, h, 0, _ => by obtain ⟨z, rfl, h1, h2⟩ := h.1; exact ⟨z, rfl, h1, h2⟩
  | c :: r, h, i + 1, hi' => by simpa using AllBd.get h.2 i (by simpa using hi')
theorem AllBd.cons {lo hi z : Int} {r : List Value} (h1 : lo ≤ z) (h2 : z ≤ hi) (h : AllBd lo hi r) : AllBd lo hi (.int .i64 z :: r) := ⟨⟨z, rfl, h1, h2⟩, h⟩
theorem AllBd.nil {lo hi : Int} : AllBd lo hi [] := trivial

/-- The reader stands at p at most, and since the world w0 nothing but its block has turned. -/
def RB (w0 w : World) (rb p : Nat) : Prop := ∃ q, q ≤ p ∧ Rd w rb q ∧ But rb w0 w
theorem RB.mono {w0 w : World} {rb p p' : Nat} (h : RB w0 w rb p) (k : p ≤ p') : RB w0 w rb p' := by
  obtain ⟨q, a, b⟩ := h; exact ⟨q, by omega, b⟩
theorem RB.start {w : World} {rb p : Nat} (h : Rd w rb p) : RB w w rb p := ⟨p, Nat.le_refl _, h, But.refl _ _⟩
theorem RB.alloc {w0 w : World} {rb p : Nat} (h : RB w0 w rb p) (o : Obj) : RB w0 (w.alloc o) rb p := by
  obtain ⟨q, a, b, c⟩ := h; exact ⟨q, a, b.alloc o, c.alloc o⟩
theorem RB.below {w0 w w' : World} {rb p : Nat} (h : RB w0 w rb p) (k : Below w.heap.size w w') : RB w0 w' rb p := by
  obtain ⟨q, a, b, c⟩ := h; exact ⟨q, a, b.below k, c.trans (But.of_below k)⟩
theorem RB.lt {w0 w : World} {rb p : Nat} (h : RB w0 w rb p) : rb < w.heap.size := by
  obtain ⟨q, a, b, c⟩ := h; exact b.lt
theorem RB.old {w0 w : World} {rb p : Nat} (h : RB w0 w rb p) {B : Nat} (hB : B ≤ rb) (hB' : B ≤ w0.heap.size) : Below B w0 w := by
  obtain ⟨q, a, b, c⟩ := h; exact c.below hB hB'

/-- A slice of bytes that came in: within its room; empty, or its bytes lie there. -/
def Bytes (w : World) (a : Option Addr) (len cap : Nat) : Prop :=
  len ≤ cap ∧ (len = 0 ∨ ∃ b off, a = some ⟨b, off, none⟩ ∧ ∀ i, i < len → ∃ z : Int, w.cell? ⟨b, off + i, none⟩ = some (.int .u8 z) ∧ 0 ≤ z ∧ z ≤ 255)
theorem Bytes.below {w w' : World} {a : Option Addr} {len cap : Nat} (h : Bytes w a len cap) (k : Below w.heap.size w w') : Bytes w' a len cap := by
  refine ⟨h.1, ?_⟩
  rcases h.2 with h | ⟨b, off, ha, hz⟩
  · exact .inl h
  · refine .inr ⟨b, off, ha, fun i hi => ?_⟩
    obtain ⟨z, hz, r⟩ := hz i hi
    exact ⟨z, by rw [k.cell (cell_lt hz)]; exact hz, r⟩
theorem Bytes.nil (w : World) : Bytes w none 0 0 := ⟨Nat.le_refl _, .inl rfl⟩
theorem Bytes.of {w : World} {x : Addr} {len cap : Nat} {zs : List Int} (hl : len ≤ cap) (hz : zs.length = cap) (hcell : ∀ i, i < zs.length → w.cell? (x.add i) = some (.int .u8 (zs.getD i 0))) (hwz : ∀ n ∈ zs, (Lit.int .u8 n).wf = true) : Bytes w (some x) len cap := by
  refine ⟨hl, ?_⟩
  rcases Nat.eq_zero_or_pos len with h | h
  · exact .inl h
  · obtain ⟨b, off, spot⟩ := x
    have hc := hcell 0 (by omega)
    have hspot : spot = none := by simpa [Addr.add] using World.cell?_spot hc
    subst hspot
    refine .inr ⟨b, off, rfl, fun i hi => ⟨zs[i]?.getD 0, ?_, (range_u8 hwz i).1, (range_u8 hwz i).2⟩⟩
    have h := hcell i (by omega)
    by_cases h0 : i = 0
    · subst h0; simpa [Addr.add] using h
    · simpa [Addr.add, h0] using h

theorem RB.done {w w0 w' : World} {p : Nat} (k : Below w.heap.size w w0) (h : RB w0 w' w.heap.size p) : Below w.heap.size w w' :=
  k.trans (h.old (Nat.le_refl _) k.size)

/-- A store into a block that was made behind the reader's, and behind the world w0. -/
theorem Rd.setNew {w : World} {rb p : Nat} (h : Rd w rb p) {a : Addr} (ha : rb < a.block) (v : Value) : Rd (w.setCell a v) rb p := by
  obtain ⟨s, len, cap, c0, c1, f1, hle, hz⟩ := h
  refine ⟨s, len, cap, ?_, ?_, ?_, hle, ?_⟩
  · rw [cset_far (Nat.ne_of_lt ha)]; exact c0
  · rw [cset_far (Nat.ne_of_lt ha)]; exact c1
  · rw [fset_far (Nat.ne_of_lt ha)]; exact f1
  rcases hz with hz | ⟨b, off, e, hb, hz⟩
  · exact .inl hz
  · refine .inr ⟨b, off, e, hb, fun i hi => ?_⟩
    obtain ⟨z, hz, r⟩ := hz i hi
    exact ⟨z, by rw [cset_far (by show b ≠ a.block; omega)]; exact hz, r⟩
theorem RB.setNew {w0 w : World} {rb p : Nat} (h : RB w0 w rb p) {a : Addr} (ha : rb < a.block) (h0 : w0.heap.size ≤ a.block) (v : Value) : RB w0 (w.setCell a v) rb p := by
  obtain ⟨q, k, b, c⟩ := h
  exact ⟨q, k, b.setNew ha v, ⟨c.os, c.tape, c.output, by simpa [World.setCell] using c.size, fun k hk hn => (Below.heap_setCell _ _ _ _ (by omega)).trans (c.block k hk hn)⟩⟩
theorem RB.cells {w0 w : World} {rb p : Nat} (h : RB w0 w rb p) : (∀ b o, b < w0.heap.size → b ≠ rb → w.cell? ⟨b, o, none⟩ = w0.cell? ⟨b, o, none⟩) ∧ (∀ b o, b < w0.heap.size → b ≠ rb → w.frozen? ⟨b, o, none⟩ = w0.frozen? ⟨b, o, none⟩) := by
  obtain ⟨q, k, b, c⟩ := h
  exact ⟨fun b o hb hn => c.cell (p := ⟨b, o, none⟩) hb hn, fun b o hb hn => c.frozen (p := ⟨b, o, none⟩) hb hn⟩
/-- What was reckoned from the world behind a new block on, told from the elder world on. -/
theorem RB.join {w0 w w' : World} {o : Obj} {rb p p' : Nat} (h : RB w0 w rb p) (k : RB (w.alloc o) w' rb p') : RB w0 w' rb p' := by
  obtain ⟨q, a, b, c⟩ := h
  obtain ⟨q', a', b', c'⟩ := k
  exact ⟨q', a', b', (c.alloc o).trans c'⟩
theorem RB.fresh {w0 w : World} {rb p : Nat} (h : RB w0 w rb p) (o : Obj) : RB (w.alloc o) (w.alloc o) rb p := by
  obtain ⟨q, a, b, c⟩ := h; exact ⟨q, a, b.alloc o, But.refl _ _⟩
end Go.Proofs.Ytcbgcochpflblaa
namespace Go.Proofs.Ytcbgcochpflblaa
open Go.RowKit
set_option linter.unusedVariables false

end Go.Proofs.Ytcbgcochpflblaa
namespace Go.Proofs.Ytcbgcochpflblaa
open Go.RowKit

end Go.Proofs.Ytcbgcochpflblaa
namespace Go.Proofs.Ytcbgcochpflblaa
open Go.RowKit
set_option linter.unusedVariables false

theorem lt_of_sq {a b : Int} (hb : 0 ≤ b) (h : a * a < b * b) : a < b := by
  rcases Int.lt_or_le a b with k | k
  · exact k
  · have := sq_mono hb k; omega
theorem le_of_sq {a b : Int} (hb : 0 ≤ b) (h : a * a < (b + 1) * (b + 1)) : a ≤ b := by
  have := lt_of_sq (show 0 ≤ b + 1 by omega) h; omega
/-- the middle of two -/
theorem mid {l h : Int} (a : 0 ≤ l) (b : l + 1 < h) : l < (l + h) / 2 ∧ (l + h) / 2 < h := by omega

def cellInt (w : World) (a : Addr) : Int := match w.cell? a with | some v => intOf v | none => 0
theorem cellInt_of {w : World} {a : Addr} {k : IntKind} {n : Int} (h : w.cell? a = some (.int k n)) : cellInt w a = n := by simp [cellInt, h, intOf]

end Go.Proofs.Ytcbgcochpflblaa
namespace Go.Proofs.Ytcbgcochpflblaa
open Go.RowKit
set_option linter.unusedVariables false

theorem bcell {W w1 : World} (hb : Below W.heap.size W w1) : (∀ b o, b < W.heap.size → w1.cell? ⟨b, o, none⟩ = W.cell? ⟨b, o, none⟩) ∧ (∀ b o, b < W.heap.size → w1.frozen? ⟨b, o, none⟩ = W.frozen? ⟨b, o, none⟩) :=
  ⟨fun b o h => hb.cell (p := ⟨b, o, none⟩) h, fun b o h => hb.frozen (p := ⟨b, o, none⟩) h⟩
theorem blt {W w1 : World} (hb : Below W.heap.size W w1) : ∀ b, b < W.heap.size → b < w1.heap.size := fun b h => Nat.lt_of_lt_of_le h hb.size
theorem belowDrewN {B : Nat} {a w : World} (h : Below B a w) (n : Nat) : Below B a (w.drewN n) := ⟨h.os, h.tape, h.output, h.size, h.block⟩
/-- what a walk leaves is younger: found by its own text -/
theorem bel_a {B : Nat} {a w : World} (h : Below B a w := by repeat (first | with_reducible apply Below.refl | (with_reducible apply Below.setCell; rotate_left; focus (first | omega | (simp; done) | (simp; omega))) | (with_reducible apply Below.alloc; rotate_left; focus (first | omega | (simp; done) | (simp; omega))) | with_reducible apply Below.drew | with_reducible apply belowDrewN | (with_reducible apply Below.trans; rotate_left; with_reducible apply Below.mono; with_reducible assumption; focus (first | omega | (simp; done) | (simp; omega))))) : Below B a w := h

theorem cset_map (w : World) (a : Addr) (v : Value) : (w.setCell a v).cell? a = (w.cell? a).map fun _ => v := by
  cases h : w.cell? a with
  | some u => rw [cset_same h]; rfl
  | none =>
    simp only [World.cell?, World.setCell, Array.getElem?_modify, if_true] at *
    cases hb : w.heap[a.block]? with
    | none => simp
    | some o =>
      rw [hb] at h
      cases o with
      | cells c t fr =>
        by_cases hs : a.spot.isSome
        · simp [hs]
        · simp [hs] at h ⊢; omega
      | _ => simp

theorem i64w {n : Int} (h : -9223372036854775808 ≤ n ∧ n ≤ 9223372036854775807) : IntKind.i64.wrap n = n := by
  simp [IntKind.wrap, IntKind.bits, IntKind.signed]; omega
/-- how far two ways go together -/
def vdot (x y u v : Int) : Int := fc ((fc x * fc u + fc y * fc v).tdiv 256)
/-- how long a way is -/
def vl (x y : Int) : Int := clampZ 1000000000 (rootZ (x * x + y * y))
/-- a way made as long as 1 -/
def ux (x y : Int) : Int := if vl x y = 0 then 0 else (x * 256).tdiv (vl x y)
def uy (x y : Int) : Int := if vl x y = 0 then 256 else (y * 256).tdiv (vl x y)
theorem vl_bd (x y : Int) : 0 ≤ vl x y ∧ vl x y ≤ 1000000000 := by
  have h := rootZ_nonneg (x * x + y * y)
  have k := clampZ_bd (l := 1000000000) (rootZ (x * x + y * y)) (by decide)
  refine ⟨?_, k.2⟩
  unfold vl clampZ; repeat' split
  all_goals omega
theorem sq_bd {x y : Int} (hx : -1000000000 ≤ x ∧ x ≤ 1000000000) (hy : -1000000000 ≤ y ∧ y ≤ 1000000000) : 0 ≤ x * x + y * y ∧ x * x + y * y ≤ 2000000000000000000 := by
  have p := mul_bd hx hx
  have q := mul_bd hy hy
  have p0 : 0 ≤ x * x := by rcases Int.le_total 0 x with h | h; exact Int.mul_nonneg h h; exact Int.mul_nonneg_of_nonpos_of_nonpos h h
  have q0 : 0 ≤ y * y := by rcases Int.le_total 0 y with h | h; exact Int.mul_nonneg h h; exact Int.mul_nonneg_of_nonpos_of_nonpos h h
  omega

abbrev vv (x y : Int) : Value := .agg #[.int .i64 x, .int .i64 y]

theorem wayOf_any (x y : Int) (w : World) :
    Calls Try.prog 47 #[vv x y] w fun e w' => e = .returned (vv x y) ∧ Below w.heap.size w w' := by
  have hset := cset_map
  go_enter Try.func47, Try.ntmps47
  go_wp2
  exact bodyPost_ret (v := vv x y) (by simp [results, Try.results47, go_sem]) rfl ⟨rfl, bel_a⟩

theorem plus_any (x y u v : Int) (w : World) (hx : -4000000000 ≤ x ∧ x ≤ 4000000000) (hy : -4000000000 ≤ y ∧ y ≤ 4000000000) (hu : -4000000000 ≤ u ∧ u ≤ 4000000000) (hv : -4000000000 ≤ v ∧ v ≤ 4000000000) :
    Calls Try.prog 53 #[vv x y, vv u v] w fun e w' => e = .returned (vv (x + u) (y + v)) ∧ Below w.heap.size w w' := by
  have hset := cset_map
  go_enter Try.func53, Try.ntmps53
  go_wp2
  exact bodyPost_ret (v := vv (x + u) (y + v)) (by simp [results, Try.results53, go_sem]) rfl ⟨rfl, bel_a⟩

theorem less_any (x y u v : Int) (w : World) (hx : -4000000000 ≤ x ∧ x ≤ 4000000000) (hy : -4000000000 ≤ y ∧ y ≤ 4000000000) (hu : -4000000000 ≤ u ∧ u ≤ 4000000000) (hv : -4000000000 ≤ v ∧ v ≤ 4000000000) :
    Calls Try.prog 52 #[vv x y, vv u v] w fun e w' => e = .returned (vv (x - u) (y - v)) ∧ Below w.heap.size w w' := by
  have hset := cset_map
  go_enter Try.func52, Try.ntmps52
  go_wp2
  exact bodyPost_ret (v := vv (x - u) (y - v)) (by simp [results, Try.results52, go_sem]) rfl ⟨rfl, bel_a⟩

def vokB (x y : Int) : Bool := decide (-1000000000 ≤ x ∧ x ≤ 1000000000 ∧ -1000000000 ≤ y ∧ y ≤ 1000000000)
def inB (l x y : Int) : Bool := decide (-l ≤ x ∧ x ≤ l ∧ -l ≤ y ∧ y ≤ l)
theorem within_any (n l : Int) (w : World) (h0 : 0 ≤ l) (h1 : l ≤ 4000000000) :
    Calls Try.prog 77 #[.int .i64 n, .int .i64 l] w fun e w' => e = .returned (.bool (decide (-l ≤ n ∧ n ≤ l))) ∧ w' = w := by
  go_enter Try.func77, Try.ntmps77
  go_wp2
  all_goals
    go_ret
    refine ⟨ret_bool ?_, rfl⟩
    first | (simp; omega) | (simp; done)
theorem within2_any (x y l : Int) (w : World) (h0 : 0 ≤ l) (h1 : l ≤ 4000000000) :
    Calls Try.prog 63 #[vv x y, .int .i64 l] w fun e w' => e = .returned (.bool (inB l x y)) ∧ Below w.heap.size w w' := by
  go_enter Try.func63, Try.ntmps63
  go_wp2_with (go_at_call 77; refine (within_any _ _ _ h0 h1).mono ?_; rintro e w' ⟨rfl, rfl⟩)

  all_goals
    go_ret
    refine ⟨ret_bool ?_, bel_a⟩
    unfold inB
    first | (simp; omega) | (simp [*]; done) | (simp at *; omega)
theorem vecOk_any (x y : Int) (w : World) :
    Calls Try.prog 50 #[vv x y] w fun e w' => e = .returned (.bool (vokB x y)) ∧ Below w.heap.size w w' := by
  have hset := cset_map
  go_enter Try.func50, Try.ntmps50
  go_wp2_with (first
    | (go_at_call 47; refine (wayOf_any _ _ _).mono ?_; rintro e w1 ⟨rfl, hb1⟩; obtain ⟨hc1, hf1⟩ := bcell hb1; have hz1 := hb1.size; (try simp at hz1); have hq1x0a : w.heap.size < w1.heap.size := (by omega))
    | (go_at_call 63; refine (within2_any _ _ _ _ (by omega) (by omega)).mono ?_; rintro e w2 ⟨rfl, hb2⟩; obtain ⟨hc2, hf2⟩ := bcell hb2; have hz2 := hb2.size; (try simp at hz2); have hq2x0a : w.heap.size < w2.heap.size := (by omega)))
  go_ret
  exact ⟨rfl, bel_a⟩

end Go.Proofs.Ytcbgcochpflblaa
namespace Go.Proofs.Ytcbgcochpflblaa
open Go.RowKit
set_option linter.unusedVariables false
set_option linter.unusedSimpArgs false

end Go.Proofs.Ytcbgcochpflblaa
namespace Go.Proofs.Ytcbgcochpflblaa
open Go.RowKit
set_option linter.unusedVariables false
set_option linter.unusedSimpArgs false

/-- a number that was drawn -/
def Dn (x : Int) : Prop := -1099511627776 ≤ x ∧ x ≤ 1099511627776

theorem RB.size {w0 w : World} {rb p : Nat} (h : RB w0 w rb p) : w0.heap.size ≤ w.heap.size := by
  have := (h.old (B := 0) (Nat.zero_le _) (Nat.zero_le _)).size
  exact this

theorem bcellB {B : Nat} {a b : World} (hb : Below B a b) : (∀ x o, x < B → b.cell? ⟨x, o, none⟩ = a.cell? ⟨x, o, none⟩) ∧ (∀ x o, x < B → b.frozen? ⟨x, o, none⟩ = a.frozen? ⟨x, o, none⟩) :=
  ⟨fun x o h => hb.cell (p := ⟨x, o, none⟩) h, fun x o h => hb.frozen (p := ⟨x, o, none⟩) h⟩

end Go.Proofs.Ytcbgcochpflblaa
namespace Go.Proofs.Ytcbgcochpflblaa
open Go.RowKit
set_option linter.unusedVariables false
set_option linter.unusedSimpArgs false

theorem l1In_any (n l h : Int) (w : World) :
    Calls Try.prog 28 #[.int .i64 n, .int .i64 l, .int .i64 h] w fun e w' => e = .returned (.bool (decide (l ≤ n ∧ n ≤ h))) ∧ w' = w := by
  go_enter Try.func28, Try.ntmps28
  go_wp2
  all_goals
    go_ret
    refine ⟨ret_bool ?_, rfl⟩
    first | (simp; omega) | (simp; done)

theorem sVecOk_any (x y : Int) (w : World) :
    Calls Try.prog 38 #[vv x y] w fun e w' => e = .returned (.bool (vokB x y)) ∧ Below w.heap.size w w' := by
  have hset := cset_map
  go_enter Try.func38, Try.ntmps38
  go_wp2_with (go_at_call 28; refine (l1In_any _ _ _ _).mono ?_; rintro e w' ⟨rfl, rfl⟩)
  all_goals
    go_ret
    refine ⟨ret_bool ?_, bel_a⟩
    unfold vokB
    first | (simp; omega) | (simp [*]; done) | (simp at *; omega)

end Go.Proofs.Ytcbgcochpflblaa
namespace Go.Proofs.Ytcbgcochpflblaa
open Go.RowKit
set_option linter.unusedVariables false
set_option linter.unusedSimpArgs false

def szB (n : Int) : Bool := decide (1 ≤ n ∧ n ≤ 25600)
/-- whether a shape is ok -/
def rdB (k wd h : Int) : Bool := decide (k = 1 ∧ (1 ≤ wd ∧ wd ≤ 25600) ∧ h = 0)
def bxB (k wd h : Int) : Bool := decide (k = 2 ∧ (1 ≤ wd ∧ wd ≤ 25600) ∧ (1 ≤ h ∧ h ≤ 25600))
def shB (k wd h : Int) : Bool := rdB k wd h || bxB k wd h
abbrev s3 (k wd h : Int) : Value := .agg #[.int .i64 k, .int .i64 wd, .int .i64 h]

end Go.Proofs.Ytcbgcochpflblaa
