/- Plain mathematics: bounds of products, clamping, roots. Small facts on memory: cells behind stores and new blocks; 'But': all is as it was but for one block. -/
import Derived.Test.YtbngdlbecdloiaaRows
import Derived.WalkKit
import Derived.WalkSpells
import Derived.WalkLawsBesides
import Derived.OrdersHeld
set_option maxHeartbeats 16000000
set_option maxRecDepth 20000
namespace Go.Proofs.Ytbngdlbecdloiaa

theorem mul_bd {a b A B : Int} (ha : -A ≤ a ∧ a ≤ A) (hb : -B ≤ b ∧ b ≤ B) : -(A * B) ≤ a * b ∧ a * b ≤ A * B := by
  have h1 := Int.mul_nonneg (show 0 ≤ A - a by omega) (show 0 ≤ B + b by omega)
  have h2 := Int.mul_nonneg (show 0 ≤ A + a by omega) (show 0 ≤ B - b by omega)
  have h3 := Int.mul_nonneg (show 0 ≤ A - a by omega) (show 0 ≤ B - b by omega)
  have h4 := Int.mul_nonneg (show 0 ≤ A + a by omega) (show 0 ≤ B + b by omega)
  simp only [Int.mul_add, Int.add_mul, Int.sub_mul, Int.mul_sub] at h1 h2 h3 h4
  omega

def clampZ (l n : Int) : Int := if n < -l then -l else if l < n then l else n

theorem clampZ_bd {l : Int} (n : Int) (h : 0 ≤ l) : -l ≤ clampZ l n ∧ clampZ l n ≤ l := by
  unfold clampZ; split
  · omega
  · split <;> omega
theorem clampZ_id {l n : Int} (h1 : -l ≤ n) (h2 : n ≤ l) : clampZ l n = n := by
  unfold clampZ; rw [if_neg (by omega), if_neg (by omega)]
theorem clampZ_neg {l : Int} (n : Int) (h : 0 ≤ l) : clampZ l (-n) = -clampZ l n := by
  unfold clampZ; repeat' split
  all_goals omega
theorem clampZ_lo {l n : Int} (h : n < -l) : clampZ l n = -l := by
  unfold clampZ; rw [if_pos h]
theorem clampZ_hi {l n : Int} (h0 : 0 ≤ l) (h : l < n) : clampZ l n = l := by
  unfold clampZ; rw [if_neg (by omega), if_pos h]

def FM : Int := 1000000000
def fc (n : Int) : Int := clampZ 1000000000 n
theorem fc_bd (n : Int) : -1000000000 ≤ fc n ∧ fc n ≤ 1000000000 := clampZ_bd n (by decide)
theorem fc_id {n : Int} (h1 : -1000000000 ≤ n) (h2 : n ≤ 1000000000) : fc n = n := clampZ_id h1 h2
theorem fc_fc (n : Int) : fc (fc n) = fc n := fc_id (fc_bd n).1 (fc_bd n).2
theorem fc_neg (n : Int) : fc (-n) = -fc n := clampZ_neg n (by decide)

theorem fc_cases (n : Int) : (n < -1000000000 ∧ fc n = -1000000000) ∨ (1000000000 < n ∧ fc n = 1000000000) ∨ (-1000000000 ≤ n ∧ n ≤ 1000000000 ∧ fc n = n) := by
  unfold fc clampZ; repeat' split
  all_goals omega
theorem fc_mul_bd (a b : Int) : -1000000000000000000 ≤ fc a * fc b ∧ fc a * fc b ≤ 1000000000000000000 := by
  have := mul_bd (fc_bd a) (fc_bd b); omega

/-- the product of two numbers -/
def fmul (a b : Int) : Int := fc ((fc a * fc b).tdiv 256)
/-- the quotient of two numbers -/
def fdiv (a b : Int) : Int := if fc b = 0 then fc (fc a * 1000000000) else fc ((fc a * 256).tdiv (fc b))

def IsRoot (n r : Int) : Prop := 0 ≤ r ∧ r * r ≤ n ∧ n < (r + 1) * (r + 1)

theorem sq_mono {a b : Int} (h0 : 0 ≤ a) (h : a ≤ b) : a * a ≤ b * b := Int.mul_le_mul h h h0 (by omega)
theorem IsRoot.uniq {n r s : Int} (h : IsRoot n r) (k : IsRoot n s) : r = s := by
  obtain ⟨a0, a1, a2⟩ := h
  obtain ⟨b0, b1, b2⟩ := k
  rcases Int.lt_trichotomy r s with h | h | h
  · have := sq_mono (show 0 ≤ r + 1 by omega) (show r + 1 ≤ s by omega); omega
  · exact h
  · have := sq_mono (show 0 ≤ s + 1 by omega) (show s + 1 ≤ r by omega); omega
/-- the greatest number whose square is not above n -/
def rootN : Nat → Nat
  | 0 => 0
  | n + 1 => if (rootN n + 1) * (rootN n + 1) ≤ n + 1 then rootN n + 1 else rootN n
theorem rootN_is (n : Nat) : rootN n * rootN n ≤ n ∧ n < (rootN n + 1) * (rootN n + 1) := by
  induction n with
  | zero => simp [rootN]
  | succ n ih =>
    obtain ⟨h1, h2⟩ := ih
    unfold rootN
    split
    · refine ⟨by assumption, ?_⟩
      simp only [Nat.mul_add, Nat.add_mul] at *
      omega
    · exact ⟨by omega, by omega⟩
/-- the same of an integer; 0 below 0 -/
def rootZ (n : Int) : Int := if n < 0 then 0 else (rootN n.toNat : Int)
theorem rootZ_neg {n : Int} (h : n < 0) : rootZ n = 0 := by unfold rootZ; rw [if_pos h]
theorem rootZ_is {n : Int} (h : 0 ≤ n) : IsRoot n (rootZ n) := by
  have e : rootZ n = (rootN n.toNat : Int) := by unfold rootZ; rw [if_neg (by omega)]
  obtain ⟨h1, h2⟩ := rootN_is n.toNat
  have k1 : ((rootN n.toNat * rootN n.toNat : Nat) : Int) ≤ (n.toNat : Int) := by exact_mod_cast h1
  have k2 : (n.toNat : Int) < (((rootN n.toNat + 1) * (rootN n.toNat + 1) : Nat) : Int) := by exact_mod_cast h2
  rw [Int.natCast_mul] at k1 k2
  rw [Int.natCast_add, Int.toNat_of_nonneg h] at k2
  rw [Int.toNat_of_nonneg h] at k1
  rw [e]
  exact ⟨Int.natCast_nonneg _, k1, k2⟩
theorem rootZ_of {n r : Int} (h : IsRoot n r) : rootZ n = r := by
  have h0 : 0 ≤ n := by obtain ⟨a, b, _⟩ := h; have := Int.mul_nonneg a a; omega
  exact IsRoot.uniq (rootZ_is h0) h
theorem rootZ_nonneg (n : Int) : 0 ≤ rootZ n := by
  by_cases h : n < 0
  · rw [rootZ_neg h]; omega
  · exact (rootZ_is (by omega)).1
/-- The root of what is below (B+1)² is at most B. -/
theorem rootZ_le {n B : Int} (hB : 0 ≤ B) (h : n < (B + 1) * (B + 1)) : rootZ n ≤ B := by
  by_cases h0 : n < 0
  · rw [rootZ_neg h0]; exact hB
  · obtain ⟨a, b, c⟩ := rootZ_is (show 0 ≤ n by omega)
    rcases Int.lt_or_le B (rootZ n) with k | k
    · have := sq_mono (show 0 ≤ B + 1 by omega) (show B + 1 ≤ rootZ n by omega); omega
    · exact k
theorem tdiv_bd {x B : Int} (m : Int) (h : -B ≤ x ∧ x ≤ B) : -B ≤ x.tdiv m ∧ x.tdiv m ≤ B := by
  have := Int.natAbs_tdiv_le_natAbs x m; omega

theorem fmul_comm (a b : Int) : fmul b a = fmul a b := by unfold fmul; rw [Int.mul_comm]
theorem fmul_fc (a b : Int) : fmul (fc a) (fc b) = fmul a b := by unfold fmul; rw [fc_fc, fc_fc]
theorem fmul_neg (a b : Int) : fmul (-a) b = -fmul a b := by
  unfold fmul; rw [fc_neg, Int.neg_mul, Int.neg_tdiv, fc_neg]
theorem fmul_one (a : Int) : fmul (fc a) 256 = fc a := by
  unfold fmul
  rw [fc_fc, show fc 256 = 256 from rfl, Int.mul_tdiv_cancel _ (by decide), fc_fc]
theorem fmul_zero (a : Int) : fmul a 0 = 0 := by
  unfold fmul
  rw [show fc 0 = 0 from rfl, Int.mul_zero]; rfl
theorem fmul_bd (a b : Int) : -1000000000 ≤ fmul a b ∧ fmul a b ≤ 1000000000 := fc_bd _

def absZ (n : Int) : Int := if n < 0 then -n else n
theorem absZ_nat (n : Int) : absZ n = (n.natAbs : Int) := by unfold absZ; split <;> omega
theorem fdiv_bd (a b : Int) : -1000000000 ≤ fdiv a b ∧ fdiv a b ≤ 1000000000 := by
  unfold fdiv; split <;> exact fc_bd _
/-- by 0 -/
theorem fdiv_zero {a b : Int} (h : fc b = 0) : (fc a = 0 ∧ fdiv a b = 0) ∨ (0 < fc a ∧ fdiv a b = 1000000000) ∨ (fc a < 0 ∧ fdiv a b = -1000000000) := by
  have ha := fc_bd a
  unfold fdiv; rw [if_pos h]
  rcases fc_cases (fc a * 1000000000) with h | h | h <;> omega
theorem fdiv_one (a : Int) : fdiv (fc a) 256 = fc a := by
  unfold fdiv
  rw [show fc 256 = 256 from rfl, if_neg (by decide), fc_fc, Int.mul_tdiv_cancel _ (by decide), fc_fc]
theorem abs_mul_le {q b x : Nat} {t : Nat} (h : x = q * b + t) (k : 1000000000 ≤ q) : b * 999999999 ≤ x := by
  have := Nat.mul_le_mul k (Nat.le_refl b); omega
theorem fdiv_full {a b : Int} (h : fc b ≠ 0) (k : absZ (fdiv a b) = 1000000000) : absZ (fc b) * 999999999 ≤ absZ (fc a) * 256 := by
  unfold fdiv at k; rw [if_neg h] at k
  have e : 1000000000 ≤ ((fc a * 256).tdiv (fc b)).natAbs := by
    rcases fc_cases ((fc a * 256).tdiv (fc b)) with h | h | h <;> (unfold absZ at k; split at k <;> omega)
  rw [Int.natAbs_tdiv] at e
  rw [absZ_nat, absZ_nat]
  have d := Nat.div_add_mod (fc a * 256).natAbs (fc b).natAbs
  have := abs_mul_le (q := (fc a * 256).natAbs / (fc b).natAbs) (b := (fc b).natAbs) (x := (fc a * 256).natAbs) (t := (fc a * 256).natAbs % (fc b).natAbs) (by rw [Nat.mul_comm]; exact d.symm) (by omega)
  omega
theorem fdiv_rest {a b : Int} (h : fc b ≠ 0) (k : absZ (fdiv a b) ≠ 1000000000) : fc a * 256 - fdiv a b * fc b = (fc a * 256).tmod (fc b) := by
  unfold fdiv at *; rw [if_neg h] at *
  have e : fc ((fc a * 256).tdiv (fc b)) = (fc a * 256).tdiv (fc b) := by
    rcases fc_cases ((fc a * 256).tdiv (fc b)) with h | h | h <;> (unfold absZ at k; split at k <;> omega)
  rw [e]
  have := Int.mul_tdiv_add_tmod (fc a * 256) (fc b)
  rw [Int.mul_comm (fc b)] at this
  omega
theorem absZ_bd {n B : Int} (h : -B ≤ n ∧ n ≤ B) : 0 ≤ absZ n ∧ absZ n ≤ B := by unfold absZ; split <;> omega
theorem tmod_abs (x : Int) {m : Int} (h : m ≠ 0) : absZ (x.tmod m) < absZ m := by
  rw [absZ_nat, absZ_nat, Int.natAbs_tmod]
  have := Nat.mod_lt x.natAbs (show 0 < m.natAbs by omega)
  omega
theorem tmod_sign (x m : Int) : x.tmod m = 0 ∨ (decide (x.tmod m < 0) = decide (x < 0)) := by
  by_cases h : x < 0
  · have e := Int.tmod_nonneg m (show 0 ≤ -x by omega)
    rw [Int.neg_tmod] at e
    by_cases k : x.tmod m = 0
    · exact .inl k
    · exact .inr (by rw [decide_eq_true h, decide_eq_true]; omega)
  · have e := Int.tmod_nonneg m (show 0 ≤ x by omega)
    exact .inr (by rw [decide_eq_false h, decide_eq_false]; omega)
def fsqrt (n : Int) : Int := rootZ (fc n * 256)
theorem fsqrt_le {n : Int} (h : fc n ≤ 0) : fsqrt n = 0 := by
  unfold fsqrt
  by_cases k : fc n * 256 < 0
  · exact rootZ_neg k
  · exact rootZ_of ⟨by omega, by omega, by omega⟩
end Go.Proofs.Ytbngdlbecdloiaa
namespace Go.Proofs.Ytbngdlbecdloiaa
open Go.RowKit
set_option linter.unusedVariables false

theorem ret_int {k : IntKind} {a b : Int} (h : a = b) : Ending.returned (.int k a) = .returned (.int k b) := by rw [h]
theorem ret_bool {a b : Bool} (h : a = b) : Ending.returned (.bool a) = .returned (.bool b) := by rw [h]
theorem w64 {n : Int} (h : -9223372036854775808 ≤ n ∧ n ≤ 9223372036854775807) : wrap64 n = n := by unfold wrap64; omega

theorem cset_same {w : World} {a : Addr} {u v : Value} (h : w.cell? a = some u) : (w.setCell a v).cell? a = some v := World.cell?_setCell_same _ _ _ h
theorem cset_far {w : World} {p a : Addr} {v : Value} (h : a.block ≠ p.block) : (w.setCell p v).cell? a = w.cell? a := World.cell?_of_block (Below.heap_setCell _ _ _ _ h)
theorem cset_other {w : World} {p a : Addr} {v : Value} (h : p ≠ a) : (w.setCell p v).cell? a = w.cell? a := World.cell?_setCell_other _ _ _ _ h
theorem calloc_old {w : World} {a : Addr} {o : Obj} (h : a.block < w.heap.size) : (w.alloc o).cell? a = w.cell? a := World.cell?_of_block (Below.heap_alloc _ _ _ h)
theorem falloc_old {w : World} {a : Addr} {o : Obj} (h : a.block < w.heap.size) : (w.alloc o).frozen? a = w.frozen? a := World.frozen?_of_block (Below.heap_alloc _ _ _ h)
theorem fset_far {w : World} {p a : Addr} {v : Value} (h : a.block ≠ p.block) : (w.setCell p v).frozen? a = w.frozen? a := World.frozen?_of_block (Below.heap_setCell _ _ _ _ h)
theorem cell_lt {w : World} {a : Addr} {v : Value} (h : w.cell? a = some v) : a.block < w.heap.size := by
  rcases Nat.lt_or_ge a.block w.heap.size with k | k
  · exact k
  · simp [World.cell?, Array.getElem?_eq_none k] at h

/-- All blocks that were there are as they were, but for block rb. -/
structure But (rb : Nat) (w w' : World) : Prop where
  os : w'.os = w.os
  tape : w'.tape = w.tape
  output : w'.output = w.output
  size : w.heap.size ≤ w'.heap.size
  block : ∀ k, k < w.heap.size → k ≠ rb → w'.heap[k]? = w.heap[k]?

theorem But.refl (rb : Nat) (w : World) : But rb w w := ⟨rfl, rfl, rfl, Nat.le_refl _, fun _ _ _ => rfl⟩
theorem But.trans {rb : Nat} {a b c : World} (h : But rb a b) (k : But rb b c) : But rb a c :=
  ⟨k.os.trans h.os, k.tape.trans h.tape, k.output.trans h.output, Nat.le_trans h.size k.size, fun i hi hn => (k.block i (Nat.lt_of_lt_of_le hi h.size) hn).trans (h.block i hi hn)⟩
theorem But.of_below {rb : Nat} {w w' : World} (h : Below w.heap.size w w') : But rb w w' := ⟨h.os, h.tape, h.output, h.size, fun k hk _ => h.block k hk⟩
theorem But.below {rb B : Nat} {w w' : World} (h : But rb w w') (hB : B ≤ rb) (hB' : B ≤ w.heap.size) : Below B w w' := ⟨h.os, h.tape, h.output, h.size, fun k hk => h.block k (by omega) (by omega)⟩
theorem But.alloc {rb : Nat} {a w : World} (h : But rb a w) (o : Obj) : But rb a (w.alloc o) :=
  h.trans ⟨rfl, rfl, rfl, by simp, fun k hk _ => Below.heap_alloc _ _ _ hk⟩
theorem But.setCell {rb : Nat} {a w : World} (h : But rb a w) {p : Addr} (hp : p.block = rb) (u : Value) : But rb a (w.setCell p u) :=
  h.trans ⟨rfl, rfl, rfl, by simp [World.setCell], fun k _ hn => Below.heap_setCell _ _ _ _ (by omega)⟩
theorem But.drewN {rb : Nat} {a w : World} (h : But rb a w) (n : Nat) : But rb a (w.drewN n) := ⟨h.os, h.tape, h.output, h.size, h.block⟩
theorem But.cell {rb : Nat} {w w' : World} (h : But rb w w') {p : Addr} (hp : p.block < w.heap.size) (hn : p.block ≠ rb) : w'.cell? p = w.cell? p := World.cell?_of_block (w := w) (h.block p.block hp hn)
theorem But.frozen {rb : Nat} {w w' : World} (h : But rb w w') {p : Addr} (hp : p.block < w.heap.size) (hn : p.block ≠ rb) : w'.frozen? p = w.frozen? p := World.frozen?_of_block (w := w) (h.block p.block hp hn)

theorem xor_nonneg {x y : Int} (h0 : 0 ≤ x) (h1 : x < 4611686018427387904) (k0 : 0 ≤ y) (k1 : y < 4611686018427387904) : 0 ≤ bits .xor .i64 x y := by
  obtain ⟨a, rfl⟩ := Int.eq_ofNat_of_zero_le h0
  obtain ⟨b, rfl⟩ := Int.eq_ofNat_of_zero_le k0
  have hx : a ^^^ b < 2 ^ 62 := Nat.xor_lt_two_pow (by omega) (by omega)
  have e1 : (BitVec.ofInt 64 (a : Int)).toNat = a := by
    rw [BitVec.ofInt_natCast, BitVec.toNat_ofNat]; exact Nat.mod_eq_of_lt (by omega)
  have e2 : (BitVec.ofInt 64 (b : Int)).toNat = b := by
    rw [BitVec.ofInt_natCast, BitVec.toNat_ofNat]; exact Nat.mod_eq_of_lt (by omega)
  show 0 ≤ IntKind.i64.wrap ((BitVec.ofInt 64 (a : Int) ^^^ BitVec.ofInt 64 (b : Int)).toNat : Int)
  rw [BitVec.toNat_xor, e1, e2]
  simp [IntKind.wrap, IntKind.bits, IntKind.signed]
  omega
section
variable {P : Program} {md : Region.Mode} {ops : Array Oper} {Q : Exit → Act → World → Prop} {S : World → Prop}
theorem tk (i : Nat) (oi : Oper) {v : Value} {fuel : Nat} {listed : Array Bool} {a : Act} {w : World} (hi : ops[i]? = some oi)
    (hc : (Region.noSelect ops && (Region.free md ops listed i && (Region.ready md ops listed).contains i)) = true)
    (hQ : ∀ c a w, Q (.panic c) (a.put oi.dst v) w → Q (.panic c) a w) (hw : Region.wanted oi (yielded ops a.tmps) = true) (hS : S w)
    (hv : ∀ w, S w → (execOp a.eval oi).run P w = .ok (.value v) w)
    (h : wpAnyH P md ops Q S fuel (listed.setIfInBounds i true) (a.put oi.dst v) w) : wpAnyH P md ops Q S (fuel + 1) listed a w := by
  simp only [Bool.and_eq_true] at hc
  exact wpAnyH_take hi hc.1 hc.2.1 hc.2.2 hQ (.inl ⟨hw, hv⟩) hS h
end
end Go.Proofs.Ytbngdlbecdloiaa
