/- Plain mathematics: bounds of products, clamping, roots. Small facts on memory: cells behind stores and new blocks; 'But': all is as it was but for one block. The contracts of the number functions of chapter 1, each for every argument of its domain. The contracts of the two roots. The contracts of the functions of chapter 2: ways. errors.As at an error that is a refusal. Slices of numbers, so many a thing: what lies where. Rows of numbers of one's own, appended to. A range over a function value with a bound receiver: the laws, whatever the program; and drawn regions within a round. -/
import Derived.Test.YthfodocnehahcaaGreatDoorRows
import Derived.WalkKit
import Derived.WalkSpells
import Derived.WalkLawsBesides
import Derived.OrdersHeld
import Derived.Deep.QuietTactic
import Derived.BigQuiet
import Derived.Deep.RegionWith
import Derived.LaidEql
import Derived.Stop.Asserts
import Derived.RowKitTokens
import Derived.Deep.RegionHeld3
import Derived.Deep.DeepCutAuto
import Derived.Deep.OwnRows
import Derived.Deep.AppendLies
import Derived.Deep.Upon
import Derived.Maps.AppendAt
import Derived.RangeFuncNested
import Derived.OrdersIn
import Derived.TacticsIn
namespace Go.Proofs.YthfodocnehahcaaGreatDoor

theorem mul_bd {a b A B : Int} (ha : -A ≤ a ∧ a ≤ A) (hb : -B ≤ b ∧ b ≤ B) : -(A * B) ≤ a * b ∧ a * b ≤ A * B := by
  have h1 := Int.mul_nonneg (show 0 ≤ A - a by omega) (show 0 ≤ B + b by omega)
  have h2 := Int.mul_nonneg (show 0 ≤ A + a by omega) (show 0 ≤ B - b by omega)
  have h3 := Int.mul_nonneg (show 0 ≤ A - a by omega) (show 0 ≤ B - b by omega)
  have h4 := Int.mul_nonneg (show 0 ≤ A + a by omega) (show 0 ≤ B + b by omega)
  simp only [Int.mul_add, Int.add_mul, Int.sub_mul, Int.mul_sub] at h1 h2 h3 h4
  omega

def clampZ (l n : Int) : Int := if n < -l then -l else if l < n then l else n

theorem clampZ_bd {l : Int} (n : Int) (h : 0 ≤ l) : -l ≤ clampZ l n ∧ clampZ l n ≤ l := by
  unfold clampZ; split
  · omega
  · split <;> omega
theorem clampZ_id {l n : Int} (h1 : -l ≤ n) (h2 : n ≤ l) : clampZ l n = n := by
  unfold clampZ; rw [if_neg (by omega), if_neg (by omega)]
theorem clampZ_neg {l : Int} (n : Int) (h : 0 ≤ l) : clampZ l (-n) = -clampZ l n := by
  unfold clampZ; repeat' split
  all_goals omega
theorem clampZ_lo {l n : Int} (h : n < -l) : clampZ l n = -l := by
  unfold clampZ; rw [if_pos h]
theorem clampZ_hi {l n : Int} (h0 : 0 ≤ l) (h : l < n) : clampZ l n = l := by
  unfold clampZ; rw [if_neg (by omega), if_pos h]

def FM : Int := 1000000000
def fc (n : Int) : Int := clampZ 1000000000 n
theorem fc_bd (n : Int) : -1000000000 ≤ fc n ∧ fc n ≤ 1000000000 := clampZ_bd n (by decide)
theorem fc_id {n : Int} (h1 : -1000000000 ≤ n) (h2 : n ≤ 1000000000) : fc n = n := clampZ_id h1 h2
theorem fc_fc (n : Int) : fc (fc n) = fc n := fc_id (fc_bd n).1 (fc_bd n).2
theorem fc_neg (n : Int) : fc (-n) = -fc n := clampZ_neg n (by decide)

theorem fc_cases (n : Int) : (n < -1000000000 ∧ fc n = -1000000000) ∨ (1000000000 < n ∧ fc n = 1000000000) ∨ (-1000000000 ≤ n ∧ n ≤ 1000000000 ∧ fc n = n) := by
  unfold fc clampZ; repeat' split
  all_goals omega
theorem fc_mul_bd (a b : Int) : -1000000000000000000 ≤ fc a * fc b ∧ fc a * fc b ≤ 1000000000000000000 := by
  have := mul_bd (fc_bd a) (fc_bd b); omega

/-- the product of two numbers -/
def fmul (a b : Int) : Int := fc ((fc a * fc b).tdiv 256)
/-- the quotient of two numbers -/
def fdiv (a b : Int) : Int := if fc b = 0 then fc (fc a * 1000000000) else fc ((fc a * 256).tdiv (fc b))

def IsRoot (n r : Int) : Prop := 0 ≤ r ∧ r * r ≤ n ∧ n < (r + 1) * (r + 1)

theorem sq_mono {a b : Int} (h0 : 0 ≤ a) (h : a ≤ b) : a * a ≤ b * b := Int.mul_le_mul h h h0 (by omega)
theorem IsRoot.uniq {n r s : Int} (h : IsRoot n r) (k : IsRoot n s) : r = s := by
  obtain ⟨a0, a1, a2⟩ := h
  obtain ⟨b0, b1, b2⟩ := k
  rcases Int.lt_trichotomy r s with h | h | h
  · have := sq_mono (show 0 ≤ r + 1 by omega) (show r + 1 ≤ s by omega); omega
  · exact h
  · have := sq_mono (show 0 ≤ s + 1 by omega) (show s + 1 ≤ r by omega); omega
/-- the greatest number whose square is not above n -/
def rootN : Nat → Nat
  | 0 => 0
  | n + 1 => if (rootN n + 1) * (rootN n + 1) ≤ n + 1 then rootN n + 1 else rootN n
theorem rootN_is (n : Nat) : rootN n * rootN n ≤ n ∧ n < (rootN n + 1) * (rootN n + 1) := by
  induction n with
  | zero => simp [rootN]
  | succ n ih =>
    obtain ⟨h1, h2⟩ := ih
    unfold rootN
    split
    · refine ⟨by assumption, ?_⟩
      simp only [Nat.mul_add, Nat.add_mul] at *
      omega
    · exact ⟨by omega, by omega⟩
/-- the same of an integer; 0 below 0 -/
def rootZ (n : Int) : Int := if n < 0 then 0 else (rootN n.toNat : Int)
theorem rootZ_neg {n : Int} (h : n < 0) : rootZ n = 0 := by unfold rootZ; rw [if_pos h]
theorem rootZ_is {n : Int} (h : 0 ≤ n) : IsRoot n (rootZ n) := by
  have e : rootZ n = (rootN n.toNat : Int) := by unfold rootZ; rw [if_neg (by omega)]
  obtain ⟨h1, h2⟩ := rootN_is n.toNat
  have k1 : ((rootN n.toNat * rootN n.toNat : Nat) : Int) ≤ (n.toNat : Int) := by exact_mod_cast h1
  have k2 : (n.toNat : Int) < (((rootN n.toNat + 1) * (rootN n.toNat + 1) : Nat) : Int) := by exact_mod_cast h2
  rw [Int.natCast_mul] at k1 k2
  rw [Int.natCast_add, Int.toNat_of_nonneg h] at k2
  rw [Int.toNat_of_nonneg h] at k1
  rw [e]
  exact ⟨Int.natCast_nonneg _, k1, k2⟩
theorem rootZ_of {n r : Int} (h : IsRoot n r) : rootZ n = r := by
  have h0 : 0 ≤ n := by obtain ⟨a, b, _⟩ := h; have := Int.mul_nonneg a a; omega
  exact IsRoot.uniq (rootZ_is h0) h
theorem rootZ_nonneg (n : Int) : 0 ≤ rootZ n := by
  by_cases h : n < 0
  · rw [rootZ_neg h]; omega
  · exact (rootZ_is (by omega)).1
/-- The root of what is below (B+1)² is at most B. -/
theorem rootZ_le {n B : Int} (hB : 0 ≤ B) (h : n < (B + 1) * (B + 1)) : rootZ n ≤ B := by
  by_cases h0 : n < 0
  · rw [rootZ_neg h0]; exact hB
  · obtain ⟨a, b, c⟩ := rootZ_is (show 0 ≤ n by omega)
    rcases Int.lt_or_le B (rootZ n) with k | k
    · have := sq_mono (show 0 ≤ B + 1 by omega) (show B + 1 ≤ rootZ n by omega); omega
    · exact k
theorem tdiv_bd {x B : Int} (m : Int) (h : -B ≤ x ∧ x ≤ B) : -B ≤ x.tdiv m ∧ x.tdiv m ≤ B := by
  have := Int.natAbs_tdiv_le_natAbs x m; omega

theorem fmul_comm (a b : Int) : fmul b a = fmul a b := by unfold fmul; rw [Int.mul_comm]
theorem fmul_fc (a b : Int) : fmul (fc a) (fc b) = fmul a b := by unfold fmul; rw [fc_fc, fc_fc]
theorem fmul_neg (a b : Int) : fmul (-a) b = -fmul a b := by
  unfold fmul; rw [fc_neg, Int.neg_mul, Int.neg_tdiv, fc_neg]
theorem fmul_one (a : Int) : fmul (fc a) 256 = fc a := by
  unfold fmul
  rw [fc_fc, show fc 256 = 256 from rfl, Int.mul_tdiv_cancel _ (by decide), fc_fc]
theorem fmul_zero (a : Int) : fmul a 0 = 0 := by
  unfold fmul
  rw [show fc 0 = 0 from rfl, Int.mul_zero]; rfl
theorem fmul_bd (a b : Int) : -1000000000 ≤ fmul a b ∧ fmul a b ≤ 1000000000 := fc_bd _

def absZ (n : Int) : Int := if n < 0 then -n else n
theorem absZ_nat (n : Int) : absZ n = (n.natAbs : Int) := by unfold absZ; split <;> omega
theorem fdiv_bd (a b : Int) : -1000000000 ≤ fdiv a b ∧ fdiv a b ≤ 1000000000 := by
  unfold fdiv; split <;> exact fc_bd _
/-- by 0 -/
theorem fdiv_zero {a b : Int} (h : fc b = 0) : (fc a = 0 ∧ fdiv a b = 0) ∨ (0 < fc a ∧ fdiv a b = 1000000000) ∨ (fc a < 0 ∧ fdiv a b = -1000000000) := by
  have ha := fc_bd a
  unfold fdiv; rw [if_pos h]
  rcases fc_cases (fc a * 1000000000) with h | h | h <;> omega
theorem fdiv_one (a : Int) : fdiv (fc a) 256 = fc a := by
  unfold fdiv
  rw [show fc 256 = 256 from rfl, if_neg (by decide), fc_fc, Int.mul_tdiv_cancel _ (by decide), fc_fc]
theorem abs_mul_le {q b x : Nat} {t : Nat} (h : x = q * b + t) (k : 1000000000 ≤ q) : b * 999999999 ≤ x := by
  have := Nat.mul_le_mul k (Nat.le_refl b); omega
theorem fdiv_full {a b : Int} (h : fc b ≠ 0) (k : absZ (fdiv a b) = 1000000000) : absZ (fc b) * 999999999 ≤ absZ (fc a) * 256 := by
  unfold fdiv at k; rw [if_neg h] at k
  have e : 1000000000 ≤ ((fc a * 256).tdiv (fc b)).natAbs := by
    rcases fc_cases ((fc a * 256).tdiv (fc b)) with h | h | h <;> (unfold absZ at k; split at k <;> omega)
  rw [Int.natAbs_tdiv] at e
  rw [absZ_nat, absZ_nat]
  have d := Nat.div_add_mod (fc a * 256).natAbs (fc b).natAbs
  have := abs_mul_le (q := (fc a * 256).natAbs / (fc b).natAbs) (b := (fc b).natAbs) (x := (fc a * 256).natAbs) (t := (fc a * 256).natAbs % (fc b).natAbs) (by rw [Nat.mul_comm]; exact d.symm) (by omega)
  omega
theorem fdiv_rest {a b : Int} (h : fc b ≠ 0) (k : absZ (fdiv a b) ≠ 1000000000) : fc a * 256 - fdiv a b * fc b = (fc a * 256).tmod (fc b) := by
  unfold fdiv at *; rw [if_neg h] at *
  have e : fc ((fc a * 256).tdiv (fc b)) = (fc a * 256).tdiv (fc b) := by
    rcases fc_cases ((fc a * 256).tdiv (fc b)) with h | h | h <;> (unfold absZ at k; split at k <;> omega)
  rw [e]
  have := Int.mul_tdiv_add_tmod (fc a * 256) (fc b)
  rw [Int.mul_comm (fc b)] at this
  omega
theorem absZ_bd {n B : Int} (h : -B ≤ n ∧ n ≤ B) : 0 ≤ absZ n ∧ absZ n ≤ B := by unfold absZ; split <;> omega
theorem tmod_abs (x : Int) {m : Int} (h : m ≠ 0) : absZ (x.tmod m) < absZ m := by
  rw [absZ_nat, absZ_nat, Int.natAbs_tmod]
  have := Nat.mod_lt x.natAbs (show 0 < m.natAbs by omega)
  omega
theorem tmod_sign (x m : Int) : x.tmod m = 0 ∨ (decide (x.tmod m < 0) = decide (x < 0)) := by
  by_cases h : x < 0
  · have e := Int.tmod_nonneg m (show 0 ≤ -x by omega)
    rw [Int.neg_tmod] at e
    by_cases k : x.tmod m = 0
    · exact .inl k
    · exact .inr (by rw [decide_eq_true h, decide_eq_true]; omega)
  · have e := Int.tmod_nonneg m (show 0 ≤ x by omega)
    exact .inr (by rw [decide_eq_false h, decide_eq_false]; omega)
def fsqrt (n : Int) : Int := rootZ (fc n * 256)
theorem fsqrt_le {n : Int} (h : fc n ≤ 0) : fsqrt n = 0 := by
  unfold fsqrt
  by_cases k : fc n * 256 < 0
  · exact rootZ_neg k
  · exact rootZ_of ⟨by omega, by omega, by omega⟩
end Go.Proofs.YthfodocnehahcaaGreatDoor
namespace Go.Proofs.YthfodocnehahcaaGreatDoor
open Go.RowKit
set_option linter.unusedVariables false

theorem ret_int {k : IntKind} {a b : Int} (h : a = b) : Ending.returned (.int k a) = .returned (.int k b) := by rw [h]
theorem ret_bool {a b : Bool} (h : a = b) : Ending.returned (.bool a) = .returned (.bool b) := by rw [h]
theorem w64 {n : Int} (h : -9223372036854775808 ≤ n ∧ n ≤ 9223372036854775807) : wrap64 n = n := by unfold wrap64; omega

theorem cset_same {w : World} {a : Addr} {u v : Value} (h : w.cell? a = some u) : (w.setCell a v).cell? a = some v := World.cell?_setCell_same _ _ _ h
theorem cset_far {w : World} {p a : Addr} {v : Value} (h : a.block ≠ p.block) : (w.setCell p v).cell? a = w.cell? a := World.cell?_of_block (Below.heap_setCell _ _ _ _ h)
theorem cset_other {w : World} {p a : Addr} {v : Value} (h : p ≠ a) : (w.setCell p v).cell? a = w.cell? a := World.cell?_setCell_other _ _ _ _ h
theorem calloc_old {w : World} {a : Addr} {o : Obj} (h : a.block < w.heap.size) : (w.alloc o).cell? a = w.cell? a := World.cell?_of_block (Below.heap_alloc _ _ _ h)
theorem falloc_old {w : World} {a : Addr} {o : Obj} (h : a.block < w.heap.size) : (w.alloc o).frozen? a = w.frozen? a := World.frozen?_of_block (Below.heap_alloc _ _ _ h)
theorem fset_far {w : World} {p a : Addr} {v : Value} (h : a.block ≠ p.block) : (w.setCell p v).frozen? a = w.frozen? a := World.frozen?_of_block (Below.heap_setCell _ _ _ _ h)
theorem cell_lt {w : World} {a : Addr} {v : Value} (h : w.cell? a = some v) : a.block < w.heap.size := by
  rcases Nat.lt_or_ge a.block w.heap.size with k | k
  · exact k
  · simp [World.cell?, Array.getElem?_eq_none k] at h

/-- All blocks that were there are as they were, but for block rb. -/
structure But (rb : Nat) (w w' : World) : Prop where
  os : w'.os = w.os
  tape : w'.tape = w.tape
  output : w'.output = w.output
  size : w.heap.size ≤ w'.heap.size
  block : ∀ k, k < w.heap.size → k ≠ rb → w'.heap[k]? = w.heap[k]?

theorem But.refl (rb : Nat) (w : World) : But rb w w := ⟨rfl, rfl, rfl, Nat.le_refl _, fun _ _ _ => rfl⟩
theorem But.trans {rb : Nat} {a b c : World} (h : But rb a b) (k : But rb b c) : But rb a c :=
  ⟨k.os.trans h.os, k.tape.trans h.tape, k.output.trans h.output, Nat.le_trans h.size k.size, fun i hi hn => (k.block i (Nat.lt_of_lt_of_le hi h.size) hn).trans (h.block i hi hn)⟩
theorem But.of_below {rb : Nat} {w w' : World} (h : Below w.heap.size w w') : But rb w w' := ⟨h.os, h.tape, h.output, h.size, fun k hk _ => h.block k hk⟩
theorem But.below {rb B : Nat} {w w' : World} (h : But rb w w') (hB : B ≤ rb) (hB' : B ≤ w.heap.size) : Below B w w' := ⟨h.os, h.tape, h.output, h.size, fun k hk => h.block k (by omega) (by omega)⟩
theorem But.alloc {rb : Nat} {a w : World} (h : But rb a w) (o : Obj) : But rb a (w.alloc o) :=
  h.trans ⟨rfl, rfl, rfl, by simp, fun k hk _ => Below.heap_alloc _ _ _ hk⟩
theorem But.setCell {rb : Nat} {a w : World} (h : But rb a w) {p : Addr} (hp : p.block = rb) (u : Value) : But rb a (w.setCell p u) :=
  h.trans ⟨rfl, rfl, rfl, by simp [World.setCell], fun k _ hn => Below.heap_setCell _ _ _ _ (by omega)⟩
theorem But.drewN {rb : Nat} {a w : World} (h : But rb a w) (n : Nat) : But rb a (w.drewN n) := ⟨h.os, h.tape, h.output, h.size, h.block⟩
theorem But.cell {rb : Nat} {w w' : World} (h : But rb w w') {p : Addr} (hp : p.block < w.heap.size) (hn : p.block ≠ rb) : w'.cell? p = w.cell? p := World.cell?_of_block (w := w) (h.block p.block hp hn)
theorem But.frozen {rb : Nat} {w w' : World} (h : But rb w w') {p : Addr} (hp : p.block < w.heap.size) (hn : p.block ≠ rb) : w'.frozen? p = w.frozen? p := World.frozen?_of_block (w := w) (h.block p.block hp hn)

theorem xor_nonneg {x y : Int} (h0 : 0 ≤ x) (h1 : x < 4611686018427387904) (k0 : 0 ≤ y) (k1 : y < 4611686018427387904) : 0 ≤ bits .xor .i64 x y := by
  obtain ⟨a, rfl⟩ := Int.eq_ofNat_of_zero_le h0
  obtain ⟨b, rfl⟩ := Int.eq_ofNat_of_zero_le k0
  have hx : a ^^^ b < 2 ^ 62 := Nat.xor_lt_two_pow (by omega) (by omega)
  have e1 : (BitVec.ofInt 64 (a : Int)).toNat = a := by
    rw [BitVec.ofInt_natCast, BitVec.toNat_ofNat]; exact Nat.mod_eq_of_lt (by omega)
  have e2 : (BitVec.ofInt 64 (b : Int)).toNat = b := by
    rw [BitVec.ofInt_natCast, BitVec.toNat_ofNat]; exact Nat.mod_eq_of_lt (by omega)
  show 0 ≤ IntKind.i64.wrap ((BitVec.ofInt 64 (a : Int) ^^^ BitVec.ofInt 64 (b : Int)).toNat : Int)
  rw [BitVec.toNat_xor, e1, e2]
  simp [IntKind.wrap, IntKind.bits, IntKind.signed]
  omega
section
variable {P : Program} {md : Region.Mode} {ops : Array Oper} {Q : Exit → Act → World → Prop} {S : World → Prop}
theorem tk (i : Nat) (oi : Oper) {v : Value} {fuel : Nat} {listed : Array Bool} {a : Act} {w : World} (hi : ops[i]? = some oi)
    (hc : (Region.noSelect ops && (Region.free md ops listed i && (Region.ready md ops listed).contains i)) = true)
    (hQ : ∀ c a w, Q (.panic c) (a.put oi.dst v) w → Q (.panic c) a w) (hw : Region.wanted oi (yielded ops a.tmps) = true) (hS : S w)
    (hv : ∀ w, S w → (execOp a.eval oi).run P w = .ok (.value v) w)
    (h : wpAnyH P md ops Q S fuel (listed.setIfInBounds i true) (a.put oi.dst v) w) : wpAnyH P md ops Q S (fuel + 1) listed a w := by
  simp only [Bool.and_eq_true] at hc
  exact wpAnyH_take hi hc.1 hc.2.1 hc.2.2 hQ (.inl ⟨hw, hv⟩) hS h
end
end Go.Proofs.YthfodocnehahcaaGreatDoor
namespace Go.Proofs.YthfodocnehahcaaGreatDoor
open Go.RowKit

theorem held_any (n l : Int) (w : World) (h0 : 0 ≤ l) (h1 : l ≤ 4000000000) :
    Calls Tryz.prog 109 #[.int .i64 n, .int .i64 l] w fun e w' => e = .returned (.int .i64 (clampZ l n)) ∧ w' = w := by
  go_enter Tryz.func109, Tryz.ntmps109
  go_wp2
  all_goals
    go_ret
    refine ⟨ret_int ?_, rfl⟩
    unfold clampZ
    repeat' split
    all_goals (repeat' split at *) <;> omega

theorem sFixClamp_any (n : Int) (w : World) :
    Calls Tryz.prog 86 #[.int .i64 n] w fun e w' => e = .returned (.int .i64 (fc n)) ∧ w' = w := by
  go_enter Tryz.func86, Tryz.ntmps86
  go_wp2
  all_goals
    go_ret
    refine ⟨ret_int ?_, rfl⟩
    unfold fc clampZ
    repeat' split
    all_goals omega

end Go.Proofs.YthfodocnehahcaaGreatDoor
namespace Go.Proofs.YthfodocnehahcaaGreatDoor
open Go.RowKit
set_option linter.unusedVariables false

theorem lt_of_sq {a b : Int} (hb : 0 ≤ b) (h : a * a < b * b) : a < b := by
  rcases Int.lt_or_le a b with k | k
  · exact k
  · have := sq_mono hb k; omega
theorem le_of_sq {a b : Int} (hb : 0 ≤ b) (h : a * a < (b + 1) * (b + 1)) : a ≤ b := by
  have := lt_of_sq (show 0 ≤ b + 1 by omega) h; omega
/-- the middle of two -/
theorem mid {l h : Int} (a : 0 ≤ l) (b : l + 1 < h) : l < (l + h) / 2 ∧ (l + h) / 2 < h := by omega

set_option maxHeartbeats 400000 in
theorem l1Root_any (n : Int) (w : World) (h0 : 0 ≤ n) (h1 : n ≤ 2000000000000000000) :
    Calls Tryz.prog 87 #[.int .i64 n] w fun e w' => e = .returned (.int .i64 (rootZ n)) ∧ w' = w := by
  go_enter Tryz.func87, Tryz.ntmps87
  go_wp2
  go_loop [4] (fun t => ∃ h : Int, 1 ≤ h ∧ h ≤ 2828427126 ∧ t = .int .i64 h) (fun t => (2828427126 - intOf t).toNat)
  case atStart => exact ⟨1, by omega, by omega, rfl⟩
  case round =>
    obtain ⟨h, a1, a2, rfl⟩ := hrel
    have hb := mul_bd (a := h) (b := h) (A := 2828427126) (B := 2828427126) (by omega) (by omega)
    obtain ⟨hb1, hb2⟩ := hb
    by_cases hc : h * h ≤ n
    · have hle : h ≤ 1414213563 := le_of_sq (by omega) (by omega)
      go_wp2
      go_round
      case rel => exact ⟨2 * h, by omega, by omega, rfl⟩
      case measure => simp [intOf]; omega
    · go_wp2
      go_loop [3, 4] (fun s t => ∃ l h : Int, 0 ≤ l ∧ l < h ∧ h ≤ 2828427126 ∧ l * l ≤ n ∧ n < h * h ∧ s = .int .i64 l ∧ t = .int .i64 h) (fun s t => (intOf t - intOf s).toNat)
      case atStart => exact ⟨0, h, by omega, by omega, by omega, by omega, by omega, rfl, rfl⟩
      case round =>
        obtain ⟨l, h, b0, b1, b2, b3, b4, rfl, rfl⟩ := hrel
        by_cases hd : 1 < h - l
        · have hm := mid b0 (show l + 1 < h by omega)
          have hb := mul_bd (a := (l + h) / 2) (b := (l + h) / 2) (A := 2828427126) (B := 2828427126) (by omega) (by omega)
          obtain ⟨hb1, hb2⟩ := hb
          obtain ⟨hm1, hm2⟩ := hm
          by_cases he : (l + h) / 2 * ((l + h) / 2) ≤ n
          · go_wp2
            go_round
            case rel => exact ⟨_, h, by omega, hm2, by omega, he, by omega, rfl, rfl⟩
            case measure => simp [intOf]; omega
          · go_wp2
            go_round
            case rel => exact ⟨l, _, by omega, hm1, by omega, b3, by omega, rfl, rfl⟩
            case measure => simp [intOf]; omega
        · have e : h = l + 1 := by omega
          go_wp2
          go_ret
          exact ⟨ret_int (rootZ_of ⟨b0, b3, by rw [← e]; exact b4⟩).symm, rfl⟩

def cellInt (w : World) (a : Addr) : Int := match w.cell? a with | some v => intOf v | none => 0
theorem cellInt_of {w : World} {a : Addr} {k : IntKind} {n : Int} (h : w.cell? a = some (.int k n)) : cellInt w a = n := by simp [cellInt, h, intOf]

set_option maxHeartbeats 400000 in
theorem narrow_any (B : Nat) (n l h : Int) (w : World) (hl : w.cell? ⟨B + 1, 0, none⟩ = some (.int .i64 l)) (hh : w.cell? ⟨B + 2, 0, none⟩ = some (.int .i64 h)) (hn : w.cell? ⟨B, 0, none⟩ = some (.int .i64 n))
    (fl : w.frozen? ⟨B + 1, 0, none⟩ = false) (fh : w.frozen? ⟨B + 2, 0, none⟩ = false) (a0 : 0 ≤ l) (a1 : l + 1 < h) (a2 : h ≤ 2147483648) :
    Calls Tryz.prog 111 #[.pointer (some ⟨B + 1, 0, none⟩), .pointer (some ⟨B + 2, 0, none⟩), .pointer (some ⟨B, 0, none⟩)] w fun e w' => ∃ l' h' : Int,
      e = .returned (.bool (decide (1 < h' - l'))) ∧ 0 ≤ l' ∧ l' < h' ∧ h' ≤ 2147483648 ∧ h' - l' < h - l ∧ (l' = l ∨ l' * l' ≤ n) ∧ (h' = h ∨ n < h' * h') ∧
      w'.cell? ⟨B + 1, 0, none⟩ = some (.int .i64 l') ∧ w'.cell? ⟨B + 2, 0, none⟩ = some (.int .i64 h') ∧ w'.cell? ⟨B, 0, none⟩ = some (.int .i64 n) ∧
      w'.frozen? ⟨B + 1, 0, none⟩ = false ∧ w'.frozen? ⟨B + 2, 0, none⟩ = false ∧ Below B w w' := by
  have hm := mid a0 a1
  have hb := mul_bd (a := (l + h) / 2) (b := (l + h) / 2) (A := 2147483648) (B := 2147483648) (by omega) (by omega)
  obtain ⟨hb1, hb2⟩ := hb
  obtain ⟨hm1, hm2⟩ := hm
  by_cases he : (l + h) / 2 * ((l + h) / 2) ≤ n
  · go_enter Tryz.func111, Tryz.ntmps111
    go_wp2
    go_ret
    exact ⟨(l + h) / 2, h, rfl, by omega, by omega, by omega, by omega, .inr he, .inl rfl, cset_same hl, by rw [cset_far (by simp)]; exact hh,
      by rw [cset_far (by simp)]; exact hn, by simpa using fl, by simpa using fh, (Below.refl _ _).setCell (by simp) _⟩
  · go_enter Tryz.func111, Tryz.ntmps111
    go_wp2
    go_ret
    exact ⟨l, (l + h) / 2, rfl, by omega, by omega, by omega, by omega, .inl rfl, .inr (by omega), by rw [cset_far (by simp)]; exact hl, cset_same hh,
      by rw [cset_far (by simp)]; exact hn, by simpa using fl, by simpa using fh, (Below.refl _ _).setCell (by simp) _⟩

set_option maxHeartbeats 400000 in
theorem root_any (n : Int) (w : World) (h1 : n ≤ 2000000000000000000) :
    Calls Tryz.prog 108 #[.int .i64 n] w fun e w' => e = .returned (.int .i64 (rootZ n)) ∧ Below w.heap.size w w' := by
  go_enter Tryz.func108, Tryz.ntmps108
  go_wp2
  go_loopw [] (fun wr => ∃ l h : Int, 0 ≤ l ∧ l + 1 < h ∧ h ≤ 2147483648 ∧ (l = 0 ∨ l * l ≤ n) ∧ n < h * h ∧
      wr.cell? ⟨w.heap.size + 1, 0, none⟩ = some (.int .i64 l) ∧ wr.cell? ⟨w.heap.size + 2, 0, none⟩ = some (.int .i64 h) ∧ wr.cell? ⟨w.heap.size, 0, none⟩ = some (.int .i64 n) ∧
      wr.frozen? ⟨w.heap.size + 1, 0, none⟩ = false ∧ wr.frozen? ⟨w.heap.size + 2, 0, none⟩ = false ∧ Below w.heap.size w wr)
    (fun wr => (cellInt wr ⟨w.heap.size + 2, 0, none⟩ - cellInt wr ⟨w.heap.size + 1, 0, none⟩).toNat)
  case atStart =>
    refine ⟨0, 2147483648, by omega, by omega, by omega, .inl rfl, by omega, ?_, ?_, ?_, ?_, ?_, ?_⟩
    iterate 5 go_simp
    exact (((Below.refl _ _).alloc (Nat.le_refl _) _).alloc (by simp) _).alloc (by simp; omega) _
  case round =>
    obtain ⟨l, h, a0, a1, a2, a3, a4, c1, c2, c0, f1, f2, hbel⟩ := hrel
    go_wp2_with (go_at_call 111; refine (narrow_any _ _ _ _ _ c1 c2 c0 f1 f2 a0 a1 a2).mono ?_; rintro e w1 ⟨l', h', rfl, b0, b1, b2, b3, b4, b5, d1, d2, d0, g1, g2, hb1⟩)
    · go_roundw
      case rel => exact ⟨l', h', by omega, by omega, by omega, by rcases b4 with rfl | k; exact a3; exact .inr k, by rcases b5 with rfl | k; exact a4; exact k, d1, d2, d0, g1, g2, hbel.trans hb1⟩
      case measure => simp only [cellInt_of c1, cellInt_of c2, cellInt_of d1, cellInt_of d2]; omega
    · go_ret
      refine ⟨ret_int ?_, hbel.trans hb1⟩
      have e : h' = l' + 1 := by omega
      have q4 : n < (l' + 1) * (l' + 1) := by rw [← e]; rcases b5 with rfl | k; exact a4; exact k
      have q3 : l' = 0 ∨ l' * l' ≤ n := by rcases b4 with rfl | k; exact a3; exact .inr k
      rcases q3 with rfl | q3
      · by_cases hn : n < 0
        · rw [rootZ_neg hn]
        · exact (rootZ_of ⟨by omega, by omega, q4⟩).symm
      · exact (rootZ_of ⟨b0, q3, q4⟩).symm

end Go.Proofs.YthfodocnehahcaaGreatDoor
namespace Go.Proofs.YthfodocnehahcaaGreatDoor
open Go.RowKit
set_option linter.unusedVariables false

theorem bcell {W w1 : World} (hb : Below W.heap.size W w1) : (∀ b o, b < W.heap.size → w1.cell? ⟨b, o, none⟩ = W.cell? ⟨b, o, none⟩) ∧ (∀ b o, b < W.heap.size → w1.frozen? ⟨b, o, none⟩ = W.frozen? ⟨b, o, none⟩) :=
  ⟨fun b o h => hb.cell (p := ⟨b, o, none⟩) h, fun b o h => hb.frozen (p := ⟨b, o, none⟩) h⟩
theorem blt {W w1 : World} (hb : Below W.heap.size W w1) : ∀ b, b < W.heap.size → b < w1.heap.size := fun b h => Nat.lt_of_lt_of_le h hb.size
theorem belowDrewN {B : Nat} {a w : World} (h : Below B a w) (n : Nat) : Below B a (w.drewN n) := ⟨h.os, h.tape, h.output, h.size, h.block⟩
/-- what a walk leaves is younger: found by its own text -/
theorem bel_a {B : Nat} {a w : World} (h : Below B a w := by repeat (first | with_reducible apply Below.refl | (with_reducible apply Below.setCell; rotate_left; focus (first | omega | (simp; done) | (simp; omega))) | (with_reducible apply Below.alloc; rotate_left; focus (first | omega | (simp; done) | (simp; omega))) | with_reducible apply Below.drew | with_reducible apply belowDrewN | (with_reducible apply Below.trans; rotate_left; with_reducible apply Below.mono; with_reducible assumption; focus (first | omega | (simp; done) | (simp; omega))))) : Below B a w := h

theorem cset_map (w : World) (a : Addr) (v : Value) : (w.setCell a v).cell? a = (w.cell? a).map fun _ => v := by
  cases h : w.cell? a with
  | some u => rw [cset_same h]; rfl
  | none =>
    simp only [World.cell?, World.setCell, Array.getElem?_modify, if_true] at *
    cases hb : w.heap[a.block]? with
    | none => simp
    | some o =>
      rw [hb] at h
      cases o with
      | cells c t fr =>
        by_cases hs : a.spot.isSome
        · simp [hs]
        · simp [hs] at h ⊢; omega
      | _ => simp

theorem i64w {n : Int} (h : -9223372036854775808 ≤ n ∧ n ≤ 9223372036854775807) : IntKind.i64.wrap n = n := by
  simp [IntKind.wrap, IntKind.bits, IntKind.signed]; omega
/-- how far two ways go together -/
def vdot (x y u v : Int) : Int := fc ((fc x * fc u + fc y * fc v).tdiv 256)
/-- how long a way is -/
def vl (x y : Int) : Int := clampZ 1000000000 (rootZ (x * x + y * y))
/-- a way made as long as 1 -/
def ux (x y : Int) : Int := if vl x y = 0 then 0 else (x * 256).tdiv (vl x y)
def uy (x y : Int) : Int := if vl x y = 0 then 256 else (y * 256).tdiv (vl x y)
theorem vl_bd (x y : Int) : 0 ≤ vl x y ∧ vl x y ≤ 1000000000 := by
  have h := rootZ_nonneg (x * x + y * y)
  have k := clampZ_bd (l := 1000000000) (rootZ (x * x + y * y)) (by decide)
  refine ⟨?_, k.2⟩
  unfold vl clampZ; repeat' split
  all_goals omega
theorem sq_bd {x y : Int} (hx : -1000000000 ≤ x ∧ x ≤ 1000000000) (hy : -1000000000 ≤ y ∧ y ≤ 1000000000) : 0 ≤ x * x + y * y ∧ x * x + y * y ≤ 2000000000000000000 := by
  have p := mul_bd hx hx
  have q := mul_bd hy hy
  have p0 : 0 ≤ x * x := by rcases Int.le_total 0 x with h | h; exact Int.mul_nonneg h h; exact Int.mul_nonneg_of_nonpos_of_nonpos h h
  have q0 : 0 ≤ y * y := by rcases Int.le_total 0 y with h | h; exact Int.mul_nonneg h h; exact Int.mul_nonneg_of_nonpos_of_nonpos h h
  omega

abbrev vv (x y : Int) : Value := .agg #[.int .i64 x, .int .i64 y]

theorem wayOf_any (x y : Int) (w : World) :
    Calls Tryz.prog 80 #[vv x y] w fun e w' => e = .returned (vv x y) ∧ Below w.heap.size w w' := by
  have hset := cset_map
  go_enter Tryz.func80, Tryz.ntmps80
  go_wp2
  exact bodyPost_ret (v := vv x y) (by simp [results, Tryz.results80, go_sem]) rfl ⟨rfl, bel_a⟩

theorem vec_any (x y : Int) (w : World) :
    Calls Tryz.prog 49 #[vv x y] w fun e w' => e = .returned (vv x y) ∧ Below w.heap.size w w' := by
  have hset := cset_map
  go_enter Tryz.func49, Tryz.ntmps49
  go_wp2
  exact bodyPost_ret (v := vv x y) (by simp [results, Tryz.results49, go_sem]) rfl ⟨rfl, bel_a⟩

theorem plus_any (x y u v : Int) (w : World) (hx : -4000000000 ≤ x ∧ x ≤ 4000000000) (hy : -4000000000 ≤ y ∧ y ≤ 4000000000) (hu : -4000000000 ≤ u ∧ u ≤ 4000000000) (hv : -4000000000 ≤ v ∧ v ≤ 4000000000) :
    Calls Tryz.prog 110 #[vv x y, vv u v] w fun e w' => e = .returned (vv (x + u) (y + v)) ∧ Below w.heap.size w w' := by
  have hset := cset_map
  go_enter Tryz.func110, Tryz.ntmps110
  go_wp2
  exact bodyPost_ret (v := vv (x + u) (y + v)) (by simp [results, Tryz.results110, go_sem]) rfl ⟨rfl, bel_a⟩

theorem less_any (x y u v : Int) (w : World) (hx : -4000000000 ≤ x ∧ x ≤ 4000000000) (hy : -4000000000 ≤ y ∧ y ≤ 4000000000) (hu : -4000000000 ≤ u ∧ u ≤ 4000000000) (hv : -4000000000 ≤ v ∧ v ≤ 4000000000) :
    Calls Tryz.prog 92 #[vv x y, vv u v] w fun e w' => e = .returned (vv (x - u) (y - v)) ∧ Below w.heap.size w w' := by
  have hset := cset_map
  go_enter Tryz.func92, Tryz.ntmps92
  go_wp2
  exact bodyPost_ret (v := vv (x - u) (y - v)) (by simp [results, Tryz.results92, go_sem]) rfl ⟨rfl, bel_a⟩

theorem products_any (x y u v : Int) (w : World) (hx : -1500000000 ≤ x ∧ x ≤ 1500000000) (hy : -1500000000 ≤ y ∧ y ≤ 1500000000) (hu : -1500000000 ≤ u ∧ u ≤ 1500000000) (hv : -1500000000 ≤ v ∧ v ≤ 1500000000) :
    Calls Tryz.prog 100 #[vv x y, vv u v] w fun e w' => e = .returned (.int .i64 (x * u + y * v)) ∧ Below w.heap.size w w' := by
  have p := mul_bd (a := x) (b := u) (A := 1500000000) (B := 1500000000) hx hu
  have q := mul_bd (a := y) (b := v) (A := 1500000000) (B := 1500000000) hy hv
  have hset := cset_map
  go_enter Tryz.func100, Tryz.ntmps100
  go_wp2
  go_ret
  exact ⟨rfl, bel_a⟩

def vokB (x y : Int) : Bool := decide (-1000000000 ≤ x ∧ x ≤ 1000000000 ∧ -1000000000 ≤ y ∧ y ≤ 1000000000)
def inB (l x y : Int) : Bool := decide (-l ≤ x ∧ x ≤ l ∧ -l ≤ y ∧ y ≤ l)
theorem within_any (n l : Int) (w : World) (h0 : 0 ≤ l) (h1 : l ≤ 4000000000) :
    Calls Tryz.prog 77 #[.int .i64 n, .int .i64 l] w fun e w' => e = .returned (.bool (decide (-l ≤ n ∧ n ≤ l))) ∧ w' = w := by
  go_enter Tryz.func77, Tryz.ntmps77
  go_wp2
  all_goals
    go_ret
    refine ⟨ret_bool ?_, rfl⟩
    first | (simp; omega) | (simp; done)
theorem within2_any (x y l : Int) (w : World) (h0 : 0 ≤ l) (h1 : l ≤ 4000000000) :
    Calls Tryz.prog 58 #[vv x y, .int .i64 l] w fun e w' => e = .returned (.bool (inB l x y)) ∧ Below w.heap.size w w' := by
  go_enter Tryz.func58, Tryz.ntmps58
  go_wp2_with (go_at_call 77; refine (within_any _ _ _ h0 h1).mono ?_; rintro e w' ⟨rfl, rfl⟩)

  all_goals
    go_ret
    refine ⟨ret_bool ?_, bel_a⟩
    unfold inB
    first | (simp; omega) | (simp [*]; done) | (simp at *; omega)
end Go.Proofs.YthfodocnehahcaaGreatDoor
namespace Go.Proofs.YthfodocnehahcaaGreatDoor
open Go.RowKit Go.Extern.Stop Go.Stop Go.Extern
set_option linter.unusedVariables false
set_option linter.unusedSimpArgs false
theorem rl_valPP (t : Addr) (w : World) : (ReflectliteValue.unpack (.iface 75 (.pointer (some t)))).run Tryz.prog w = .ok (.agg #[.pointer (some ⟨1, 75, none⟩), .pointer (some ⟨w.heap.size, 0, none⟩), .int .u64 150]) (w.alloc (.cells #[.pointer (some t)] 75)) := by kernel_rfl
theorem rl_valP (e : Addr) (w : World) : (ReflectliteValue.unpack (.iface 71 (.pointer (some e)))).run Tryz.prog w = .ok (.agg #[.pointer (some ⟨1, 71, none⟩), .pointer (some ⟨w.heap.size, 0, none⟩), .int .u64 150]) (w.alloc (.cells #[.pointer (some e)] 71)) := by kernel_rfl
theorem rl_type (a : Addr) (w : World) : (ReflectliteValue.methodAny (ReflectliteValue.valueError "reflectlite.Value.Type" 0) (fun t _ _ _ => ReflectliteType.toType t) #[.agg #[.pointer (some ⟨1, 75, none⟩), .pointer (some a), .int .u64 150]]).run Tryz.prog w = .ok (.iface 121 (.agg #[.pointer (some ⟨1, 75, none⟩)])) w := by kernel_rfl
theorem rl_mK (h : Value) (w : World) : (Go.method 307 121 (.agg #[h]) "Kind").run Tryz.prog w = .ok ((126, h)) w := by kernel_rfl
theorem rl_mE (h : Value) (w : World) : (Go.method 307 121 (.agg #[h]) "Elem").run Tryz.prog w = .ok ((140, .agg #[h])) w := by kernel_rfl
theorem rl_mI (h : Value) (w : World) : (Go.method 307 121 (.agg #[h]) "Implements").run Tryz.prog w = .ok ((141, .agg #[h])) w := by kernel_rfl
theorem rl_mA (h : Value) (w : World) : (Go.method 307 121 (.agg #[h]) "AssignableTo").run Tryz.prog w = .ok ((138, .agg #[h])) w := by kernel_rfl
theorem rl_kPP (w : World) : ((ReflectliteType.abiMethod fun t => (fun a : Nat => Value.int IntKind.u8 (a : Int)) <$> Rtype.kind t) #[.pointer (some ⟨1, 75, none⟩)]).run Tryz.prog w = .ok (.int .u8 22) w := by kernel_rfl
theorem rl_kP (w : World) : ((ReflectliteType.abiMethod fun t => (fun a : Nat => Value.int IntKind.u8 (a : Int)) <$> Rtype.kind t) #[.pointer (some ⟨1, 71, none⟩)]).run Tryz.prog w = .ok (.int .u8 22) w := by kernel_rfl
theorem rl_elem (w : World) : (ReflectliteType.method ReflectliteType.elem #[.agg #[.pointer (some ⟨1, 75, none⟩)]]).run Tryz.prog w = .ok (.iface 121 (.agg #[.pointer (some ⟨1, 71, none⟩)])) w := by kernel_rfl
theorem rl_impl (w : World) : (ReflectliteType.relation "Implements" ReflectliteType.implements_ #[.agg #[.pointer (some ⟨1, 71, none⟩)], .iface 121 (.agg #[.pointer (some ⟨1, 47, none⟩)])]).run Tryz.prog w = .ok (.bool true) w := by kernel_rfl
theorem rl_typeOf (v : Value) (w : World) : (ReflectliteType.typeOf #[.iface 71 v]).run Tryz.prog w = .ok (.iface 121 (.agg #[.pointer (some ⟨1, 71, none⟩)])) w := by kernel_rfl
theorem rl_asg (w : World) : (ReflectliteType.relation "AssignableTo" ReflectliteType.assignableTo #[.agg #[.pointer (some ⟨1, 71, none⟩)], .iface 121 (.agg #[.pointer (some ⟨1, 71, none⟩)])]).run Tryz.prog w = .ok (.bool true) w := by kernel_rfl
theorem rl_m (z : Sem Value) (f : TypeId → Addr → Nat → Nat → Sem Value) (v : Value) : ReflectliteValue.method z f #[v] = (do match ← ReflectliteValue.parts v with | none => z | some (t, a, fl) => f t a fl (fl % 32)) := rfl
theorem rl_partsPP (a : Addr) (w : World) : (ReflectliteValue.parts (.agg #[.pointer (some ⟨1, 75, none⟩), .pointer (some a), .int .u64 150])).run Tryz.prog w = .ok (some (75, a, 150)) w := by kernel_rfl
theorem rl_partsP (a : Addr) (w : World) : (ReflectliteValue.parts (.agg #[.pointer (some ⟨1, 71, none⟩), .pointer (some a), .int .u64 150])).run Tryz.prog w = .ok (some (71, a, 150)) w := by kernel_rfl
theorem rl_partsA (a : Addr) (w : World) : (ReflectliteValue.parts (.agg #[.pointer (some ⟨1, 71, none⟩), .pointer (some a), .int .u64 406])).run Tryz.prog w = .ok (some (71, a, 406)) w := by kernel_rfl
theorem rl_eOf (w : World) : (Rtype.elem? 75).run Tryz.prog w = .ok (some 71) w := by kernel_rfl
theorem rl_mk (p : Addr) (w : World) : (ReflectliteValue.mk 71 p ReflectliteValue.flagAddr).run Tryz.prog w = .ok (.agg #[.pointer (some ⟨1, 71, none⟩), .pointer (some p), .int .u64 406]) w := by kernel_rfl
theorem rl_dir (w : World) : (Rtype.directlyAssignable 71 71).run Tryz.prog w = .ok (true) w := by kernel_rfl
theorem rl_isNil (a p : Addr) (W : World) (ha : W.cell? a = some (.pointer (some p))) : (ReflectliteValue.method (ReflectliteValue.valueError "reflectlite.Value.IsNil" 0) ReflectliteValue.isNil #[.agg #[.pointer (some ⟨1, 75, none⟩), .pointer (some a), .int .u64 150]]).run Tryz.prog W = .ok (.bool false) W := by
  rw [rl_m]
  simp only [Sem.run_bind, rl_partsPP, Result.andThen]
  simp [ReflectliteValue.isNil, loadVar, isAgg, underlying, Tryz.underlying75, ha, Result.andThen]
theorem rl_elemV (a p : Addr) (W : World) (ha : W.cell? a = some (.pointer (some p))) : (ReflectliteValue.method (ReflectliteValue.valueError "reflectlite.Value.Elem" 0) ReflectliteValue.elem #[.agg #[.pointer (some ⟨1, 75, none⟩), .pointer (some a), .int .u64 150]]).run Tryz.prog W = .ok (.agg #[.pointer (some ⟨1, 71, none⟩), .pointer (some p), .int .u64 406]) W := by
  rw [rl_m]
  simp only [Sem.run_bind, rl_partsPP, Result.andThen]
  simp [ReflectliteValue.elem, loadVar, isAgg, underlying, Tryz.underlying75, ha, Result.andThen, rl_eOf, rl_mk]
theorem rl_two {motive : Array Value → Sort _} (v x : Value) (f : ∀ v x, motive #[v, x]) (g : ∀ a, motive a) : ReflectliteValue.set.match_3 motive #[v, x] f g = f v x := rfl
theorem rl_set (ta b e : Addr) (old : Value) (W : World) (hb : W.cell? b = some (.pointer (some e))) (ht : W.cell? ta = some old) (hf : W.frozen? ta = false) :
    (ReflectliteValue.set #[.agg #[.pointer (some ⟨1, 71, none⟩), .pointer (some ta), .int .u64 406], .agg #[.pointer (some ⟨1, 71, none⟩), .pointer (some b), .int .u64 150]]).run Tryz.prog W = .ok (.tuple #[]) (W.setCell ta (.pointer (some e))) := by
  delta ReflectliteValue.set
  rw [rl_two]
  simp only [Sem.run_bind, rl_partsA, rl_partsP, Result.andThen]
  simp [ReflectliteValue.flagAddr, loadVar, isAgg, underlying, Tryz.underlying71, hb, Result.andThen, rl_dir, storeVar, Value.cells, storeCells, Addr.add]
  rw [run_store Tryz.prog W ta _ _ (by rfl)]
  simp [ht, hf]
set_option maxHeartbeats 4000000 in
theorem as_refusal (e t : Addr) (old : Value) (w : World) (hg : w.cell? ⟨0, 0, none⟩ = some (.iface 121 (.agg #[.pointer (some ⟨1, 47, none⟩)]))) (ht0 : w.cell? t = some old) (hf0 : w.frozen? t = false) :
    Calls Tryz.prog 26 #[.iface 71 (.pointer (some e)), .iface 75 (.pointer (some t))] w fun ev w' => ev = .returned (.bool true) ∧ w' = ((((w.alloc (.cells #[.pointer (some t)] 75)).alloc (.cells #[.pointer (some ⟨1, 75, none⟩), .pointer (some ⟨w.heap.size, 0, none⟩), .int .u64 150] 94)).alloc (.cells #[.pointer (some ⟨1, 75, none⟩), .pointer (some ⟨w.heap.size, 0, none⟩), .int .u64 150] 94)).alloc (.cells #[.pointer (some e)] 71)).setCell t (.pointer (some e)) := by
  have h1 := @run_callFunc_extern Tryz.prog 40 _ (fun args => ReflectliteValue.unpack (args.getD 0 (.tuple #[]))) Tryz.func40 (by kernel_rfl) (by kernel_rfl) (by kernel_rfl) (by kernel_rfl)
  have h2 := @run_callFunc_extern Tryz.prog 41 _ (ReflectliteValue.methodAny (ReflectliteValue.valueError "reflectlite.Value.Type" 0) (fun t _ _ _ => ReflectliteType.toType t)) Tryz.func41 (by kernel_rfl) (by kernel_rfl) (by kernel_rfl) (by kernel_rfl)
  have h3 := @run_callFunc_extern Tryz.prog 42 _ (ReflectliteValue.method (ReflectliteValue.valueError "reflectlite.Value.IsNil" 0) ReflectliteValue.isNil) Tryz.func42 (by kernel_rfl) (by kernel_rfl) (by kernel_rfl) (by kernel_rfl)
  have h4 := @run_callFunc_extern Tryz.prog 126 _ (ReflectliteType.abiMethod fun t => do pure (.int .u8 (← Rtype.kind t))) Tryz.func126 (by kernel_rfl) (by kernel_rfl) (by kernel_rfl) (by kernel_rfl)
  have h5 := @run_callFunc_extern Tryz.prog 140 _ (ReflectliteType.method ReflectliteType.elem) Tryz.func140 (by kernel_rfl) (by kernel_rfl) (by kernel_rfl) (by kernel_rfl)
  have h6 := @run_callFunc_extern Tryz.prog 141 _ (ReflectliteType.relation "Implements" ReflectliteType.implements_) Tryz.func141 (by kernel_rfl) (by kernel_rfl) (by kernel_rfl) (by kernel_rfl)
  have h7 := @run_callFunc_extern Tryz.prog 64 _ (ReflectliteType.typeOf) Tryz.func64 (by kernel_rfl) (by kernel_rfl) (by kernel_rfl) (by kernel_rfl)
  have h8 := @run_callFunc_extern Tryz.prog 138 _ (ReflectliteType.relation "AssignableTo" ReflectliteType.assignableTo) Tryz.func138 (by kernel_rfl) (by kernel_rfl) (by kernel_rfl) (by kernel_rfl)
  have h9 := @run_callFunc_extern Tryz.prog 65 _ (ReflectliteValue.method (ReflectliteValue.valueError "reflectlite.Value.Elem" 0) ReflectliteValue.elem) Tryz.func65 (by kernel_rfl) (by kernel_rfl) (by kernel_rfl) (by kernel_rfl)
  have h10 := @run_callFunc_extern Tryz.prog 66 _ (ReflectliteValue.set) Tryz.func66 (by kernel_rfl) (by kernel_rfl) (by kernel_rfl) (by kernel_rfl)
  have k0 := rl_typeOf
  have k1 := rl_mA
  have k2 := rl_asg
  have k3 := rl_valP
  have k4 := rl_valPP
  have k5 := rl_type
  have k6 := rl_mK
  have k7 := rl_mE
  have k8 := rl_mI
  have k9 := rl_kPP
  have k10 := rl_kP
  have k11 := rl_elem
  have k12 := rl_impl
  have n8 := rl_isNil ⟨w.heap.size, 0, none⟩ t ((w.alloc (.cells #[.pointer (some t)] 75)).alloc (.cells #[.pointer (some ⟨1, 75, none⟩), .pointer (some ⟨w.heap.size, 0, none⟩), .int .u64 150] 94)) (by simp)
  have hlt : 0 < w.heap.size := by
    rcases Nat.eq_zero_or_pos w.heap.size with h0 | h
    · simp [World.cell?, h0] at hg
    · exact h
  have hg2 : ((w.alloc (.cells #[.pointer (some t)] 75)).alloc (.cells #[.pointer (some ⟨1, 75, none⟩), .pointer (some ⟨w.heap.size, 0, none⟩), .int .u64 150] 94)).cell? ⟨0, 0, none⟩ = some (.iface 121 (.agg #[.pointer (some ⟨1, 47, none⟩)])) := by
    rw [World.cell?_alloc_lt _ _ ⟨0, 0, none⟩ (by simp), World.cell?_alloc_lt _ _ ⟨0, 0, none⟩ hlt]; exact hg
  have htl : t.block < w.heap.size := by
    rcases Nat.lt_or_ge t.block w.heap.size with h | h
    · exact h
    · simp [World.cell?, Array.getElem?_eq_none h] at ht0
  have el := rl_elemV ⟨w.heap.size, 0, none⟩ t (((w.alloc (.cells #[.pointer (some t)] 75)).alloc (.cells #[.pointer (some ⟨1, 75, none⟩), .pointer (some ⟨w.heap.size, 0, none⟩), .int .u64 150] 94)).alloc (.cells #[.pointer (some ⟨1, 75, none⟩), .pointer (some ⟨w.heap.size, 0, none⟩), .int .u64 150] 94)) (by rw [World.cell?_alloc_lt _ _ ⟨w.heap.size, 0, none⟩ (by simp; omega)]; simp)
  have st := rl_set t ⟨w.heap.size + 1 + 1 + 1, 0, none⟩ e old ((((w.alloc (.cells #[.pointer (some t)] 75)).alloc (.cells #[.pointer (some ⟨1, 75, none⟩), .pointer (some ⟨w.heap.size, 0, none⟩), .int .u64 150] 94)).alloc (.cells #[.pointer (some ⟨1, 75, none⟩), .pointer (some ⟨w.heap.size, 0, none⟩), .int .u64 150] 94)).alloc (.cells #[.pointer (some e)] 71))
    (by rw [World.cell?_alloc_at _ _ _ _ (by simp)]; rfl)
    (by rw [World.cell?_alloc_lt _ _ t (by simp; omega), World.cell?_alloc_lt _ _ t (by simp; omega), World.cell?_alloc_lt _ _ t (by simp; omega), World.cell?_alloc_lt _ _ t htl]; exact ht0)
    (by rw [World.frozen?_alloc_old _ _ t (by simp; omega), World.frozen?_alloc_old _ _ t (by simp; omega), World.frozen?_alloc_old _ _ t (by simp; omega), World.frozen?_alloc_old _ _ t (Nat.ne_of_lt htl)]; exact hf0)
  go_enter Tryz.func26, Tryz.ntmps26
  go_wp2
  refine wp_loop_rounds 1 ?_
  rw [rounds_succ]
  go_wp2
  go_ret
  exact ⟨rfl, rfl⟩
set_option maxHeartbeats 4000000 in
theorem as_nil (x : Value) (w : World) : Calls Tryz.prog 26 #[.nilIface, x] w fun e w' => e = .returned (.bool false) ∧ w' = w := by
  go_enter Tryz.func26, Tryz.ntmps26
  go_wp2
  go_ret
  exact ⟨rfl, rfl⟩
theorem refused_nil (w : World) : Calls Tryz.prog 17 #[.nilIface] w fun e w' => e = .returned (.bool false) ∧ Below w.heap.size w w' := by
  go_enter Tryz.func17, Tryz.ntmps17
  go_wp2_with (go_at_call 26; refine (as_nil _ _).mono ?_; rintro e w1 ⟨rfl, rfl⟩)
  go_ret
  exact ⟨rfl, (Below.refl _ _).alloc (Nat.le_refl _) _⟩
set_option maxHeartbeats 4000000 in
theorem refused_yes (e : Addr) (w : World) (hg : w.cell? ⟨0, 0, none⟩ = some (.iface 121 (.agg #[.pointer (some ⟨1, 47, none⟩)]))) : Calls Tryz.prog 17 #[.iface 71 (.pointer (some e))] w fun e w' => e = .returned (.bool true) ∧ Below w.heap.size w w' := by
  have hlt : 0 < w.heap.size := by
    rcases Nat.eq_zero_or_pos w.heap.size with h0 | h
    · simp [World.cell?, h0] at hg
    · exact h
  have hg1 : (w.alloc (.cells #[.pointer none] 71)).cell? ⟨0, 0, none⟩ = some (.iface 121 (.agg #[.pointer (some ⟨1, 47, none⟩)])) := by rw [World.cell?_alloc_lt _ _ ⟨0, 0, none⟩ hlt]; exact hg
  go_enter Tryz.func17, Tryz.ntmps17
  go_wp2_with (go_at_call 26; refine (as_refusal e ⟨w.heap.size, 0, none⟩ (.pointer none) _ hg1 (by go_simp) (by go_simp)).mono ?_; rintro e w1 ⟨rfl, rfl⟩)
  go_ret
  exact ⟨rfl, bel_a⟩
end Go.Proofs.YthfodocnehahcaaGreatDoor
namespace Go.Proofs.YthfodocnehahcaaGreatDoor
open Go.RowKit
set_option linter.unusedVariables false
set_option linter.unusedSimpArgs false
/-- a slice's cells are the numbers U -/
def Flat (w : World) (a : Option Addr) (m : Nat) (U : Nat → Int) : Prop :=
  0 < m → ∃ b o, a = some ⟨b, o, none⟩ ∧ b < w.heap.size ∧ ∀ q, q < m → w.cell? ⟨b, o + q, none⟩ = some (.int .i64 (U q))
theorem Flat.below {w w' : World} {a : Option Addr} {m : Nat} {U : Nat → Int} (h : Flat w a m U) (hb : Below w.heap.size w w') : Flat w' a m U := by
  intro h0
  obtain ⟨b, o, e, l, c⟩ := h h0
  exact ⟨b, o, e, Nat.lt_of_lt_of_le l hb.size, fun q hq => (hb.cell (p := ⟨b, o + q, none⟩) l).trans (c q hq)⟩
theorem Flat.nil {w : World} {a : Option Addr} {U : Nat → Int} : Flat w a 0 U := fun h => absurd h (Nat.lt_irrefl 0)
/-- a block of m numbers -/
def Row (w : World) (b : Nat) (t : TypeId) (m : Nat) (U : Nat → Int) : Prop := w.rowIs b t m (fun q => .int .i64 (U q))
theorem Row.flat {w : World} {b t m : Nat} {U : Nat → Int} (h : Row w b t m U) : Flat w (some ⟨b, 0, none⟩) m U := by
  intro _
  exact ⟨b, 0, rfl, World.rowIs.lt h, fun q hq => by rw [Nat.zero_add]; exact World.rowIs.cell h hq⟩
theorem Row.cell {w : World} {b t m : Nat} {U : Nat → Int} (h : Row w b t m U) {q : Nat} (hq : q < m) : w.cell? ⟨b, q, none⟩ = some (.int .i64 (U q)) := World.rowIs.cell h hq
theorem Row.fro {w : World} {b t m : Nat} {U : Nat → Int} (h : Row w b t m U) (q : Nat) : w.frozen? ⟨b, q, none⟩ = false := World.rowIs.frozen h q
theorem Row.lt {w : World} {b t m : Nat} {U : Nat → Int} (h : Row w b t m U) : b < w.heap.size := World.rowIs.lt h
theorem Row.congr {w : World} {b t m : Nat} {U V : Nat → Int} (h : Row w b t m U) (e : ∀ q, q < m → U q = V q) : Row w b t m V := World.rowIs.congr h fun q hq => by simp only [e q hq]
theorem Row.below {w w' : World} {b t m : Nat} {U : Nat → Int} (h : Row w b t m U) (hb : Below w.heap.size w w') : Row w' b t m U := World.rowIs.of_block h (hb.block _ h.lt)
theorem Row.set {w : World} {b t m : Nat} {U : Nat → Int} (h : Row w b t m U) (i : Nat) (v : Int) : Row (w.setCell ⟨b, i, none⟩ (.int .i64 v)) b t m (fun q => if q = i then v else U q) :=
  World.rowIs.congr (World.rowIs.set h i (.int .i64 v)) fun q _ => by by_cases e : q = i <;> simp [e]
theorem Row.setO {w : World} {b t m : Nat} {U : Nat → Int} (h : Row w b t m U) {a : Addr} (ha : b ≠ a.block) (v : Value) : Row (w.setCell a v) b t m U := World.rowIs.setOther h ha v
theorem Row.alloc {w : World} {b t m : Nat} {U : Nat → Int} (h : Row w b t m U) (o : Obj) : Row (w.alloc o) b t m U := World.rowIs.alloc h o
theorem Row.drew {w : World} {b t m : Nat} {U : Nat → Int} (h : Row w b t m U) : Row w.drew b t m U := h
/-- what make lays, things of k numbers -/
theorem Row.made (w : World) (z : Array Value) (m : Nat) (t : TypeId) (hz : ∀ q, q < z.size → z[q]? = some (.int .i64 0)) (h0 : 0 < z.size) : Row (w.alloc (.cells (madeCells z m) t)) w.heap.size t m (fun _ => 0) := by
  refine ⟨_, Go.Deep.blk_alloc_new _ _, size_madeCells _ _, fun i hi => ?_⟩
  have hlt : i % z.size < z.size := Nat.mod_lt _ h0
  have h := hz _ hlt
  rw [Array.getElem?_eq_getElem hlt] at h
  simp only [Option.some.injEq] at h
  simp [madeCells, hi, hlt, h]
theorem make_rows {P : Program} (t e : TypeId) (z : Value) (k bytes : Nat) (ht : P.underlying t = some (.slice e)) (hinfo : (P.info? e).map (fun i => (i.zero, i.size, i.bytes)) = some (some z, k, bytes))
    (kl kc : IntKind) (n : Nat) (hbytes : bytes * n ≤ 281474976710656) (h63 : n ≤ 9223372036854775807) (w : World) :
    (Instr.makeSlice t (.int kl (n : Int)) (.int kc (n : Int))).run P w = .ok (.slice (some ⟨w.heap.size, 0, none⟩) n n) (w.alloc (.cells (madeCells z.cells (n * k)) e)) := by
  obtain ⟨i, hi, hzz⟩ := Option.map_eq_some_iff.1 hinfo
  simp only [Prod.mk.injEq] at hzz
  obtain ⟨hz, hs, hb⟩ := hzz
  have hb' : (i.bytes : Int) * (n : Int) ≤ 281474976710656 := by
    have h : ((i.bytes * n : Nat) : Int) ≤ 281474976710656 := by rw [hb]; omega
    rwa [Int.natCast_mul] at h
  have hr := run_make (P := P) w t e i z ht hi hz kl kc n n (by omega) (Int.le_refl _) hb' (by omega)
  simp only [Int.toNat_natCast, hs] at hr
  exact hr
theorem Row.madek (w : World) (z : Array Value) (k m : Nat) (t : TypeId) (hz : z = Array.replicate k (.int .i64 0)) (h0 : 0 < k) (U : Nat → Int) : Row (w.alloc (.cells (madeCells z m) t)) w.heap.size t m (fun q => if q < 0 then U q else 0) := by
  subst hz
  refine (Row.made w _ _ _ (fun q hq => ?_) (by simpa using h0)).congr fun q _ => by simp
  rw [Array.size_replicate] at hq
  simp [hq]
/-- filled up to p -/
abbrev upto (p : Nat) (U : Nat → Int) : Nat → Int := fun q => if q < p then U q else 0
theorem Row.next {w : World} {b t m p : Nat} {U : Nat → Int} (h : Row w b t m (upto p U)) : Row (w.setCell ⟨b, p, none⟩ (.int .i64 (U p))) b t m (upto (p + 1) U) :=
  (h.set p (U p)).congr fun q _ => by
    by_cases e : q = p
    · subst e; simp [upto]
    · simp only [upto, if_neg e]
      by_cases l : q < p
      · rw [if_pos l, if_pos (by omega)]
      · rw [if_neg l, if_neg (by omega)]
theorem Row.full {w : World} {b t m p : Nat} {U : Nat → Int} (h : Row w b t m (upto p U)) (hp : m ≤ p) : Row w b t m U := h.congr fun q hq => by simp only [upto]; rw [if_pos (by omega)]
theorem Row.zero {w : World} {b t m : Nat} {U : Nat → Int} (h : Row w b t m (fun _ => 0)) : Row w b t m (upto 0 U) := h.congr fun q hq => by simp [upto]
theorem Row.cut {w : World} {b t m p r : Nat} {U : Nat → Int} (h : Row w b t m (upto p U)) (e : p = r) : Row w b t m (upto r U) := e ▸ h
end Go.Proofs.YthfodocnehahcaaGreatDoor
namespace Go.Proofs.YthfodocnehahcaaGreatDoor
open Go.RowKit
set_option linter.unusedVariables false
set_option linter.unusedSimpArgs false
def numL (m : Nat) (U : Nat → Int) : List Value := (List.range m).map fun q => Value.int .i64 (U q)
theorem numL_len (m : Nat) (U : Nat → Int) : (numL m U).length = m := by simp [numL]
theorem numL_get {m : Nat} {U : Nat → Int} {q : Nat} (h : q < m) : (numL m U)[q]? = some (.int .i64 (U q)) := by simp [numL, h]
/-- the one behind the other -/
def cat (p : Nat) (U X : Nat → Int) : Nat → Int := fun q => if q < p then U q else X (q - p)
theorem numL_cat (p r : Nat) (U X : Nat → Int) : numL p U ++ numL r X = numL (p + r) (cat p U X) := by
  apply List.ext_getElem?
  intro q
  by_cases h : q < p
  · rw [List.getElem?_append_left (by rw [numL_len]; exact h), numL_get h, numL_get (by omega)]; simp [cat, h]
  · rw [List.getElem?_append_right (by rw [numL_len]; omega), numL_len]
    by_cases h2 : q < p + r
    · rw [numL_get (by omega), numL_get h2]; simp [cat, h]
    · rw [List.getElem?_eq_none (by rw [numL_len]; omega), List.getElem?_eq_none (by rw [numL_len]; omega)]
/-- a row of n things of k numbers, its block not below base, and nobody else's -/
def OwnL (w : World) (base t k : Nat) (v : Value) (n : Nat) (U : Nat → Int) : Prop := w.ownsRow base t k v n (numL (n * k) U)
theorem OwnL.nil (w : World) (base t k : Nat) (U : Nat → Int) : OwnL w base t k (.slice none 0 0) 0 U := by
  unfold OwnL; rw [Nat.zero_mul]; exact World.ownsRow_nil w base t k
theorem OwnL.flat {w : World} {base t k n : Nat} {a : Option Addr} {c : Nat} {U : Nat → Int} (h : OwnL w base t k (.slice a n c) n U) : Flat w a (n * k) U := by
  intro h0
  rcases h.2 with ⟨hv, hn⟩ | ⟨g, cap, cur, hv, hb, hg, hle, hm, hs, ht⟩
  · subst hn; omega
  · simp only [Value.slice.injEq] at hv
    obtain ⟨rfl, _, rfl⟩ := hv
    have hlt : g < w.heap.size := (Array.getElem?_eq_some_iff.1 hg).1
    refine ⟨g, 0, rfl, hlt, fun q hq => ?_⟩
    have := World.ownsRow.cells h (g := g) rfl q _ (numL_get hq)
    rw [Addr.add_lit] at this
    exact this
theorem OwnL.congr {w : World} {base t k n : Nat} {v : Value} {U V : Nat → Int} (h : OwnL w base t k v n U) (e : ∀ q, q < n * k → U q = V q) : OwnL w base t k v n V := by
  unfold OwnL at *
  rw [show numL (n * k) V = numL (n * k) U from List.map_congr_left fun q hq => by rw [e q (List.mem_range.1 hq)]]
  exact h
theorem OwnL.kept {w w' : World} {base t k n : Nat} {v : Value} {U : Nat → Int} {row : Option Nat} (h : OwnL w base t k v n U) (hg : w.grownBy w' row) (hne : v.ownBlock = none ∨ v.ownBlock ≠ row) : OwnL w' base t k v n U := World.ownsRow.kept h hg hne
theorem below_grown {B : Nat} {w w' : World} (h : Below B w w') : B = w.heap.size → w.grownBy w' none := fun e => ⟨h.os, h.tape, h.output, h.size, fun k hk _ => h.block k (e ▸ hk)⟩
theorem OwnL.below {w w' : World} {base t k n : Nat} {v : Value} {U : Nat → Int} (h : OwnL w base t k v n U) (hb : Below w.heap.size w w') : OwnL w' base t k v n U := by
  have hg := below_grown hb rfl
  cases e : v.ownBlock with
  | none => exact World.ownsRow.kept h hg (.inl e)
  | some b => exact World.ownsRow.kept h hg (.inr (by rw [e]; simp))
theorem OwnL.lt {w : World} {base t k n : Nat} {v : Value} {U : Nat → Int} (h : OwnL w base t k v n U) : ∀ b, v.ownBlock = some b → base ≤ b ∧ b < w.heap.size := World.ownsRow.lt h
theorem OwnL.is {w : World} {base t k n : Nat} {v : Value} {U : Nat → Int} (h : OwnL w base t k v n U) : ∃ a c, v = .slice a n c := by
  rcases h.2 with ⟨hv, hn⟩ | ⟨g, cap, cur, hv, _⟩
  · exact ⟨none, 0, by rw [hv, hn]⟩
  · exact ⟨_, _, hv⟩
theorem OwnL.le {w : World} {base t k n : Nat} {a : Option Addr} {c : Nat} {U : Nat → Int} (h : OwnL w base t k (.slice a n c) n U) : n ≤ c := by
  rcases h.2 with ⟨hv, hn⟩ | ⟨g, cap, cur, hv, _, _, hle, _⟩
  · simp only [Value.slice.injEq] at hv; omega
  · simp only [Value.slice.injEq] at hv; omega
theorem Row.own {w : World} {b t n k base : Nat} {U : Nat → Int} (h : Row w b t (n * k) U) (hb : base ≤ b) (hn : n ≤ maxLen) : OwnL w base t k (.slice (some ⟨b, 0, none⟩) n n) n U := by
  obtain ⟨c, hc, hs, hv⟩ := h
  refine ⟨by rw [numL_len], .inr ⟨b, n, c, rfl, hb, hc, Nat.le_refl _, hn, hs, ?_⟩⟩
  apply List.ext_getElem?
  intro q
  by_cases hq : q < n * k
  · rw [List.getElem?_take, if_pos hq, numL_get hq, ← hv q hq]; simp
  · rw [List.getElem?_eq_none (by simp; omega), List.getElem?_eq_none (by rw [numL_len]; omega)]
theorem OwnL.base {w : World} {base t k n : Nat} {v : Value} {U : Nat → Int} {B : Nat} (h : OwnL w base t k v n U) (hB : B ≤ base) : OwnL w B t k v n U := by
  refine ⟨h.1, ?_⟩
  rcases h.2 with q | ⟨g, cap, cur, hv, hb, rest⟩
  · exact .inl q
  · exact .inr ⟨g, cap, cur, hv, by omega, rest⟩
/-- APPEND -/
theorem run_app {P : Program} (base t ty e k bytes : Nat) (z : Value) (ht : P.underlying t = some (.slice e)) (hinfo : (P.info? e).map (fun i => (i.zero, i.size, i.bytes)) = some (some z, k, bytes)) (hzs : z.cells.size = k) (hk : 0 < k)
    (w : World) (v : Value) (n : Nat) (U : Nat → Int) (h : OwnL w base e k v n U) (a : Option Addr) (m c : Nat) (X : Nat → Int) (hx : Flat w a (m * k) X)
    (h63 : n + m ≤ maxLen) (hbytes : (n + m) * bytes ≤ 140737488355328) (hbase : base ≤ w.heap.size) :
    ∃ a' c' w', (Builtin.append_ #[t, t] ty #[v, .slice a m c]).run P w = .ok (.slice a' (n + m) c') w' ∧ OwnL w' base e k (.slice a' (n + m) c') (n + m) (cat (n * k) U X) ∧ w.grownBy w' v.ownBlock := by
  obtain ⟨i, hi, hzz⟩ := Option.map_eq_some_iff.1 hinfo
  simp only [Prod.mk.injEq] at hzz
  obtain ⟨hz, hs, hb⟩ := hzz
  by_cases h0 : m = 0
  · subst h0
    obtain ⟨a0, c0, rfl⟩ := h.is
    have hle := h.le
    have hnone : Src P i.size t (.slice a 0 c) 0 [] w := by
      cases a with
      | none => exact Src.ofNil w ht c
      | some ad => exact Src.ofSlice w ht ad 0 c [] (by simp) (fun j u hu => by simp at hu) (fun _ hu => by cases hu)
    refine ⟨a0, c0, w, run_append_nothing w t t ty e i ht hi a0 n c0 hle _ hnone, h.congr fun q hq => by simp [cat, hq], ?_⟩
    exact ⟨rfl, rfl, rfl, Nat.le_refl _, fun _ _ _ => rfl⟩
  · obtain ⟨b, o, rfl, hbl, hc⟩ := hx (Nat.mul_pos (by omega) hk)
    obtain ⟨g, cap, w', hr, h2, h3, _⟩ := run_append_lies (P := P) w t ty base e i z k bytes ht hi hz hs hb hzs hk v n (numL (n * k) U) h ⟨b, o, none⟩ m c (numL (m * k) X) (numL_len _ _)
      (fun j u hu => by
        have hj : j < m * k := by have := (List.getElem?_eq_some_iff.1 hu).1; rwa [numL_len] at this
        rw [numL_get hj] at hu
        rw [Addr.add_lit, hc j hj]; exact hu)
      (fun u hu => by obtain ⟨q, _, rfl⟩ := List.mem_map.1 hu; rfl) (by omega) h63 hbytes hbase _ rfl
    refine ⟨_, _, w', hr, ?_, h3⟩
    unfold OwnL
    rw [Nat.add_mul, ← numL_cat]
    exact h2
section
variable {P : Program} {ops : Array Oper} {o : Oper} {a : Act} {Q : Exit → Act → World → Prop} {w : World}
theorem wp_app {K : Act → World → Prop} (s x : Operand) (t : TypeId) (ho : o.op = .call { callee := .builtin .append, args := #[s, x], argTypes := #[t, t] })
    (base e k bytes : Nat) (z : Value) (ht : P.underlying t = some (.slice e)) (hinfo : (P.info? e).map (fun i => (i.zero, i.size, i.bytes)) = some (some z, k, bytes)) (hzs : z.cells.size = k) (hk : 0 < k)
    (v : Value) (n : Nat) (U : Nat → Int) (hs : a.eval s = v) (h : OwnL w base e k v n U) (ad : Option Addr) (m c : Nat) (X : Nat → Int) (hxx : a.eval x = .slice ad m c) (hx : Flat w ad (m * k) X)
    (h63 : n + m ≤ maxLen) (hbytes : (n + m) * bytes ≤ 140737488355328) (hbase : base ≤ w.heap.size)
    (hK : ∀ a' c' w', OwnL w' base e k (.slice a' (n + m) c') (n + m) (cat (n * k) U X) → w.grownBy w' v.ownBlock → K (a.put o.dst (.slice a' (n + m) c')) w') : o.wp P a w K Q := by
  obtain ⟨a', c', w', hr, h2, h3⟩ := run_app (P := P) base t o.type e k bytes z ht hinfo hzs hk w v n U h ad m c X hx h63 hbytes hbase
  unfold Oper.wp execOp
  simp only [ho, resolve, invoke, builtin, Sem.run_bind, Sem.run_pure, Result.andThen_ok, List.map_toArray, List.map_cons, List.map_nil, hs, hxx, hr]
  exact hK _ _ _ h2 h3
theorem wpList_app {rest : List Oper} (hgd : o.guard = none) (s x : Operand) (t : TypeId) (ho : o.op = .call { callee := .builtin .append, args := #[s, x], argTypes := #[t, t] })
    (base e k bytes : Nat) (z : Value) (ht : P.underlying t = some (.slice e)) (hinfo : (P.info? e).map (fun i => (i.zero, i.size, i.bytes)) = some (some z, k, bytes)) (hzs : z.cells.size = k) (hk : 0 < k)
    (v : Value) (n : Nat) (U : Nat → Int) (hs : a.eval s = v) (h : OwnL w base e k v n U) (ad : Option Addr) (m c : Nat) (X : Nat → Int) (hxx : a.eval x = .slice ad m c) (hx : Flat w ad (m * k) X)
    (h63 : n + m ≤ maxLen) (hbytes : (n + m) * bytes ≤ 140737488355328) (hbase : base ≤ w.heap.size)
    (hK : ∀ a' c' w', OwnL w' base e k (.slice a' (n + m) c') (n + m) (cat (n * k) U X) → w.grownBy w' v.ownBlock → wpList P ops Q rest (a.put o.dst (.slice a' (n + m) c')) w') : wpList P ops Q (o :: rest) a w :=
  wpList_plain hgd fun _ hK' => wp_app s x t ho base e k bytes z ht hinfo hzs hk v n U hs h ad m c X hxx hx h63 hbytes hbase fun a' c' w' h2 h3 => hK' _ _ (hK a' c' w' h2 h3)
theorem step_app {K : Act → World → Prop} {E : Prop} (hgd : o.guard = none) (s x : Operand) (t : TypeId) (ho : o.op = .call { callee := .builtin .append, args := #[s, x], argTypes := #[t, t] })
    (base e k bytes : Nat) (z : Value) (ht : P.underlying t = some (.slice e)) (hinfo : (P.info? e).map (fun i => (i.zero, i.size, i.bytes)) = some (some z, k, bytes)) (hzs : z.cells.size = k) (hk : 0 < k)
    (v : Value) (n : Nat) (U : Nat → Int) (hs : a.eval s = v) (h : OwnL w base e k v n U) (ad : Option Addr) (m c : Nat) (X : Nat → Int) (hxx : a.eval x = .slice ad m c) (hx : Flat w ad (m * k) X)
    (h63 : n + m ≤ maxLen) (hbytes : (n + m) * bytes ≤ 140737488355328) (hbase : base ≤ w.heap.size)
    (hK : ∀ a' c' w', OwnL w' base e k (.slice a' (n + m) c') (n + m) (cat (n * k) U X) → w.grownBy w' v.ownBlock → K (a.put o.dst (.slice a' (n + m) c')) w') :
    if Region.wanted o (yielded ops a.tmps) = true then Oper.wp P o a w K Q else E := by
  have hw : Region.wanted o (yielded ops a.tmps) = true := by simp [Region.wanted, hgd]
  rw [if_pos hw]
  exact wp_app s x t ho base e k bytes z ht hinfo hzs hk v n U hs h ad m c X hxx hx h63 hbytes hbase hK
end
end Go.Proofs.YthfodocnehahcaaGreatDoor
namespace Go.Proofs.YthfodocnehahcaaGreatDoor
open Go.RowKit
set_option linter.unusedVariables false
section
variable {P : Program} {Q : Exit → Act → World → Prop}
/-- an operation in a round, by what it does anywhere -/
theorem rows_wide {n : Nat} {row : String} {args : Array Value} {w : World} {R : Value → World → Prop} (h : Rows P row args w R) : RowsIn Fence.wide n P row args w R :=
  fun c cs _ => let ⟨v, w', r, s⟩ := h c cs; ⟨v, w', r, stepsIn_wide.2 s⟩
theorem opIn_of {l n : Nat} {o : Oper} (hd : ∀ c, o.op ≠ .defer c) {a : Act} {w : World} {K : Act → World → Prop} (h : o.wp P a w K Q) : o.wpIn (Fence.wide.inRound l) n P a w K Q := by
  unfold Oper.wp at h
  unfold Oper.wpIn
  refine ⟨fun _ _ => trivial, ?_⟩
  rw [Oper.semAt_eq _ _ _ hd]
  generalize (execOp a.eval o).run P w = r at *
  cases r with
  | ok x w' =>
    cases x <;> simp only [Oper.upon, Oper.uponIn] at h ⊢ <;>
      first
        | exact h
        | exact ⟨(fun e => by cases e), CallsIn.inRound l (callsIn_wide.2 h)⟩
        | exact ⟨(fun e => by cases e), rows_wide h⟩
  | halt x w' => cases x <;> simp only [Oper.upon, Oper.uponIn] at h ⊢ <;> exact h
def noDefer (ops : Array Oper) : Bool := ops.toList.all fun o => match o.op with | .defer _ => false | _ => true
theorem noDefer_at {ops : Array Oper} (h : noDefer ops = true) {i : Nat} {o : Oper} (hi : ops[i]? = some o) : ∀ c, o.op ≠ .defer c := by
  intro c e
  have hm : o ∈ ops.toList := List.mem_of_getElem? (by simpa using hi)
  have := List.all_eq_true.1 h o hm
  rw [e] at this
  cases this
theorem wpOpIn_of {l n : Nat} {ops : Array Oper} (hL : ¬ LetsOut Q) (hn : noDefer ops = true) {i : Nat} {K : Act → World → Prop} {a : Act} {w : World} (h : wpOp P ops Q i K a w) : wpOpIn (Fence.wide.inRound l) n P ops Q i K a w := by
  unfold wpOp at h
  unfold wpOpIn
  cases hi : ops[i]? with
  | none => simp only [hi] at h ⊢; exact h
  | some o =>
    simp only [hi] at h ⊢
    split
    · rename_i hw
      rw [if_pos hw] at h
      exact opIn_of (noDefer_at hn hi) (h.resolve_right fun q => hL q.2)
    · rename_i hw
      rw [if_neg hw] at h
      exact ⟨fun _ _ => trivial, h⟩
theorem wpAnyIn_of {l n : Nat} {md : Region.Mode} {ops : Array Oper} (hL : ¬ LetsOut Q) (hn : noDefer ops = true) : ∀ (fuel : Nat) (listed : Array Bool) (a : Act) (w : World),
    wpAny P md ops Q fuel listed a w → wpAnyIn (Fence.wide.inRound l) n P md ops Q fuel listed a w
  | 0, _, _, _, h => h
  | fuel + 1, _, _, _, h => ⟨h.1, fun i hi => wpOpIn_of hL hn (wpOp_mono (fun a' w' h' => wpAnyIn_of hL hn fuel _ a' w' h') (h.2 i hi))⟩
/-- a drawn region within a round, held -/
theorem wpIn_region_held_drew {l n : Nat} {ops : Array Oper} {S : World → Prop} {id : Nat} {a : Act} {w : World} (hm : P.follows .mixedOrders = true) (hL : ¬ LetsOut Q) (hn : noDefer ops = true) (hS : S w.drew)
    (h : S w.drew → wpAnyH P .any ops Q S ops.size (Array.replicate ops.size false) a w.drew) : (Code.region id ops true).wpIn (Fence.wide.inRound l) n P Q a w :=
  wpIn_region_any hm (wpAnyIn_of hL hn _ _ _ _ (wpAny_of_held _ _ _ _ (h hS)))
theorem wpListIn_of {l n : Nat} {ops : Array Oper} (hL : ¬ LetsOut Q) : ∀ (os : List Oper) (hn : noDefer os.toArray = true) (a : Act) (w : World), wpList P ops Q os a w → wpListIn (Fence.wide.inRound l) n P ops Q os a w
  | [], _, _, _, h => h
  | o :: rest, hn, a, w, h => by
    unfold wpList at h
    unfold wpListIn
    have hn' : noDefer rest.toArray = true := by simp [noDefer] at hn ⊢; exact hn.2
    split
    · rename_i hw
      rw [if_pos hw] at h
      refine opIn_of (noDefer_at hn (i := 0) (by simp)) (Oper.wp_mono (fun a' w' h' => wpListIn_of hL rest hn' a' w' h') (h.resolve_right fun q => hL q.2))
    · rename_i hw
      rw [if_neg hw] at h
      exact ⟨fun _ _ => trivial, wpListIn_of hL rest hn' _ _ h⟩
/-- a region within a round that does not draw -/
theorem wpIn_region_plain {l n : Nat} {ops : Array Oper} {id : Nat} {a : Act} {w : World} (hL : ¬ LetsOut Q) (hn : noDefer ops = true) (h : wpList P ops Q ops.toList a w) : (Code.region id ops false).wpIn (Fence.wide.inRound l) n P Q a w :=
  wpIn_region_list (wpListIn_of hL _ (by simpa using hn) _ _ h)
end
/-- what book-keeping leaves: blocks below B as they were, and all cells -/
structure Sm (B : Nat) (W W' : World) : Prop where
  below : Below B W W'
  cells : ∀ (k : Nat) (o : Obj), W.heap[k]? = some o → o.isCells = true → W'.heap[k]? = some o
theorem Sm.refl (B : Nat) (W : World) : Sm B W W := ⟨Below.refl _ _, fun _ _ h _ => h⟩
theorem Sm.trans {B : Nat} {X Y Z : World} (h : Sm B X Y) (k : Sm B Y Z) : Sm B X Z := ⟨h.below.trans k.below, fun i o hi ho => k.cells i o (h.cells i o hi ho) ho⟩
theorem Sm.mono {B B' : Nat} {X Y : World} (h : Sm B X Y) (hB : B' ≤ B) : Sm B' X Y := ⟨h.below.mono hB, h.cells⟩
theorem Sm.of_below {B : Nat} {W W' : World} (h : Below W.heap.size W W') (hB : B ≤ W.heap.size) : Sm B W W' :=
  ⟨h.mono hB, fun k o hk _ => (h.block k (Array.getElem?_eq_some_iff.1 hk).1).trans hk⟩
theorem Sm.putObj {B l : Nat} {W : World} {o : Obj} (o' : Obj) (hl : W.heap[l]? = some o) (ho : o.isCells = false) (hB : B ≤ l) : Sm B W (W.putObj l o') :=
  ⟨⟨rfl, rfl, rfl, by simp, fun k hk => World.putObj_heap_other (by omega)⟩, fun k x hk hx => by
    refine (World.putObj_heap_other (fun e => ?_)).trans hk
    subst e
    rw [hl] at hk
    cases hk
    rw [ho] at hx
    cases hx⟩
theorem isCells_of_cell {W : World} {p : Addr} {v : Value} (h : W.cell? p = some v) : ∃ o : Obj, W.heap[p.block]? = some o ∧ o.isCells = true := by
  unfold World.cell? at h
  cases ho : W.heap[p.block]? with
  | none => simp [ho] at h
  | some o => cases o <;> simp [ho] at h <;> exact ⟨_, rfl, rfl⟩
theorem Sm.block {B : Nat} {W W' : World} (h : Sm B W W') {p : Addr} {v : Value} (hc : W.cell? p = some v) : W'.heap[p.block]? = W.heap[p.block]? := by
  obtain ⟨o, ho, hx⟩ := isCells_of_cell hc
  rw [ho]
  exact h.cells _ _ ho hx
theorem Sm.cell {B : Nat} {W W' : World} (h : Sm B W W') {p : Addr} {v : Value} (hc : W.cell? p = some v) : W'.cell? p = some v := (World.cell?_of_block (h.block hc)).trans hc
theorem Sm.frozen {B : Nat} {W W' : World} (h : Sm B W W') {p : Addr} {v : Value} (hc : W.cell? p = some v) {b : Bool} (hf : W.frozen? p = b) : W'.frozen? p = b := (World.frozen?_of_block (h.block hc)).trans hf
theorem Sm.size {B : Nat} {W W' : World} (h : Sm B W W') : W.heap.size ≤ W'.heap.size := h.below.size
theorem KeepsFrom.of_below {B : Nat} {W W' : World} (h : Below W.heap.size W W') : KeepsFrom B W W' :=
  ⟨h.size, fun k o _ hk _ => (h.block k (Array.getElem?_eq_some_iff.1 hk).1).trans hk⟩
/-- how a round may end -/
def rdPost (B : Nat) (I : World → Prop) (Ix : Code → World → Prop) (W : World) : Exit → Act → World → Prop
  | .normal, _, W' => KeepsFrom B W W' ∧ I W'
  | .ret, _, W' => KeepsFrom B W W' ∧ Ix .ret W'
  | .exit id, _, W' => KeepsFrom B W W' ∧ Ix (.exit id) W'
  | .goto t, _, W' => KeepsFrom B W W' ∧ Ix (.goto t) W'
  | .panic _, _, _ => False
  | .outgrown, _, _ => False
/-- what an iterator is asked: it calls yield at encs 0, encs 1, .. as long as the rounds go on -/
def ItC (P : Program) (gf : Nat) (bound : Array Value) (encs : Nat → Array Value) (nn : Nat) (w : World) : Prop :=
  ∀ (l : Nat) (J : Nat → World → Prop) (Jx : World → Prop) (W : World), Below w.heap.size w W →
    (∀ k A B, J k A → Below A.heap.size A B → J k B) → (∀ A B, Jx A → Below A.heap.size A B → Jx B) →
    (∀ k A, J k A → k < nn → YieldAt Fence.wide 0 P l (encs k) A fun e A' => (e = .returned (.bool true) ∧ J (k + 1) A') ∨ (e = .returned (.bool false) ∧ Jx A')) →
    J 0 W → CallsIn Fence.wide 0 P gf (bound ++ #[.func (.yield l) #[] #[]]) W fun e A => (∃ v, e = .returned v) ∧ (J nn A ∨ Jx A)
/-- one round, of the record and the invariant -/
theorem yield_round {P : Program} {ps : Array Tmp} {assign body : Code} {a : Act} {w : World} {B l dl : Nat} {fn : FuncId} {encs : Nat → Array Value} {k : Nat} (hps : (encs k).size = ps.size)
    {I I' : World → Prop} {Ix : Code → World → Prop} (hI : ∀ A B', I A → Sm B A B' → I B') (hI' : ∀ A B', I' A → Sm B A B' → I' B') (hIx : ∀ c A B', Ix c A → Sm B A B' → Ix c B') {H : World → Prop} (hH : ∀ A B', H A → KeepsFrom B A B' → H B') (hHp : ∀ A o, H A → H (A.putObj l o))
    {rec : LoopState → Option Code → Loop} (hrec : rec = fun st pe => { state := st, pending := pe, fn, tmps := a.tmps, params := ps, assign, body, defers := dl }) (hBl : B ≤ l)
    {W : World} (hi : I W) (hl : W.heap[l]? = some (.loop (rec .ready none))) (hh : H W)
    (hround : assign.wpIn (Fence.wide.inRound l) 0 P (Exit.then (fun a₁ W₁ => KeepsFrom B W W₁ ∧ ∀ W₂, Sm B W₁ W₂ → (∃ r, W₂.heap[l]? = some (.loop r)) → body.wpIn (Fence.wide.inRound l) 0 P (rdPost B I' Ix W₂) a₁ W₂) (fun _ _ _ => False))
      { tmps := (ps.zip (encs k)).foldl (fun t (p, v) => t.setIfInBounds p v) a.tmps, defers := [] } W) :
    YieldAt Fence.wide 0 P l (encs k) W fun e W' => (e = .returned (.bool true) ∧ I' W' ∧ W'.heap[l]? = some (.loop (rec .ready none)) ∧ H W') ∨ (e = .returned (.bool false) ∧ ∃ c, Ix c W' ∧ W'.heap[l]? = some (.loop (rec .done (some c))) ∧ H W') := by
  have hy := run_yield (P := P) (args := encs k) hl (by rw [hrec]; exact hps)
  rw [hrec] at hy
  refine ⟨fn, _, assign, body, hy, roundIn_of_wpIn trivial (wpIn_mono hround ?_)⟩
  intro e a₁ W₁ q
  cases e with
  | normal =>
    obtain ⟨hk1, hb⟩ := q
    have hl1 := hk1.same _ _ hBl hl rfl
    have hh1 := hH _ _ hh hk1
    refine ⟨_, run_beginRound hl1 (by rw [hrec]), ?_⟩
    have hlt : l < W₁.heap.size := (Array.getElem?_eq_some_iff.1 hl1).1
    have hl2 : (W₁.putObj l (.loop { rec .ready none with state := .busy })).heap[l]? = some (.loop { rec .ready none with state := .busy }) := World.putObj_heap_same hlt
    refine wpIn_mono (hb _ (Sm.putObj _ hl1 rfl hBl) ⟨_, hl2⟩) ?_
    have fin : ∀ (jump : Option Code) (W3 : World), KeepsFrom B (W₁.putObj l (.loop { rec .ready none with state := .busy })) W3 →
        (Instr.endRound l jump).run P W3 = .ok (.bool jump.isNone) (W3.putObj l (.loop (rec (if jump.isNone then .ready else .done) jump))) ∧
        Sm B W3 (W3.putObj l (.loop (rec (if jump.isNone then .ready else .done) jump))) ∧
        (W3.putObj l (.loop (rec (if jump.isNone then .ready else .done) jump))).heap[l]? = some (.loop (rec (if jump.isNone then .ready else .done) jump)) ∧
        H (W3.putObj l (.loop (rec (if jump.isNone then .ready else .done) jump))) := fun jump W3 hk3 => by
      have hl3 := hk3.same _ _ hBl hl2 rfl
      have := run_endRound (P := P) jump hl3
      rw [hrec] at this ⊢
      exact ⟨this, Sm.putObj _ hl3 rfl hBl, World.putObj_heap_same (Array.getElem?_eq_some_iff.1 hl3).1, hHp _ _ (hH _ _ (hHp _ _ hh1) (by rw [hrec] at hk3; exact hk3))⟩
    rintro e a3 W3 hp
    cases e with
    | normal =>
      obtain ⟨hk3, hi3⟩ := hp
      obtain ⟨hr, hs, hl4, hh4⟩ := fin none W3 hk3
      exact ⟨_, _, hr, .inl ⟨rfl, hI' _ _ hi3 hs, hl4, hh4⟩⟩
    | ret =>
      obtain ⟨hk3, hi3⟩ := hp
      obtain ⟨hr, hs, hl4, hh4⟩ := fin (some .ret) W3 hk3
      exact ⟨_, _, hr, .inr ⟨rfl, .ret, hIx _ _ _ hi3 hs, hl4, hh4⟩⟩
    | exit id =>
      obtain ⟨hk3, hi3⟩ := hp
      obtain ⟨hr, hs, hl4, hh4⟩ := fin (some (.exit id)) W3 hk3
      exact ⟨_, _, hr, .inr ⟨rfl, .exit id, hIx _ _ _ hi3 hs, hl4, hh4⟩⟩
    | goto t =>
      obtain ⟨hk3, hi3⟩ := hp
      obtain ⟨hr, hs, hl4, hh4⟩ := fin (some (.goto t)) W3 hk3
      exact ⟨_, _, hr, .inr ⟨rfl, .goto t, hIx _ _ _ hi3 hs, hl4, hh4⟩⟩
    | panic ch => exact hp.elim
    | outgrown => exact hp.elim
  | exit id => exact q.elim
  | goto t => exact q.elim
  | ret => exact q.elim
  | panic ch => exact q.elim
  | outgrown => exact q.elim
/-- the statement, not within a round -/
theorem wp_range_out {P : Program} {g : Operand} {ps : Array Tmp} {assign body : Code} {Q : Exit → Act → World → Prop} {a : Act} {w : World} {gf : Nat} {bound : Array Value}
    (hg : a.eval g = .func (.func gf) bound #[]) (eg : ∀ args w, (callFunc gf args).run P w = .ok (.enter gf args) w)
    {encs : Nat → Array Value} {nn : Nat} (hit : ItC P gf bound encs nn w) (hps : ∀ k, (encs k).size = ps.size)
    (I : Nat → World → Prop) (Ix : Code → World → Prop) (hI : ∀ k A B, I k A → Sm w.heap.size A B → I k B) (hIx : ∀ c A B, Ix c A → Sm w.heap.size A B → Ix c B) (h0 : I 0 w)
    (hround : ∀ l k W, w.heap.size ≤ l → I k W → k < nn →
      assign.wpIn (Fence.wide.inRound l) 0 P (Exit.then (fun a₁ W₁ => KeepsFrom w.heap.size W W₁ ∧ ∀ W₂, Sm w.heap.size W₁ W₂ → (∃ r, W₂.heap[l]? = some (.loop r)) → body.wpIn (Fence.wide.inRound l) 0 P (rdPost w.heap.size (I (k + 1)) Ix W₂) a₁ W₂) (fun _ _ _ => False))
      { tmps := (ps.zip (encs k)).foldl (fun t (p, v) => t.setIfInBounds p v) a.tmps, defers := [] } W)
    (hdone : ∀ (D : Nat) (W : World), w.heap.size ≤ D → I nn W → W.heap[D]? = some (.deferred (some [])) → Q .normal { a with defers := { target := .collected D, args := #[] } :: a.defers } W)
    (hstop : ∀ (D : Nat) (c : Code) (W : World), w.heap.size ≤ D → Ix c W → W.heap[D]? = some (.deferred (some [])) → c.wp P Q { a with defers := { target := .collected D, args := #[] } :: a.defers } W) :
    (Code.rangeFunc g ps assign body).wp P Q a w := by
  refine wpIn_wide.1 (wpIn_rangeFunc (n := 0) ?_)
  intro fn _
  obtain ⟨rec, hrec⟩ : ∃ rec : LoopState → Option Code → Loop, rec = fun st pe => { state := st, pending := pe, fn, tmps := a.tmps, params := ps, assign, body, defers := w.heap.size } := ⟨_, rfl⟩
  obtain ⟨W1, hW1⟩ : ∃ W1, (w.alloc (.deferred (some []))).alloc (.loop (rec .ready none)) = W1 := ⟨_, rfl⟩
  have hb1 : Below w.heap.size w W1 := by rw [← hW1]; exact ((Below.refl _ w).alloc (Nat.le_refl _) _).alloc (by simp) _
  have hL1 : W1.heap[w.heap.size + 1]? = some (.loop (rec .ready none)) := by
    rw [← hW1]; have := World.alloc_heap_new (w.alloc (.deferred (some []))) (.loop (rec .ready none)); rwa [World.size_alloc] at this
  have hK1 : W1.heap[w.heap.size]? = some (.deferred (some [])) := by
    rw [← hW1]; exact (Below.heap_alloc _ _ _ (by simp)).trans (World.alloc_heap_new w _)
  refine ⟨w.heap.size + 1, [{ target := .collected w.heap.size, args := #[] }], W1, { target := .fn (.func gf) #[], args := bound ++ #[.func (.yield (w.heap.size + 1)) #[] #[]] }, W1, gf,
    bound ++ #[.func (.yield (w.heap.size + 1)) #[] #[]], W1, ?_, ?_, fun _ _ => trivial, ?_, (fun e => by cases e), ?_⟩
  · rw [← hW1, hrec]; exact run_enterLoop_outer _ _ _ _ _
  · simp only [resolve, hg]
    simp [go_sem]
  · simp [invoke, go_sem, eg]
  · refine (hit (w.heap.size + 1)
      (fun k W => I k W ∧ W.heap[w.heap.size + 1]? = some (.loop (rec .ready none)) ∧ W.heap[w.heap.size]? = some (.deferred (some [])) ∧ w.heap.size ≤ W.heap.size)
      (fun W => ∃ c, Ix c W ∧ W.heap[w.heap.size + 1]? = some (.loop (rec .done (some c))) ∧ W.heap[w.heap.size]? = some (.deferred (some [])) ∧ w.heap.size ≤ W.heap.size)
      W1 hb1 ?_ ?_ ?_ ⟨hI _ _ _ h0 (Sm.of_below hb1 (Nat.le_refl _)), hL1, hK1, hb1.size⟩).mono ?_
    · rintro k A B ⟨h1, h2, h3, h4⟩ hb
      exact ⟨hI _ _ _ h1 (Sm.of_below hb h4), (hb.block _ (Array.getElem?_eq_some_iff.1 h2).1).trans h2, (hb.block _ (Array.getElem?_eq_some_iff.1 h3).1).trans h3, Nat.le_trans h4 hb.size⟩
    · rintro A B ⟨c, h1, h2, h3, h4⟩ hb
      exact ⟨c, hIx _ _ _ h1 (Sm.of_below hb h4), (hb.block _ (Array.getElem?_eq_some_iff.1 h2).1).trans h2, (hb.block _ (Array.getElem?_eq_some_iff.1 h3).1).trans h3, Nat.le_trans h4 hb.size⟩
    · rintro k W ⟨h1, h2, h3, h4⟩ hk
      obtain ⟨fn', tm, as', bo, hy, hR⟩ := yield_round (P := P) (ps := ps) (assign := assign) (body := body) (a := a) (w := w) (B := w.heap.size) (l := w.heap.size + 1) (dl := w.heap.size) (fn := fn) (encs := encs) (k := k) (hps k) (I := I k) (I' := I (k + 1)) (Ix := Ix) (hI k) (hI (k + 1)) hIx
        (H := fun W => W.heap[w.heap.size]? = some (.deferred (some [])) ∧ w.heap.size ≤ W.heap.size) (fun A B h hk => ⟨hk.same _ _ (Nat.le_refl _) h.1 rfl, Nat.le_trans h.2 hk.size⟩) (fun A o h => ⟨(World.putObj_heap_other (by omega)).trans h.1, by simpa using h.2⟩) hrec (by omega) h1 h2 ⟨h3, h4⟩ (hround _ k W (by omega) h1 hk)
      refine ⟨fn', tm, as', bo, hy, hR.mono ?_⟩
      rintro e W' (⟨e1, h1, h2, h3, h4⟩ | ⟨e1, c, h1, h2, h3, h4⟩)
      · exact .inl ⟨e1, h1, h2, h3, h4⟩
      · exact .inr ⟨e1, c, h1, h2, h3, h4⟩
    · rintro e W2 ⟨⟨v, rfl⟩, (⟨hi, hl, hk, _⟩ | ⟨c, hi, hl, hk, _⟩)⟩
      · exact ⟨none, _, by have := run_endLoop (P := P) hl (by rw [hrec]; simp); rw [hrec] at this; exact this, hdone _ _ (Nat.le_refl _) (hI _ _ _ hi (Sm.putObj _ hl rfl (by omega))) ((World.putObj_heap_other (by omega)).trans hk)⟩
      · exact ⟨some c, _, by have := run_endLoop (P := P) hl (by rw [hrec]; simp); rw [hrec] at this; exact this, wpIn_wide.2 (hstop _ c _ (Nat.le_refl _) (hIx _ _ _ hi (Sm.putObj _ hl rfl (by omega))) ((World.putObj_heap_other (by omega)).trans hk))⟩
/-- the statement within a round of loop l₀ -/
theorem wpIn_range_in {P : Program} {g : Operand} {ps : Array Tmp} {assign body : Code} {Q : Exit → Act → World → Prop} {a : Act} {w : World} {l₀ : Nat} {r₀ : Loop} (hr₀ : w.heap[l₀]? = some (.loop r₀)) {gf : Nat} {bound : Array Value}
    (hg : a.eval g = .func (.func gf) bound #[]) (eg : ∀ args w, (callFunc gf args).run P w = .ok (.enter gf args) w)
    {encs : Nat → Array Value} {nn : Nat} (hit : ItC P gf bound encs nn w) (hps : ∀ k, (encs k).size = ps.size)
    (I : Nat → World → Prop) (Ix : Code → World → Prop) (hI : ∀ k A B, I k A → Sm w.heap.size A B → I k B) (hIx : ∀ c A B, Ix c A → Sm w.heap.size A B → Ix c B) (h0 : I 0 w)
    (hround : ∀ l k W, w.heap.size ≤ l → I k W → k < nn →
      assign.wpIn (Fence.wide.inRound l) 0 P (Exit.then (fun a₁ W₁ => KeepsFrom w.heap.size W W₁ ∧ ∀ W₂, Sm w.heap.size W₁ W₂ → (∃ r, W₂.heap[l]? = some (.loop r)) → body.wpIn (Fence.wide.inRound l) 0 P (rdPost w.heap.size (I (k + 1)) Ix W₂) a₁ W₂) (fun _ _ _ => False))
      { tmps := (ps.zip (encs k)).foldl (fun t (p, v) => t.setIfInBounds p v) a.tmps, defers := [] } W)
    (hdone : ∀ (W : World), I nn W → Q .normal a W)
    (hstop : ∀ (c : Code) (W : World), Ix c W → c.wpIn (Fence.wide.inRound l₀) 0 P Q a W) :
    (Code.rangeFunc g ps assign body).wpIn (Fence.wide.inRound l₀) 0 P Q a w := by
  refine wpIn_rangeFunc (n := 0) ?_
  intro fn _
  obtain ⟨rec, hrec⟩ : ∃ rec : LoopState → Option Code → Loop, rec = fun st pe => { state := st, pending := pe, fn, tmps := a.tmps, params := ps, assign, body, defers := r₀.defers } := ⟨_, rfl⟩
  obtain ⟨W1, hW1⟩ : ∃ W1, w.alloc (.loop (rec .ready none)) = W1 := ⟨_, rfl⟩
  have hb1 : Below w.heap.size w W1 := by rw [← hW1]; exact (Below.refl _ w).alloc (Nat.le_refl _) _
  have hL1 : W1.heap[w.heap.size]? = some (.loop (rec .ready none)) := by
    rw [← hW1]; exact World.alloc_heap_new w (.loop (rec .ready none))
  refine ⟨w.heap.size, [], W1, { target := .fn (.func gf) #[], args := bound ++ #[.func (.yield w.heap.size) #[] #[]] }, W1, gf,
    bound ++ #[.func (.yield w.heap.size) #[] #[]], W1, ?_, ?_, fun _ _ => trivial, ?_, (fun e => by cases e), ?_⟩
  · rw [← hW1, hrec]; exact run_enterLoop_inner hr₀ _ _ _ _ _
  · simp only [resolve, hg]
    simp [go_sem]
  · simp [invoke, go_sem, eg]
  · refine CallsIn.inRound l₀ ((hit w.heap.size
      (fun k W => I k W ∧ W.heap[w.heap.size]? = some (.loop (rec .ready none)) ∧ w.heap.size ≤ W.heap.size)
      (fun W => ∃ c, Ix c W ∧ W.heap[w.heap.size]? = some (.loop (rec .done (some c))) ∧ w.heap.size ≤ W.heap.size)
      W1 hb1 ?_ ?_ ?_ ⟨hI _ _ _ h0 (Sm.of_below hb1 (Nat.le_refl _)), hL1, hb1.size⟩).mono ?_)
    · rintro k A B ⟨h1, h2, h4⟩ hb
      exact ⟨hI _ _ _ h1 (Sm.of_below hb h4), (hb.block _ (Array.getElem?_eq_some_iff.1 h2).1).trans h2, Nat.le_trans h4 hb.size⟩
    · rintro A B ⟨c, h1, h2, h4⟩ hb
      exact ⟨c, hIx _ _ _ h1 (Sm.of_below hb h4), (hb.block _ (Array.getElem?_eq_some_iff.1 h2).1).trans h2, Nat.le_trans h4 hb.size⟩
    · rintro k W ⟨h1, h2, h4⟩ hk
      obtain ⟨fn', tm, as', bo, hy, hR⟩ := yield_round (P := P) (ps := ps) (assign := assign) (body := body) (a := a) (w := w) (B := w.heap.size) (l := w.heap.size) (dl := r₀.defers) (fn := fn) (encs := encs) (k := k) (hps k) (I := I k) (I' := I (k + 1)) (Ix := Ix) (hI k) (hI (k + 1)) hIx
        (H := fun W => w.heap.size ≤ W.heap.size) (fun A B h hk => Nat.le_trans h hk.size) (fun A o h => by simpa using h) hrec (Nat.le_refl _) h1 h2 h4 (hround _ k W (Nat.le_refl _) h1 hk)
      refine ⟨fn', tm, as', bo, hy, hR.mono ?_⟩
      rintro e W' (⟨e1, h1, h2, h4⟩ | ⟨e1, c, h1, h2, h4⟩)
      · exact .inl ⟨e1, h1, h2, h4⟩
      · exact .inr ⟨e1, c, h1, h2, h4⟩
    · rintro e W2 ⟨⟨v, rfl⟩, (⟨hi, hl, _⟩ | ⟨c, hi, hl, _⟩)⟩
      · exact ⟨none, _, by have := run_endLoop (P := P) hl (by rw [hrec]; simp); rw [hrec] at this; exact this, hdone _ (hI _ _ _ hi (Sm.putObj _ hl rfl (Nat.le_refl _)))⟩
      · exact ⟨some c, _, by have := run_endLoop (P := P) hl (by rw [hrec]; simp); rw [hrec] at this; exact this, hstop c _ (hIx _ _ _ hi (Sm.putObj _ hl rfl (Nat.le_refl _)))⟩
/-- a function with such a statement: its contract -/
theorem calls_of_wp_marks {P : Program} {f : FuncId} {fn : Func} {c : Code} {args : Array Value} {w : World} {R : Ending → World → Prop} (hf : P.funcs[f]? = some fn) (hb : fn.body = some c)
    (h : c.wp P (bodyPostM Fence.wide 0 P fn R) { tmps := args ++ Array.replicate (fn.ntmps - args.size) undef, defers := [] } w) : Calls P f args w R :=
  callsIn_wide.1 (callsIn_of_wp_marks (n := 0) hf hb trivial (wpIn_wide.2 h))
/-- at its return -/
theorem marks_ret {P : Program} {fn : Func} {R : Ending → World → Prop} {a : Act} {w : World} {B D : Nat} (hB : B ≤ D) (hd : a.defers = [{ target := .collected D, args := #[] }]) (hK : w.heap[D]? = some (.deferred (some [])))
    (h : ∀ W', Sm B w W' → ∃ v, (results fn a.tmps).run P W' = .ok v W' ∧ R (.returned v) W') : bodyPostM Fence.wide 0 P fn R .ret a w := by
  show LeavesInM Fence.wide 0 P fn a.tmps R a.defers .returning w
  rw [hd]
  exact ⟨by simp, .inl ⟨_, _, rfl, run_takeDeferred hK, h _ (Sm.putObj _ hK rfl hB)⟩⟩
theorem marks_ret0 {P : Program} {fn : Func} {R : Ending → World → Prop} {a : Act} {w : World} {v : Value} (hd : a.defers = []) (hr : (results fn a.tmps).run P w = .ok v w) (hR : R (.returned v) w) : bodyPostM Fence.wide 0 P fn R .ret a w := by
  show LeavesInM Fence.wide 0 P fn a.tmps R a.defers .returning w
  rw [hd]
  exact ⟨v, hr, hR⟩
end Go.Proofs.YthfodocnehahcaaGreatDoor
