/- Plain mathematics: bounds of products, clamping, roots. Small facts on memory: cells behind stores and new blocks; 'But': all is as it was but for one block. The reader of drawn bytes: its invariant and the contracts of its methods. The contracts of the draws of numbers. The contracts of the number functions of chapter 1, each for every argument of its domain. The contracts of the two roots. The contracts of the functions of chapter 2: ways. The contracts of the draws of ways. The contracts of the draws of two ways. The contracts of the specification's ways. The contracts of the shapes: what is ok. The contracts of boxes. The contracts of the draws of places and shapes. Numbers of a block of its own, while others write elsewhere. Regions whose operations come in any order: one claim that each operation keeps. -/
import Derived.Test.YtkblddegfobpaaaGreatRows
import Derived.WalkKit
import Derived.WalkSpells
import Derived.WalkLawsBesides
import Derived.OrdersHeld
import Derived.Deep.QuietTactic
import Derived.BigQuiet
import Derived.OpenShut
import Derived.Deep.RegionWith
import Derived.Deep.RegionHeld3
namespace Go.Proofs.YtkblddegfobpaaaGreat

theorem mul_bd {a b A B : Int} (ha : -A ≤ a ∧ a ≤ A) (hb : -B ≤ b ∧ b ≤ B) : -(A * B) ≤ a * b ∧ a * b ≤ A * B := by
  have h1 := Int.mul_nonneg (show 0 ≤ A - a by omega) (show 0 ≤ B + b by omega)
  have h2 := Int.mul_nonneg (show 0 ≤ A + a by omega) (show 0 ≤ B - b by omega)
  have h3 := Int.mul_nonneg (show 0 ≤ A - a by omega) (show 0 ≤ B - b by omega)
  have h4 := Int.mul_nonneg (show 0 ≤ A + a by omega) (show 0 ≤ B + b by omega)
  simp only [Int.mul_add, Int.add_mul, Int.sub_mul, Int.mul_sub] at h1 h2 h3 h4
  omega

def clampZ (l n : Int) : Int := if n < -l then -l else if l < n then l else n

theorem clampZ_bd {l : Int} (n : Int) (h : 0 ≤ l) : -l ≤ clampZ l n ∧ clampZ l n ≤ l := by
  unfold clampZ; split
  · omega
  · split <;> omega
theorem clampZ_id {l n : Int} (h1 : -l ≤ n) (h2 : n ≤ l) : clampZ l n = n := by
  unfold clampZ; rw [if_neg (by omega), if_neg (by omega)]
theorem clampZ_neg {l : Int} (n : Int) (h : 0 ≤ l) : clampZ l (-n) = -clampZ l n := by
  unfold clampZ; repeat' split
  all_goals omega
theorem clampZ_lo {l n : Int} (h : n < -l) : clampZ l n = -l := by
  unfold clampZ; rw [if_pos h]
theorem clampZ_hi {l n : Int} (h0 : 0 ≤ l) (h : l < n) : clampZ l n = l := by
  unfold clampZ; rw [if_neg (by omega), if_pos h]

def FM : Int := 1000000000
def fc (n : Int) : Int := clampZ 1000000000 n
theorem fc_bd (n : Int) : -1000000000 ≤ fc n ∧ fc n ≤ 1000000000 := clampZ_bd n (by decide)
theorem fc_id {n : Int} (h1 : -1000000000 ≤ n) (h2 : n ≤ 1000000000) : fc n = n := clampZ_id h1 h2
theorem fc_fc (n : Int) : fc (fc n) = fc n := fc_id (fc_bd n).1 (fc_bd n).2
theorem fc_neg (n : Int) : fc (-n) = -fc n := clampZ_neg n (by decide)

theorem fc_cases (n : Int) : (n < -1000000000 ∧ fc n = -1000000000) ∨ (1000000000 < n ∧ fc n = 1000000000) ∨ (-1000000000 ≤ n ∧ n ≤ 1000000000 ∧ fc n = n) := by
  unfold fc clampZ; repeat' split
  all_goals omega
theorem fc_mul_bd (a b : Int) : -1000000000000000000 ≤ fc a * fc b ∧ fc a * fc b ≤ 1000000000000000000 := by
  have := mul_bd (fc_bd a) (fc_bd b); omega

/-- the product of two numbers -/
def fmul (a b : Int) : Int := fc ((fc a * fc b).tdiv 256)
/-- the quotient of two numbers -/
def fdiv (a b : Int) : Int := if fc b = 0 then fc (fc a * 1000000000) else fc ((fc a * 256).tdiv (fc b))

def IsRoot (n r : Int) : Prop := 0 ≤ r ∧ r * r ≤ n ∧ n < (r + 1) * (r + 1)

theorem sq_mono {a b : Int} (h0 : 0 ≤ a) (h : a ≤ b) : a * a ≤ b * b := Int.mul_le_mul h h h0 (by omega)
theorem IsRoot.uniq {n r s : Int} (h : IsRoot n r) (k : IsRoot n s) : r = s := by
  obtain ⟨a0, a1, a2⟩ := h
  obtain ⟨b0, b1, b2⟩ := k
  rcases Int.lt_trichotomy r s with h | h | h
  · have := sq_mono (show 0 ≤ r + 1 by omega) (show r + 1 ≤ s by omega); omega
  · exact h
  · have := sq_mono (show 0 ≤ s + 1 by omega) (show s + 1 ≤ r by omega); omega
/-- the greatest number whose square is not above n -/
def rootN : Nat → Nat
  | 0 => 0
  | n + 1 => if (rootN n + 1) * (rootN n + 1) ≤ n + 1 then rootN n + 1 else rootN n
theorem rootN_is (n : Nat) : rootN n * rootN n ≤ n ∧ n < (rootN n + 1) * (rootN n + 1) := by
  induction n with
  | zero => simp [rootN]
  | succ n ih =>
    obtain ⟨h1, h2⟩ := ih
    unfold rootN
    split
    · refine ⟨by assumption, ?_⟩
      simp only [Nat.mul_add, Nat.add_mul] at *
      omega
    · exact ⟨by omega, by omega⟩
/-- the same of an integer; 0 below 0 -/
def rootZ (n : Int) : Int := if n < 0 then 0 else (rootN n.toNat : Int)
theorem rootZ_neg {n : Int} (h : n < 0) : rootZ n = 0 := by unfold rootZ; rw [if_pos h]
theorem rootZ_is {n : Int} (h : 0 ≤ n) : IsRoot n (rootZ n) := by
  have e : rootZ n = (rootN n.toNat : Int) := by unfold rootZ; rw [if_neg (by omega)]
  obtain ⟨h1, h2⟩ := rootN_is n.toNat
  have k1 : ((rootN n.toNat * rootN n.toNat : Nat) : Int) ≤ (n.toNat : Int) := by exact_mod_cast h1
  have k2 : (n.toNat : Int) < (((rootN n.toNat + 1) * (rootN n.toNat + 1) : Nat) : Int) := by exact_mod_cast h2
  rw [Int.natCast_mul] at k1 k2
  rw [Int.natCast_add, Int.toNat_of_nonneg h] at k2
  rw [Int.toNat_of_nonneg h] at k1
  rw [e]
  exact ⟨Int.natCast_nonneg _, k1, k2⟩
theorem rootZ_of {n r : Int} (h : IsRoot n r) : rootZ n = r := by
  have h0 : 0 ≤ n := by obtain ⟨a, b, _⟩ := h; have := Int.mul_nonneg a a; omega
  exact IsRoot.uniq (rootZ_is h0) h
theorem rootZ_nonneg (n : Int) : 0 ≤ rootZ n := by
  by_cases h : n < 0
  · rw [rootZ_neg h]; omega
  · exact (rootZ_is (by omega)).1
/-- The root of what is below (B+1)² is at most B. -/
theorem rootZ_le {n B : Int} (hB : 0 ≤ B) (h : n < (B + 1) * (B + 1)) : rootZ n ≤ B := by
  by_cases h0 : n < 0
  · rw [rootZ_neg h0]; exact hB
  · obtain ⟨a, b, c⟩ := rootZ_is (show 0 ≤ n by omega)
    rcases Int.lt_or_le B (rootZ n) with k | k
    · have := sq_mono (show 0 ≤ B + 1 by omega) (show B + 1 ≤ rootZ n by omega); omega
    · exact k
theorem tdiv_bd {x B : Int} (m : Int) (h : -B ≤ x ∧ x ≤ B) : -B ≤ x.tdiv m ∧ x.tdiv m ≤ B := by
  have := Int.natAbs_tdiv_le_natAbs x m; omega

theorem fmul_comm (a b : Int) : fmul b a = fmul a b := by unfold fmul; rw [Int.mul_comm]
theorem fmul_fc (a b : Int) : fmul (fc a) (fc b) = fmul a b := by unfold fmul; rw [fc_fc, fc_fc]
theorem fmul_neg (a b : Int) : fmul (-a) b = -fmul a b := by
  unfold fmul; rw [fc_neg, Int.neg_mul, Int.neg_tdiv, fc_neg]
theorem fmul_one (a : Int) : fmul (fc a) 256 = fc a := by
  unfold fmul
  rw [fc_fc, show fc 256 = 256 from rfl, Int.mul_tdiv_cancel _ (by decide), fc_fc]
theorem fmul_zero (a : Int) : fmul a 0 = 0 := by
  unfold fmul
  rw [show fc 0 = 0 from rfl, Int.mul_zero]; rfl
theorem fmul_bd (a b : Int) : -1000000000 ≤ fmul a b ∧ fmul a b ≤ 1000000000 := fc_bd _

def absZ (n : Int) : Int := if n < 0 then -n else n
theorem absZ_nat (n : Int) : absZ n = (n.natAbs : Int) := by unfold absZ; split <;> omega
theorem fdiv_bd (a b : Int) : -1000000000 ≤ fdiv a b ∧ fdiv a b ≤ 1000000000 := by
  unfold fdiv; split <;> exact fc_bd _
/-- by 0 -/
theorem fdiv_zero {a b : Int} (h : fc b = 0) : (fc a = 0 ∧ fdiv a b = 0) ∨ (0 < fc a ∧ fdiv a b = 1000000000) ∨ (fc a < 0 ∧ fdiv a b = -1000000000) := by
  have ha := fc_bd a
  unfold fdiv; rw [if_pos h]
  rcases fc_cases (fc a * 1000000000) with h | h | h <;> omega
theorem fdiv_one (a : Int) : fdiv (fc a) 256 = fc a := by
  unfold fdiv
  rw [show fc 256 = 256 from rfl, if_neg (by decide), fc_fc, Int.mul_tdiv_cancel _ (by decide), fc_fc]
theorem abs_mul_le {q b x : Nat} {t : Nat} (h : x = q * b + t) (k : 1000000000 ≤ q) : b * 999999999 ≤ x := by
  have := Nat.mul_le_mul k (Nat.le_refl b); omega
theorem fdiv_full {a b : Int} (h : fc b ≠ 0) (k : absZ (fdiv a b) = 1000000000) : absZ (fc b) * 999999999 ≤ absZ (fc a) * 256 := by
  unfold fdiv at k; rw [if_neg h] at k
  have e : 1000000000 ≤ ((fc a * 256).tdiv (fc b)).natAbs := by
    rcases fc_cases ((fc a * 256).tdiv (fc b)) with h | h | h <;> (unfold absZ at k; split at k <;> omega)
  rw [Int.natAbs_tdiv] at e
  rw [absZ_nat, absZ_nat]
  have d := Nat.div_add_mod (fc a * 256).natAbs (fc b).natAbs
  have := abs_mul_le (q := (fc a * 256).natAbs / (fc b).natAbs) (b := (fc b).natAbs) (x := (fc a * 256).natAbs) (t := (fc a * 256).natAbs % (fc b).natAbs) (by rw [Nat.mul_comm]; exact d.symm) (by omega)
  omega
theorem fdiv_rest {a b : Int} (h : fc b ≠ 0) (k : absZ (fdiv a b) ≠ 1000000000) : fc a * 256 - fdiv a b * fc b = (fc a * 256).tmod (fc b) := by
  unfold fdiv at *; rw [if_neg h] at *
  have e : fc ((fc a * 256).tdiv (fc b)) = (fc a * 256).tdiv (fc b) := by
    rcases fc_cases ((fc a * 256).tdiv (fc b)) with h | h | h <;> (unfold absZ at k; split at k <;> omega)
  rw [e]
  have := Int.mul_tdiv_add_tmod (fc a * 256) (fc b)
  rw [Int.mul_comm (fc b)] at this
  omega
theorem absZ_bd {n B : Int} (h : -B ≤ n ∧ n ≤ B) : 0 ≤ absZ n ∧ absZ n ≤ B := by unfold absZ; split <;> omega
theorem tmod_abs (x : Int) {m : Int} (h : m ≠ 0) : absZ (x.tmod m) < absZ m := by
  rw [absZ_nat, absZ_nat, Int.natAbs_tmod]
  have := Nat.mod_lt x.natAbs (show 0 < m.natAbs by omega)
  omega
theorem tmod_sign (x m : Int) : x.tmod m = 0 ∨ (decide (x.tmod m < 0) = decide (x < 0)) := by
  by_cases h : x < 0
  · have e := Int.tmod_nonneg m (show 0 ≤ -x by omega)
    rw [Int.neg_tmod] at e
    by_cases k : x.tmod m = 0
    · exact .inl k
    · exact .inr (by rw [decide_eq_true h, decide_eq_true]; omega)
  · have e := Int.tmod_nonneg m (show 0 ≤ x by omega)
    exact .inr (by rw [decide_eq_false h, decide_eq_false]; omega)
def fsqrt (n : Int) : Int := rootZ (fc n * 256)
theorem fsqrt_le {n : Int} (h : fc n ≤ 0) : fsqrt n = 0 := by
  unfold fsqrt
  by_cases k : fc n * 256 < 0
  · exact rootZ_neg k
  · exact rootZ_of ⟨by omega, by omega, by omega⟩
end Go.Proofs.YtkblddegfobpaaaGreat
namespace Go.Proofs.YtkblddegfobpaaaGreat
open Go.RowKit
set_option linter.unusedVariables false

theorem ret_int {k : IntKind} {a b : Int} (h : a = b) : Ending.returned (.int k a) = .returned (.int k b) := by rw [h]
theorem ret_bool {a b : Bool} (h : a = b) : Ending.returned (.bool a) = .returned (.bool b) := by rw [h]
theorem w64 {n : Int} (h : -9223372036854775808 ≤ n ∧ n ≤ 9223372036854775807) : wrap64 n = n := by unfold wrap64; omega

theorem cset_same {w : World} {a : Addr} {u v : Value} (h : w.cell? a = some u) : (w.setCell a v).cell? a = some v := World.cell?_setCell_same _ _ _ h
theorem cset_far {w : World} {p a : Addr} {v : Value} (h : a.block ≠ p.block) : (w.setCell p v).cell? a = w.cell? a := World.cell?_of_block (Below.heap_setCell _ _ _ _ h)
theorem cset_other {w : World} {p a : Addr} {v : Value} (h : p ≠ a) : (w.setCell p v).cell? a = w.cell? a := World.cell?_setCell_other _ _ _ _ h
theorem calloc_old {w : World} {a : Addr} {o : Obj} (h : a.block < w.heap.size) : (w.alloc o).cell? a = w.cell? a := World.cell?_of_block (Below.heap_alloc _ _ _ h)
theorem falloc_old {w : World} {a : Addr} {o : Obj} (h : a.block < w.heap.size) : (w.alloc o).frozen? a = w.frozen? a := World.frozen?_of_block (Below.heap_alloc _ _ _ h)
theorem fset_far {w : World} {p a : Addr} {v : Value} (h : a.block ≠ p.block) : (w.setCell p v).frozen? a = w.frozen? a := World.frozen?_of_block (Below.heap_setCell _ _ _ _ h)
theorem cell_lt {w : World} {a : Addr} {v : Value} (h : w.cell? a = some v) : a.block < w.heap.size := by
  rcases Nat.lt_or_ge a.block w.heap.size with k | k
  · exact k
  · simp [World.cell?, Array.getElem?_eq_none k] at h

/-- All blocks that were there are as they were, but for block rb. -/
structure But (rb : Nat) (w w' : World) : Prop where
  os : w'.os = w.os
  tape : w'.tape = w.tape
  output : w'.output = w.output
  size : w.heap.size ≤ w'.heap.size
  block : ∀ k, k < w.heap.size → k ≠ rb → w'.heap[k]? = w.heap[k]?

theorem But.refl (rb : Nat) (w : World) : But rb w w := ⟨rfl, rfl, rfl, Nat.le_refl _, fun _ _ _ => rfl⟩
theorem But.trans {rb : Nat} {a b c : World} (h : But rb a b) (k : But rb b c) : But rb a c :=
  ⟨k.os.trans h.os, k.tape.trans h.tape, k.output.trans h.output, Nat.le_trans h.size k.size, fun i hi hn => (k.block i (Nat.lt_of_lt_of_le hi h.size) hn).trans (h.block i hi hn)⟩
theorem But.of_below {rb : Nat} {w w' : World} (h : Below w.heap.size w w') : But rb w w' := ⟨h.os, h.tape, h.output, h.size, fun k hk _ => h.block k hk⟩
theorem But.below {rb B : Nat} {w w' : World} (h : But rb w w') (hB : B ≤ rb) (hB' : B ≤ w.heap.size) : Below B w w' := ⟨h.os, h.tape, h.output, h.size, fun k hk => h.block k (by omega) (by omega)⟩
theorem But.alloc {rb : Nat} {a w : World} (h : But rb a w) (o : Obj) : But rb a (w.alloc o) :=
  h.trans ⟨rfl, rfl, rfl, by simp, fun k hk _ => Below.heap_alloc _ _ _ hk⟩
theorem But.setCell {rb : Nat} {a w : World} (h : But rb a w) {p : Addr} (hp : p.block = rb) (u : Value) : But rb a (w.setCell p u) :=
  h.trans ⟨rfl, rfl, rfl, by simp [World.setCell], fun k _ hn => Below.heap_setCell _ _ _ _ (by omega)⟩
theorem But.drewN {rb : Nat} {a w : World} (h : But rb a w) (n : Nat) : But rb a (w.drewN n) := ⟨h.os, h.tape, h.output, h.size, h.block⟩
theorem But.cell {rb : Nat} {w w' : World} (h : But rb w w') {p : Addr} (hp : p.block < w.heap.size) (hn : p.block ≠ rb) : w'.cell? p = w.cell? p := World.cell?_of_block (w := w) (h.block p.block hp hn)
theorem But.frozen {rb : Nat} {w w' : World} (h : But rb w w') {p : Addr} (hp : p.block < w.heap.size) (hn : p.block ≠ rb) : w'.frozen? p = w.frozen? p := World.frozen?_of_block (w := w) (h.block p.block hp hn)

theorem xor_nonneg {x y : Int} (h0 : 0 ≤ x) (h1 : x < 4611686018427387904) (k0 : 0 ≤ y) (k1 : y < 4611686018427387904) : 0 ≤ bits .xor .i64 x y := by
  obtain ⟨a, rfl⟩ := Int.eq_ofNat_of_zero_le h0
  obtain ⟨b, rfl⟩ := Int.eq_ofNat_of_zero_le k0
  have hx : a ^^^ b < 2 ^ 62 := Nat.xor_lt_two_pow (by omega) (by omega)
  have e1 : (BitVec.ofInt 64 (a : Int)).toNat = a := by
    rw [BitVec.ofInt_natCast, BitVec.toNat_ofNat]; exact Nat.mod_eq_of_lt (by omega)
  have e2 : (BitVec.ofInt 64 (b : Int)).toNat = b := by
    rw [BitVec.ofInt_natCast, BitVec.toNat_ofNat]; exact Nat.mod_eq_of_lt (by omega)
  show 0 ≤ IntKind.i64.wrap ((BitVec.ofInt 64 (a : Int) ^^^ BitVec.ofInt 64 (b : Int)).toNat : Int)
  rw [BitVec.toNat_xor, e1, e2]
  simp [IntKind.wrap, IntKind.bits, IntKind.signed]
  omega
section
variable {P : Program} {md : Region.Mode} {ops : Array Oper} {Q : Exit → Act → World → Prop} {S : World → Prop}
theorem tk (i : Nat) (oi : Oper) {v : Value} {fuel : Nat} {listed : Array Bool} {a : Act} {w : World} (hi : ops[i]? = some oi)
    (hc : (Region.noSelect ops && (Region.free md ops listed i && (Region.ready md ops listed).contains i)) = true)
    (hQ : ∀ c a w, Q (.panic c) (a.put oi.dst v) w → Q (.panic c) a w) (hw : Region.wanted oi (yielded ops a.tmps) = true) (hS : S w)
    (hv : ∀ w, S w → (execOp a.eval oi).run P w = .ok (.value v) w)
    (h : wpAnyH P md ops Q S fuel (listed.setIfInBounds i true) (a.put oi.dst v) w) : wpAnyH P md ops Q S (fuel + 1) listed a w := by
  simp only [Bool.and_eq_true] at hc
  exact wpAnyH_take hi hc.1 hc.2.1 hc.2.2 hQ (.inl ⟨hw, hv⟩) hS h
end
end Go.Proofs.YtkblddegfobpaaaGreat
namespace Go.Proofs.YtkblddegfobpaaaGreat
open Go.RowKit
set_option linter.unusedVariables false

/-- The reader at block rb: a slice of at most 2000 bytes that lie elsewhere, and its place p. -/
def Rd (w : World) (rb p : Nat) : Prop := ∃ (a : Option Addr) (len cap : Nat), w.cell? ⟨rb, 0, none⟩ = some (.slice a len cap) ∧ w.cell? ⟨rb, 1, none⟩ = some (.int .i64 (p : Int)) ∧ w.frozen? ⟨rb, 1, none⟩ = false ∧ len ≤ 2000 ∧
  (len = 0 ∨ ∃ b off, a = some ⟨b, off, none⟩ ∧ b < rb ∧ ∀ i, i < len → ∃ z : Int, w.cell? ⟨b, off + i, none⟩ = some (.int .u8 z) ∧ 0 ≤ z ∧ z ≤ 255)

theorem Rd.lt {w : World} {rb p : Nat} (h : Rd w rb p) : rb < w.heap.size := by
  obtain ⟨a, len, cap, c0, _⟩ := h; exact cell_lt c0
theorem Rd.below {w w' : World} {rb p : Nat} (h : Rd w rb p) (k : Below w.heap.size w w') : Rd w' rb p := by
  have hl := h.lt
  obtain ⟨a, len, cap, c0, c1, f1, hle, hz⟩ := h
  refine ⟨a, len, cap, by rw [k.cell hl]; exact c0, by rw [k.cell hl]; exact c1, by rw [k.frozen hl]; exact f1, hle, ?_⟩
  rcases hz with hz | ⟨b, off, ha, hb, hz⟩
  · exact .inl hz
  · refine .inr ⟨b, off, ha, hb, fun i hi => ?_⟩
    obtain ⟨z, hz, r⟩ := hz i hi
    exact ⟨z, by rw [k.cell (cell_lt hz)]; exact hz, r⟩
theorem Rd.step {w : World} {rb p : Nat} (h : Rd w rb p) (m : Nat) (q : Nat) : Rd ((w.setCell ⟨rb, 1, none⟩ (.int .i64 (q : Int))).drewN m) rb q := by
  obtain ⟨a, len, cap, c0, c1, f1, hle, hz⟩ := h
  refine ⟨a, len, cap, ?_, ?_, ?_, hle, ?_⟩
  · rw [World.cell?_drewN, cset_other (by simp)]; exact c0
  · rw [World.cell?_drewN, cset_same c1]
  · simpa using f1
  rcases hz with hz | ⟨b, off, ha, hb, hz⟩
  · exact .inl hz
  · refine .inr ⟨b, off, ha, hb, fun i hi => ?_⟩
    obtain ⟨z, hz, r⟩ := hz i hi
    exact ⟨z, by rw [World.cell?_drewN, cset_far (Nat.ne_of_lt hb)]; exact hz, r⟩

set_option maxHeartbeats 1000000 in
theorem pick_any (rb p : Nat) (n : Int) (w : World) (hr : Rd w rb p) (hp : p ≤ 1000000) (h0 : 1 ≤ n) (h1 : n ≤ 4000000000) :
    Calls Tryz.prog 20 #[.pointer (some ⟨rb, 0, none⟩), .int .i64 n] w fun e w' => ∃ v : Int, e = .returned (.int .i64 v) ∧ 0 ≤ v ∧ v < n ∧ Rd w' rb (p + 1) ∧ But rb w w' := by
  have hr' := hr
  obtain ⟨a, len, cap, c0, c1, f1, hle, hz⟩ := hr
  have e0 : (w.setCell ⟨rb, 1, none⟩ (.int .i64 ((p : Int) + 1))).cell? ⟨rb, 0, none⟩ = some (.slice a len cap) := by rw [cset_other (by simp)]; exact c0
  have e1 : (w.setCell ⟨rb, 1, none⟩ (.int .i64 ((p : Int) + 1))).cell? ⟨rb, 1, none⟩ = some (.int .i64 ((p : Int) + 1)) := cset_same c1
  have fin : ∀ m, Rd ((w.setCell ⟨rb, 1, none⟩ (.int .i64 ((p : Int) + 1))).drewN m) rb (p + 1) ∧ But rb w ((w.setCell ⟨rb, 1, none⟩ (.int .i64 ((p : Int) + 1))).drewN m) :=
    fun m => ⟨hr'.step m (p + 1), ((But.refl rb w).setCell rfl _).drewN m⟩
  have FIN : Hid (∀ m, Rd ((w.setCell ⟨rb, 1, none⟩ (.int .i64 ((p : Int) + 1))).drewN m) rb (p + 1) ∧ But rb w ((w.setCell ⟨rb, 1, none⟩ (.int .i64 ((p : Int) + 1))).drewN m)) := fin
  clear fin hr'
  rcases Nat.eq_zero_or_pos len with hl | hl
  · subst hl
    clear hz
    have hd : decide (n < 1) = false := by simp; omega
    go_enter Tryz.func20, Tryz.ntmps20
    go_wp2
    go_ret
    exact ⟨0, rfl, by omega, by omega, FIN.out 0⟩
  · obtain ⟨b, off, rfl, hb, hz⟩ : ∃ b off, a = some ⟨b, off, none⟩ ∧ b < rb ∧ ∀ i, i < len → ∃ z : Int, w.cell? ⟨b, off + i, none⟩ = some (.int .u8 z) ∧ 0 ≤ z ∧ z ≤ 255 := by
      rcases hz with hz | hz
      · omega
      · exact hz
    have hd : decide (n < 1) = false := by simp; omega
    have hln : ((len : Int) == 0) = false := by simp; omega
    by_cases hk : p < len
    · obtain ⟨z, hc, z0, z1⟩ := hz p hk
      clear hz
      have e2 : (w.setCell ⟨rb, 1, none⟩ (.int .i64 ((p : Int) + 1))).cell? ⟨b, off + p, none⟩ = some (.int .u8 z) := by rw [cset_far (Nat.ne_of_lt hb)]; exact hc
      go_enter Tryz.func20, Tryz.ntmps20
      go_wp2
      go_ret
      exact ⟨_, rfl, Int.emod_nonneg _ (by omega), Int.emod_lt_of_pos _ (by omega), FIN.out 0⟩
    · obtain ⟨i, hi, hil⟩ : ∃ i : Nat, (p : Int) % (len : Int) = (i : Int) ∧ i < len := ⟨p % len, by omega, Nat.mod_lt _ hl⟩
      obtain ⟨j, hj, hjl⟩ : ∃ j : Nat, ((p : Int) * 7 + 3) % (len : Int) = (j : Int) ∧ j < len := ⟨(p * 7 + 3) % len, by rw [show (p : Int) * 7 + 3 = ((p * 7 + 3 : Nat) : Int) by omega]; rfl, Nat.mod_lt _ hl⟩
      obtain ⟨d, hd', hdl⟩ : ∃ d : Nat, (p : Int) / (len : Int) = (d : Int) ∧ d ≤ p := ⟨p / len, by omega, Nat.div_le_self _ _⟩
      obtain ⟨z, hc, z0, z1⟩ := hz i hil
      obtain ⟨y, hcy, y0, y1⟩ := hz j hjl
      clear hz
      have e2 : (w.setCell ⟨rb, 1, none⟩ (.int .i64 ((p : Int) + 1))).cell? ⟨b, off + i, none⟩ = some (.int .u8 z) := by rw [cset_far (Nat.ne_of_lt hb)]; exact hc
      have e3 : (w.setCell ⟨rb, 1, none⟩ (.int .i64 ((p : Int) + 1))).cell? ⟨b, off + j, none⟩ = some (.int .u8 y) := by rw [cset_far (Nat.ne_of_lt hb)]; exact hcy
      go_enter Tryz.func20, Tryz.ntmps20
      go_wp2
      go_quiet (fail)
      go_wp2
      go_ret
      exact ⟨_, rfl, Int.tmod_nonneg _ (xor_nonneg (by omega) (by omega) (by omega) (by omega)), Int.tmod_lt_of_pos _ (by omega), FIN.out _⟩

theorem Rd.of_but {w w' : World} {rb p : Nat} (h : Rd w rb p) (k : But rb w w') (c0 : w'.cell? ⟨rb, 0, none⟩ = w.cell? ⟨rb, 0, none⟩) (c1 : w'.cell? ⟨rb, 1, none⟩ = w.cell? ⟨rb, 1, none⟩) (f1 : w'.frozen? ⟨rb, 1, none⟩ = w.frozen? ⟨rb, 1, none⟩) : Rd w' rb p := by
  obtain ⟨a, len, cap, e0, e1, g1, hle, hz⟩ := h
  refine ⟨a, len, cap, c0.trans e0, c1.trans e1, f1.trans g1, hle, ?_⟩
  rcases hz with hz | ⟨b, off, ha, hb, hz⟩
  · exact .inl hz
  · refine .inr ⟨b, off, ha, hb, fun i hi => ?_⟩
    obtain ⟨z, hz, r⟩ := hz i hi
    exact ⟨z, by rw [k.cell (cell_lt hz) (Nat.ne_of_lt hb)]; exact hz, r⟩
theorem Rd.alloc {w : World} {rb p : Nat} (h : Rd w rb p) (o : Obj) : Rd (w.alloc o) rb p := h.below ((Below.refl _ _).alloc (Nat.le_refl _) o)

/-- 'list[r.pick(len(list))]' of a list of integers that lies in a block of its own. -/
theorem one_any (rb p lb len cap : Nat) (xs : List Int) (w : World) (hr : Rd w rb p) (hp : p ≤ 1000000) (hl : xs.length = len) (h0 : 1 ≤ len) (h1 : len ≤ 100) (hb : lb ≠ rb) (hc : ∀ i, i < len → w.cell? ⟨lb, i, none⟩ = some (.int .i64 (xs.getD i 0))) :
    Calls Tryz.prog 44 #[.pointer (some ⟨rb, 0, none⟩), .slice (some ⟨lb, 0, none⟩) len cap] w fun e w' => ∃ v : Int, e = .returned (.int .i64 v) ∧ v ∈ xs ∧ Rd w' rb (p + 1) ∧ But rb w w' := by
  go_enter Tryz.func44, Tryz.ntmps44
  go_wp2_with (go_at_call 20; refine (pick_any rb p _ _ hr hp (by omega) (by omega)).mono ?_; rintro e w1 ⟨v, rfl, v0, v1, hr1, hbut⟩; obtain ⟨j, rfl⟩ := Int.eq_ofNat_of_zero_le v0; have hcj := (hbut.cell (p := ⟨lb, j, none⟩) (cell_lt (hc j (by omega))) hb).trans (hc j (by omega)))
  go_ret
  exact ⟨_, rfl, by rw [List.getElem?_eq_getElem (show j < xs.length by omega)]; simp, hr1, hbut⟩

/-- Each cell of a list is an integer between two bounds. -/
def AllBd (lo hi : Int) : List Value → Prop
  | [] => True
  | c :: r => (∃ z : Int, c = .int .i64 z ∧ lo ≤ z ∧ z ≤ hi) ∧ AllBd lo hi r
theorem AllBd.get {lo hi : Int} : ∀ {l : List Value}, AllBd lo hi l → ∀ i, i < l.length → ∃ z : Int, l[i]? = some (.int .i64 z) ∧ lo ≤ z ∧ z ≤ hi
  | c :: r, h, 0, _ => by obtain ⟨z, rfl, h1, h2⟩ := h.1; exact ⟨z, rfl, h1, h2⟩
  | c :: r, h, i + 1, hi' => by simpa using AllBd.get h.2 i (by simpa using hi')
theorem AllBd.cons {lo hi z : Int} {r : List Value} (h1 : lo ≤ z) (h2 : z ≤ hi) (h : AllBd lo hi r) : AllBd lo hi (.int .i64 z :: r) := ⟨⟨z, rfl, h1, h2⟩, h⟩
theorem AllBd.nil {lo hi : Int} : AllBd lo hi [] := trivial

/-- 'r.one(..)' of a list that was just made: one of its numbers. -/
theorem one_bd (lo hi : Int) (rb p len cap : Nat) (cs : Array Value) (t : TypeId) (w : World) (hr : Rd w rb p) (hp : p ≤ 1000000) (hcs : AllBd lo hi cs.toList) (hl : cs.size = len) (h0 : 1 ≤ len) (h1 : len ≤ 100) :
    Calls Tryz.prog 44 #[.pointer (some ⟨rb, 0, none⟩), .slice (some ⟨w.heap.size, 0, none⟩) len cap] (w.alloc (.cells cs t)) fun e w' => ∃ v : Int, e = .returned (.int .i64 v) ∧ lo ≤ v ∧ v ≤ hi ∧ Rd w' rb (p + 1) ∧ But rb w w' := by
  have hlt := hr.lt
  have hx : ∀ i, i < len → ∃ z : Int, cs[i]? = some (.int .i64 z) ∧ lo ≤ z ∧ z ≤ hi := fun i hi => by
    have := hcs.get i (by simpa [hl] using hi); simpa using this
  have hcell : ∀ i : Nat, (w.alloc (.cells cs t)).cell? ⟨w.heap.size, i, none⟩ = cs[i]? := fun i => World.cell?_alloc_mark w cs t (0, 0) i
  refine (one_any rb p w.heap.size len cap (cs.toList.map intOf) _ (hr.alloc _) hp (by simpa using hl) h0 h1 (by omega) ?_).mono ?_
  · intro i hi
    obtain ⟨z, hz, _⟩ := hx i hi
    rw [hcell, hz]
    simp [hz, intOf]
  · rintro e w' ⟨v, rfl, hv, hr', hb'⟩
    refine ⟨v, rfl, ?_, ?_, hr', ((But.refl rb w).alloc _).trans hb'⟩
    all_goals
      obtain ⟨c, hc, rfl⟩ := List.mem_map.1 hv
      obtain ⟨i, hi, rfl⟩ := List.getElem_of_mem hc
      obtain ⟨z, hz, a, b⟩ := hcs.get i hi
      rw [List.getElem?_eq_getElem hi] at hz
      injection hz with hz
      rw [hz]; assumption

/-- What is opened: the reader of the bytes, in a new block. -/
theorem l1Open_any (a : Option Addr) (len cap : Nat) (w : World) (hcap : len ≤ cap)
    (hz : len = 0 ∨ ∃ b off, a = some ⟨b, off, none⟩ ∧ ∀ i, i < len → ∃ z : Int, w.cell? ⟨b, off + i, none⟩ = some (.int .u8 z) ∧ 0 ≤ z ∧ z ≤ 255) :
    Calls Tryz.prog 11 #[.slice a len cap] w fun e w' => e = .returned (.pointer (some ⟨w.heap.size, 0, none⟩)) ∧ Rd w' w.heap.size 0 ∧ Below w.heap.size w w' := by
  have fin : ∀ (len' cap' : Nat), len' ≤ len → len' ≤ 2000 → Rd (w.alloc (.cells #[.slice a len' cap', .int .i64 0] 67)) w.heap.size 0 := by
    intro len' cap' hl h2
    refine ⟨a, len', cap', ?_, ?_, ?_, h2, ?_⟩
    · go_simp
    · go_simp
    · go_simp
    rcases hz with hz | ⟨b, off, ha, hz⟩
    · exact .inl (by omega)
    · rcases Nat.eq_zero_or_pos len' with h | h
      · exact .inl h
      · obtain ⟨z, hc, _⟩ := hz 0 (by omega)
        have hlt := cell_lt hc
        refine .inr ⟨b, off, ha, hlt, fun i hi => ?_⟩
        obtain ⟨z, hz, r⟩ := hz i (by omega)
        exact ⟨z, by rw [calloc_old (cell_lt hz)]; exact hz, r⟩
  have FIN := fin
  clear fin
  by_cases h : 2000 < len
  · go_enter Tryz.func11, Tryz.ntmps11
    go_wp2
    go_ret
    exact ⟨rfl, FIN _ _ (by omega) (by omega), (Below.refl _ _).alloc (Nat.le_refl _) _⟩
  · go_enter Tryz.func11, Tryz.ntmps11
    go_wp2
    go_ret
    exact ⟨rfl, FIN _ _ (by omega) (by omega), (Below.refl _ _).alloc (Nat.le_refl _) _⟩


/-- The reader stands at p at most, and since the world w0 nothing but its block has turned. -/
def RB (w0 w : World) (rb p : Nat) : Prop := ∃ q, q ≤ p ∧ Rd w rb q ∧ But rb w0 w
theorem RB.mono {w0 w : World} {rb p p' : Nat} (h : RB w0 w rb p) (k : p ≤ p') : RB w0 w rb p' := by
  obtain ⟨q, a, b⟩ := h; exact ⟨q, by omega, b⟩
theorem RB.start {w : World} {rb p : Nat} (h : Rd w rb p) : RB w w rb p := ⟨p, Nat.le_refl _, h, But.refl _ _⟩
theorem RB.alloc {w0 w : World} {rb p : Nat} (h : RB w0 w rb p) (o : Obj) : RB w0 (w.alloc o) rb p := by
  obtain ⟨q, a, b, c⟩ := h; exact ⟨q, a, b.alloc o, c.alloc o⟩
theorem RB.below {w0 w w' : World} {rb p : Nat} (h : RB w0 w rb p) (k : Below w.heap.size w w') : RB w0 w' rb p := by
  obtain ⟨q, a, b, c⟩ := h; exact ⟨q, a, b.below k, c.trans (But.of_below k)⟩
theorem RB.lt {w0 w : World} {rb p : Nat} (h : RB w0 w rb p) : rb < w.heap.size := by
  obtain ⟨q, a, b, c⟩ := h; exact b.lt
theorem RB.old {w0 w : World} {rb p : Nat} (h : RB w0 w rb p) {B : Nat} (hB : B ≤ rb) (hB' : B ≤ w0.heap.size) : Below B w0 w := by
  obtain ⟨q, a, b, c⟩ := h; exact c.below hB hB'

theorem pick_rb (w0 : World) (rb p : Nat) (n : Int) (w : World) (hr : RB w0 w rb p) (hp : p ≤ 999000) (h0 : 1 ≤ n) (h1 : n ≤ 4000000000) :
    Calls Tryz.prog 20 #[.pointer (some ⟨rb, 0, none⟩), .int .i64 n] w fun e w' => ∃ v : Int, e = .returned (.int .i64 v) ∧ 0 ≤ v ∧ v < n ∧ RB w0 w' rb (p + 1) := by
  obtain ⟨q, a, b, c⟩ := hr
  refine (pick_any rb q n w b (by omega) h0 h1).mono ?_
  rintro e w' ⟨v, rfl, v0, v1, hr', hb'⟩
  exact ⟨v, rfl, v0, v1, q + 1, by omega, hr', c.trans hb'⟩
theorem one_rb (lo hi : Int) (w0 : World) (rb p len cap : Nat) (cs : Array Value) (t : TypeId) (w : World) (hr : RB w0 w rb p) (hp : p ≤ 999000) (hcs : AllBd lo hi cs.toList) (hl : cs.size = len) (h0 : 1 ≤ len) (h1 : len ≤ 100) :
    Calls Tryz.prog 44 #[.pointer (some ⟨rb, 0, none⟩), .slice (some ⟨w.heap.size, 0, none⟩) len cap] (w.alloc (.cells cs t)) fun e w' => ∃ v : Int, e = .returned (.int .i64 v) ∧ lo ≤ v ∧ v ≤ hi ∧ RB w0 w' rb (p + 1) := by
  obtain ⟨q, a, b, c⟩ := hr
  refine (one_bd lo hi rb q len cap cs t w b (by omega) hcs hl h0 h1).mono ?_
  rintro e w' ⟨v, rfl, v0, v1, hr', hb'⟩
  exact ⟨v, rfl, v0, v1, q + 1, by omega, hr', c.trans hb'⟩

/-- A slice of bytes that came in: within its room; empty, or its bytes lie there. -/
def Bytes (w : World) (a : Option Addr) (len cap : Nat) : Prop :=
  len ≤ cap ∧ (len = 0 ∨ ∃ b off, a = some ⟨b, off, none⟩ ∧ ∀ i, i < len → ∃ z : Int, w.cell? ⟨b, off + i, none⟩ = some (.int .u8 z) ∧ 0 ≤ z ∧ z ≤ 255)
theorem Bytes.below {w w' : World} {a : Option Addr} {len cap : Nat} (h : Bytes w a len cap) (k : Below w.heap.size w w') : Bytes w' a len cap := by
  refine ⟨h.1, ?_⟩
  rcases h.2 with h | ⟨b, off, ha, hz⟩
  · exact .inl h
  · refine .inr ⟨b, off, ha, fun i hi => ?_⟩
    obtain ⟨z, hz, r⟩ := hz i hi
    exact ⟨z, by rw [k.cell (cell_lt hz)]; exact hz, r⟩
theorem Bytes.nil (w : World) : Bytes w none 0 0 := ⟨Nat.le_refl _, .inl rfl⟩
theorem Bytes.of {w : World} {x : Addr} {len cap : Nat} {zs : List Int} (hl : len ≤ cap) (hz : zs.length = cap) (hcell : ∀ i, i < zs.length → w.cell? (x.add i) = some (.int .u8 (zs.getD i 0))) (hwz : ∀ n ∈ zs, (Lit.int .u8 n).wf = true) : Bytes w (some x) len cap := by
  refine ⟨hl, ?_⟩
  rcases Nat.eq_zero_or_pos len with h | h
  · exact .inl h
  · obtain ⟨b, off, spot⟩ := x
    have hc := hcell 0 (by omega)
    have hspot : spot = none := by simpa [Addr.add] using World.cell?_spot hc
    subst hspot
    refine .inr ⟨b, off, rfl, fun i hi => ⟨zs[i]?.getD 0, ?_, (range_u8 hwz i).1, (range_u8 hwz i).2⟩⟩
    have h := hcell i (by omega)
    by_cases h0 : i = 0
    · subst h0; simpa [Addr.add] using h
    · simpa [Addr.add, h0] using h

theorem l1Open_rb (a : Option Addr) (len cap : Nat) (w : World) (hb : Bytes w a len cap) :
    Calls Tryz.prog 11 #[.slice a len cap] w fun e w' => e = .returned (.pointer (some ⟨w.heap.size, 0, none⟩)) ∧ RB w' w' w.heap.size 0 ∧ Below w.heap.size w w' :=
  (l1Open_any a len cap w hb.1 hb.2).mono fun _ _ ⟨h1, h2, h3⟩ => ⟨h1, RB.start h2, h3⟩
theorem RB.done {w w0 w' : World} {p : Nat} (k : Below w.heap.size w w0) (h : RB w0 w' w.heap.size p) : Below w.heap.size w w' :=
  k.trans (h.old (Nat.le_refl _) k.size)

/-- A store into a block that was made behind the reader's, and behind the world w0. -/
theorem Rd.setNew {w : World} {rb p : Nat} (h : Rd w rb p) {a : Addr} (ha : rb < a.block) (v : Value) : Rd (w.setCell a v) rb p := by
  obtain ⟨s, len, cap, c0, c1, f1, hle, hz⟩ := h
  refine ⟨s, len, cap, ?_, ?_, ?_, hle, ?_⟩
  · rw [cset_far (Nat.ne_of_lt ha)]; exact c0
  · rw [cset_far (Nat.ne_of_lt ha)]; exact c1
  · rw [fset_far (Nat.ne_of_lt ha)]; exact f1
  rcases hz with hz | ⟨b, off, e, hb, hz⟩
  · exact .inl hz
  · refine .inr ⟨b, off, e, hb, fun i hi => ?_⟩
    obtain ⟨z, hz, r⟩ := hz i hi
    exact ⟨z, by rw [cset_far (by show b ≠ a.block; omega)]; exact hz, r⟩
theorem RB.setNew {w0 w : World} {rb p : Nat} (h : RB w0 w rb p) {a : Addr} (ha : rb < a.block) (h0 : w0.heap.size ≤ a.block) (v : Value) : RB w0 (w.setCell a v) rb p := by
  obtain ⟨q, k, b, c⟩ := h
  exact ⟨q, k, b.setNew ha v, ⟨c.os, c.tape, c.output, by simpa [World.setCell] using c.size, fun k hk hn => (Below.heap_setCell _ _ _ _ (by omega)).trans (c.block k hk hn)⟩⟩
theorem RB.cells {w0 w : World} {rb p : Nat} (h : RB w0 w rb p) : (∀ b o, b < w0.heap.size → b ≠ rb → w.cell? ⟨b, o, none⟩ = w0.cell? ⟨b, o, none⟩) ∧ (∀ b o, b < w0.heap.size → b ≠ rb → w.frozen? ⟨b, o, none⟩ = w0.frozen? ⟨b, o, none⟩) := by
  obtain ⟨q, k, b, c⟩ := h
  exact ⟨fun b o hb hn => c.cell (p := ⟨b, o, none⟩) hb hn, fun b o hb hn => c.frozen (p := ⟨b, o, none⟩) hb hn⟩
/-- What was reckoned from the world behind a new block on, told from the elder world on. -/
theorem RB.join {w0 w w' : World} {o : Obj} {rb p p' : Nat} (h : RB w0 w rb p) (k : RB (w.alloc o) w' rb p') : RB w0 w' rb p' := by
  obtain ⟨q, a, b, c⟩ := h
  obtain ⟨q', a', b', c'⟩ := k
  exact ⟨q', a', b', (c.alloc o).trans c'⟩
theorem RB.fresh {w0 w : World} {rb p : Nat} (h : RB w0 w rb p) (o : Obj) : RB (w.alloc o) (w.alloc o) rb p := by
  obtain ⟨q, a, b, c⟩ := h; exact ⟨q, a, b.alloc o, But.refl _ _⟩
end Go.Proofs.YtkblddegfobpaaaGreat
namespace Go.Proofs.YtkblddegfobpaaaGreat
open Go.RowKit
set_option linter.unusedVariables false

end Go.Proofs.YtkblddegfobpaaaGreat
namespace Go.Proofs.YtkblddegfobpaaaGreat
open Go.RowKit

theorem held_any (n l : Int) (w : World) (h0 : 0 ≤ l) (h1 : l ≤ 4000000000) :
    Calls Tryz.prog 117 #[.int .i64 n, .int .i64 l] w fun e w' => e = .returned (.int .i64 (clampZ l n)) ∧ w' = w := by
  go_enter Tryz.func117, Tryz.ntmps117
  go_wp2
  all_goals
    go_ret
    refine ⟨ret_int ?_, rfl⟩
    unfold clampZ
    repeat' split
    all_goals (repeat' split at *) <;> omega

theorem sFixClamp_any (n : Int) (w : World) :
    Calls Tryz.prog 114 #[.int .i64 n] w fun e w' => e = .returned (.int .i64 (fc n)) ∧ w' = w := by
  go_enter Tryz.func114, Tryz.ntmps114
  go_wp2
  all_goals
    go_ret
    refine ⟨ret_int ?_, rfl⟩
    unfold fc clampZ
    repeat' split
    all_goals omega

end Go.Proofs.YtkblddegfobpaaaGreat
namespace Go.Proofs.YtkblddegfobpaaaGreat
open Go.RowKit
set_option linter.unusedVariables false

theorem lt_of_sq {a b : Int} (hb : 0 ≤ b) (h : a * a < b * b) : a < b := by
  rcases Int.lt_or_le a b with k | k
  · exact k
  · have := sq_mono hb k; omega
theorem le_of_sq {a b : Int} (hb : 0 ≤ b) (h : a * a < (b + 1) * (b + 1)) : a ≤ b := by
  have := lt_of_sq (show 0 ≤ b + 1 by omega) h; omega
/-- the middle of two -/
theorem mid {l h : Int} (a : 0 ≤ l) (b : l + 1 < h) : l < (l + h) / 2 ∧ (l + h) / 2 < h := by omega

set_option maxHeartbeats 400000 in
theorem l1Root_any (n : Int) (w : World) (h0 : 0 ≤ n) (h1 : n ≤ 2000000000000000000) :
    Calls Tryz.prog 115 #[.int .i64 n] w fun e w' => e = .returned (.int .i64 (rootZ n)) ∧ w' = w := by
  go_enter Tryz.func115, Tryz.ntmps115
  go_wp2
  go_loop [4] (fun t => ∃ h : Int, 1 ≤ h ∧ h ≤ 2828427126 ∧ t = .int .i64 h) (fun t => (2828427126 - intOf t).toNat)
  case atStart => exact ⟨1, by omega, by omega, rfl⟩
  case round =>
    obtain ⟨h, a1, a2, rfl⟩ := hrel
    have hb := mul_bd (a := h) (b := h) (A := 2828427126) (B := 2828427126) (by omega) (by omega)
    obtain ⟨hb1, hb2⟩ := hb
    by_cases hc : h * h ≤ n
    · have hle : h ≤ 1414213563 := le_of_sq (by omega) (by omega)
      go_wp2
      go_round
      case rel => exact ⟨2 * h, by omega, by omega, rfl⟩
      case measure => simp [intOf]; omega
    · go_wp2
      go_loop [3, 4] (fun s t => ∃ l h : Int, 0 ≤ l ∧ l < h ∧ h ≤ 2828427126 ∧ l * l ≤ n ∧ n < h * h ∧ s = .int .i64 l ∧ t = .int .i64 h) (fun s t => (intOf t - intOf s).toNat)
      case atStart => exact ⟨0, h, by omega, by omega, by omega, by omega, by omega, rfl, rfl⟩
      case round =>
        obtain ⟨l, h, b0, b1, b2, b3, b4, rfl, rfl⟩ := hrel
        by_cases hd : 1 < h - l
        · have hm := mid b0 (show l + 1 < h by omega)
          have hb := mul_bd (a := (l + h) / 2) (b := (l + h) / 2) (A := 2828427126) (B := 2828427126) (by omega) (by omega)
          obtain ⟨hb1, hb2⟩ := hb
          obtain ⟨hm1, hm2⟩ := hm
          by_cases he : (l + h) / 2 * ((l + h) / 2) ≤ n
          · go_wp2
            go_round
            case rel => exact ⟨_, h, by omega, hm2, by omega, he, by omega, rfl, rfl⟩
            case measure => simp [intOf]; omega
          · go_wp2
            go_round
            case rel => exact ⟨l, _, by omega, hm1, by omega, b3, by omega, rfl, rfl⟩
            case measure => simp [intOf]; omega
        · have e : h = l + 1 := by omega
          go_wp2
          go_ret
          exact ⟨ret_int (rootZ_of ⟨b0, b3, by rw [← e]; exact b4⟩).symm, rfl⟩

def cellInt (w : World) (a : Addr) : Int := match w.cell? a with | some v => intOf v | none => 0
theorem cellInt_of {w : World} {a : Addr} {k : IntKind} {n : Int} (h : w.cell? a = some (.int k n)) : cellInt w a = n := by simp [cellInt, h, intOf]

set_option maxHeartbeats 400000 in
theorem narrow_any (B : Nat) (n l h : Int) (w : World) (hl : w.cell? ⟨B + 1, 0, none⟩ = some (.int .i64 l)) (hh : w.cell? ⟨B + 2, 0, none⟩ = some (.int .i64 h)) (hn : w.cell? ⟨B, 0, none⟩ = some (.int .i64 n))
    (fl : w.frozen? ⟨B + 1, 0, none⟩ = false) (fh : w.frozen? ⟨B + 2, 0, none⟩ = false) (a0 : 0 ≤ l) (a1 : l + 1 < h) (a2 : h ≤ 2147483648) :
    Calls Tryz.prog 123 #[.pointer (some ⟨B + 1, 0, none⟩), .pointer (some ⟨B + 2, 0, none⟩), .pointer (some ⟨B, 0, none⟩)] w fun e w' => ∃ l' h' : Int,
      e = .returned (.bool (decide (1 < h' - l'))) ∧ 0 ≤ l' ∧ l' < h' ∧ h' ≤ 2147483648 ∧ h' - l' < h - l ∧ (l' = l ∨ l' * l' ≤ n) ∧ (h' = h ∨ n < h' * h') ∧
      w'.cell? ⟨B + 1, 0, none⟩ = some (.int .i64 l') ∧ w'.cell? ⟨B + 2, 0, none⟩ = some (.int .i64 h') ∧ w'.cell? ⟨B, 0, none⟩ = some (.int .i64 n) ∧
      w'.frozen? ⟨B + 1, 0, none⟩ = false ∧ w'.frozen? ⟨B + 2, 0, none⟩ = false ∧ Below B w w' := by
  have hm := mid a0 a1
  have hb := mul_bd (a := (l + h) / 2) (b := (l + h) / 2) (A := 2147483648) (B := 2147483648) (by omega) (by omega)
  obtain ⟨hb1, hb2⟩ := hb
  obtain ⟨hm1, hm2⟩ := hm
  by_cases he : (l + h) / 2 * ((l + h) / 2) ≤ n
  · go_enter Tryz.func123, Tryz.ntmps123
    go_wp2
    go_ret
    exact ⟨(l + h) / 2, h, rfl, by omega, by omega, by omega, by omega, .inr he, .inl rfl, cset_same hl, by rw [cset_far (by simp)]; exact hh,
      by rw [cset_far (by simp)]; exact hn, by simpa using fl, by simpa using fh, (Below.refl _ _).setCell (by simp) _⟩
  · go_enter Tryz.func123, Tryz.ntmps123
    go_wp2
    go_ret
    exact ⟨l, (l + h) / 2, rfl, by omega, by omega, by omega, by omega, .inl rfl, .inr (by omega), by rw [cset_far (by simp)]; exact hl, cset_same hh,
      by rw [cset_far (by simp)]; exact hn, by simpa using fl, by simpa using fh, (Below.refl _ _).setCell (by simp) _⟩

set_option maxHeartbeats 400000 in
theorem root_any (n : Int) (w : World) (h1 : n ≤ 2000000000000000000) :
    Calls Tryz.prog 116 #[.int .i64 n] w fun e w' => e = .returned (.int .i64 (rootZ n)) ∧ Below w.heap.size w w' := by
  go_enter Tryz.func116, Tryz.ntmps116
  go_wp2
  go_loopw [] (fun wr => ∃ l h : Int, 0 ≤ l ∧ l + 1 < h ∧ h ≤ 2147483648 ∧ (l = 0 ∨ l * l ≤ n) ∧ n < h * h ∧
      wr.cell? ⟨w.heap.size + 1, 0, none⟩ = some (.int .i64 l) ∧ wr.cell? ⟨w.heap.size + 2, 0, none⟩ = some (.int .i64 h) ∧ wr.cell? ⟨w.heap.size, 0, none⟩ = some (.int .i64 n) ∧
      wr.frozen? ⟨w.heap.size + 1, 0, none⟩ = false ∧ wr.frozen? ⟨w.heap.size + 2, 0, none⟩ = false ∧ Below w.heap.size w wr)
    (fun wr => (cellInt wr ⟨w.heap.size + 2, 0, none⟩ - cellInt wr ⟨w.heap.size + 1, 0, none⟩).toNat)
  case atStart =>
    refine ⟨0, 2147483648, by omega, by omega, by omega, .inl rfl, by omega, ?_, ?_, ?_, ?_, ?_, ?_⟩
    iterate 5 go_simp
    exact (((Below.refl _ _).alloc (Nat.le_refl _) _).alloc (by simp) _).alloc (by simp; omega) _
  case round =>
    obtain ⟨l, h, a0, a1, a2, a3, a4, c1, c2, c0, f1, f2, hbel⟩ := hrel
    go_wp2_with (go_at_call 123; refine (narrow_any _ _ _ _ _ c1 c2 c0 f1 f2 a0 a1 a2).mono ?_; rintro e w1 ⟨l', h', rfl, b0, b1, b2, b3, b4, b5, d1, d2, d0, g1, g2, hb1⟩)
    · go_roundw
      case rel => exact ⟨l', h', by omega, by omega, by omega, by rcases b4 with rfl | k; exact a3; exact .inr k, by rcases b5 with rfl | k; exact a4; exact k, d1, d2, d0, g1, g2, hbel.trans hb1⟩
      case measure => simp only [cellInt_of c1, cellInt_of c2, cellInt_of d1, cellInt_of d2]; omega
    · go_ret
      refine ⟨ret_int ?_, hbel.trans hb1⟩
      have e : h' = l' + 1 := by omega
      have q4 : n < (l' + 1) * (l' + 1) := by rw [← e]; rcases b5 with rfl | k; exact a4; exact k
      have q3 : l' = 0 ∨ l' * l' ≤ n := by rcases b4 with rfl | k; exact a3; exact .inr k
      rcases q3 with rfl | q3
      · by_cases hn : n < 0
        · rw [rootZ_neg hn]
        · exact (rootZ_of ⟨by omega, by omega, q4⟩).symm
      · exact (rootZ_of ⟨b0, q3, q4⟩).symm

end Go.Proofs.YtkblddegfobpaaaGreat
namespace Go.Proofs.YtkblddegfobpaaaGreat
open Go.RowKit
set_option linter.unusedVariables false

theorem bcell {W w1 : World} (hb : Below W.heap.size W w1) : (∀ b o, b < W.heap.size → w1.cell? ⟨b, o, none⟩ = W.cell? ⟨b, o, none⟩) ∧ (∀ b o, b < W.heap.size → w1.frozen? ⟨b, o, none⟩ = W.frozen? ⟨b, o, none⟩) :=
  ⟨fun b o h => hb.cell (p := ⟨b, o, none⟩) h, fun b o h => hb.frozen (p := ⟨b, o, none⟩) h⟩
theorem blt {W w1 : World} (hb : Below W.heap.size W w1) : ∀ b, b < W.heap.size → b < w1.heap.size := fun b h => Nat.lt_of_lt_of_le h hb.size
theorem belowDrewN {B : Nat} {a w : World} (h : Below B a w) (n : Nat) : Below B a (w.drewN n) := ⟨h.os, h.tape, h.output, h.size, h.block⟩
/-- what a walk leaves is younger: found by its own text -/
theorem bel_a {B : Nat} {a w : World} (h : Below B a w := by repeat (first | with_reducible apply Below.refl | (with_reducible apply Below.setCell; rotate_left; focus (first | omega | (simp; done) | (simp; omega))) | (with_reducible apply Below.alloc; rotate_left; focus (first | omega | (simp; done) | (simp; omega))) | with_reducible apply Below.drew | with_reducible apply belowDrewN | (with_reducible apply Below.trans; rotate_left; with_reducible apply Below.mono; with_reducible assumption; focus (first | omega | (simp; done) | (simp; omega))))) : Below B a w := h

theorem cset_map (w : World) (a : Addr) (v : Value) : (w.setCell a v).cell? a = (w.cell? a).map fun _ => v := by
  cases h : w.cell? a with
  | some u => rw [cset_same h]; rfl
  | none =>
    simp only [World.cell?, World.setCell, Array.getElem?_modify, if_true] at *
    cases hb : w.heap[a.block]? with
    | none => simp
    | some o =>
      rw [hb] at h
      cases o with
      | cells c t fr =>
        by_cases hs : a.spot.isSome
        · simp [hs]
        · simp [hs] at h ⊢; omega
      | _ => simp

theorem i64w {n : Int} (h : -9223372036854775808 ≤ n ∧ n ≤ 9223372036854775807) : IntKind.i64.wrap n = n := by
  simp [IntKind.wrap, IntKind.bits, IntKind.signed]; omega
/-- how far two ways go together -/
def vdot (x y u v : Int) : Int := fc ((fc x * fc u + fc y * fc v).tdiv 256)
/-- how long a way is -/
def vl (x y : Int) : Int := clampZ 1000000000 (rootZ (x * x + y * y))
/-- a way made as long as 1 -/
def ux (x y : Int) : Int := if vl x y = 0 then 0 else (x * 256).tdiv (vl x y)
def uy (x y : Int) : Int := if vl x y = 0 then 256 else (y * 256).tdiv (vl x y)
theorem vl_bd (x y : Int) : 0 ≤ vl x y ∧ vl x y ≤ 1000000000 := by
  have h := rootZ_nonneg (x * x + y * y)
  have k := clampZ_bd (l := 1000000000) (rootZ (x * x + y * y)) (by decide)
  refine ⟨?_, k.2⟩
  unfold vl clampZ; repeat' split
  all_goals omega
theorem sq_bd {x y : Int} (hx : -1000000000 ≤ x ∧ x ≤ 1000000000) (hy : -1000000000 ≤ y ∧ y ≤ 1000000000) : 0 ≤ x * x + y * y ∧ x * x + y * y ≤ 2000000000000000000 := by
  have p := mul_bd hx hx
  have q := mul_bd hy hy
  have p0 : 0 ≤ x * x := by rcases Int.le_total 0 x with h | h; exact Int.mul_nonneg h h; exact Int.mul_nonneg_of_nonpos_of_nonpos h h
  have q0 : 0 ≤ y * y := by rcases Int.le_total 0 y with h | h; exact Int.mul_nonneg h h; exact Int.mul_nonneg_of_nonpos_of_nonpos h h
  omega

abbrev vv (x y : Int) : Value := .agg #[.int .i64 x, .int .i64 y]

theorem wayOf_any (x y : Int) (w : World) :
    Calls Tryz.prog 35 #[vv x y] w fun e w' => e = .returned (vv x y) ∧ Below w.heap.size w w' := by
  have hset := cset_map
  go_enter Tryz.func35, Tryz.ntmps35
  go_wp2
  exact bodyPost_ret (v := vv x y) (by simp [results, Tryz.results35, go_sem]) rfl ⟨rfl, bel_a⟩

theorem vec_any (x y : Int) (w : World) :
    Calls Tryz.prog 40 #[vv x y] w fun e w' => e = .returned (vv x y) ∧ Below w.heap.size w w' := by
  have hset := cset_map
  go_enter Tryz.func40, Tryz.ntmps40
  go_wp2
  exact bodyPost_ret (v := vv x y) (by simp [results, Tryz.results40, go_sem]) rfl ⟨rfl, bel_a⟩

theorem plus_any (x y u v : Int) (w : World) (hx : -4000000000 ≤ x ∧ x ≤ 4000000000) (hy : -4000000000 ≤ y ∧ y ≤ 4000000000) (hu : -4000000000 ≤ u ∧ u ≤ 4000000000) (hv : -4000000000 ≤ v ∧ v ≤ 4000000000) :
    Calls Tryz.prog 118 #[vv x y, vv u v] w fun e w' => e = .returned (vv (x + u) (y + v)) ∧ Below w.heap.size w w' := by
  have hset := cset_map
  go_enter Tryz.func118, Tryz.ntmps118
  go_wp2
  exact bodyPost_ret (v := vv (x + u) (y + v)) (by simp [results, Tryz.results118, go_sem]) rfl ⟨rfl, bel_a⟩

theorem less_any (x y u v : Int) (w : World) (hx : -4000000000 ≤ x ∧ x ≤ 4000000000) (hy : -4000000000 ≤ y ∧ y ≤ 4000000000) (hu : -4000000000 ≤ u ∧ u ≤ 4000000000) (hv : -4000000000 ≤ v ∧ v ≤ 4000000000) :
    Calls Tryz.prog 67 #[vv x y, vv u v] w fun e w' => e = .returned (vv (x - u) (y - v)) ∧ Below w.heap.size w w' := by
  have hset := cset_map
  go_enter Tryz.func67, Tryz.ntmps67
  go_wp2
  exact bodyPost_ret (v := vv (x - u) (y - v)) (by simp [results, Tryz.results67, go_sem]) rfl ⟨rfl, bel_a⟩

theorem products_any (x y u v : Int) (w : World) (hx : -1500000000 ≤ x ∧ x ≤ 1500000000) (hy : -1500000000 ≤ y ∧ y ≤ 1500000000) (hu : -1500000000 ≤ u ∧ u ≤ 1500000000) (hv : -1500000000 ≤ v ∧ v ≤ 1500000000) :
    Calls Tryz.prog 98 #[vv x y, vv u v] w fun e w' => e = .returned (.int .i64 (x * u + y * v)) ∧ Below w.heap.size w w' := by
  have p := mul_bd (a := x) (b := u) (A := 1500000000) (B := 1500000000) hx hu
  have q := mul_bd (a := y) (b := v) (A := 1500000000) (B := 1500000000) hy hv
  have hset := cset_map
  go_enter Tryz.func98, Tryz.ntmps98
  go_wp2
  go_ret
  exact ⟨rfl, bel_a⟩

def vokB (x y : Int) : Bool := decide (-1000000000 ≤ x ∧ x ≤ 1000000000 ∧ -1000000000 ≤ y ∧ y ≤ 1000000000)
def inB (l x y : Int) : Bool := decide (-l ≤ x ∧ x ≤ l ∧ -l ≤ y ∧ y ≤ l)
theorem within_any (n l : Int) (w : World) (h0 : 0 ≤ l) (h1 : l ≤ 4000000000) :
    Calls Tryz.prog 90 #[.int .i64 n, .int .i64 l] w fun e w' => e = .returned (.bool (decide (-l ≤ n ∧ n ≤ l))) ∧ w' = w := by
  go_enter Tryz.func90, Tryz.ntmps90
  go_wp2
  all_goals
    go_ret
    refine ⟨ret_bool ?_, rfl⟩
    first | (simp; omega) | (simp; done)
theorem within2_any (x y l : Int) (w : World) (h0 : 0 ≤ l) (h1 : l ≤ 4000000000) :
    Calls Tryz.prog 53 #[vv x y, .int .i64 l] w fun e w' => e = .returned (.bool (inB l x y)) ∧ Below w.heap.size w w' := by
  go_enter Tryz.func53, Tryz.ntmps53
  go_wp2_with (go_at_call 90; refine (within_any _ _ _ h0 h1).mono ?_; rintro e w' ⟨rfl, rfl⟩)

  all_goals
    go_ret
    refine ⟨ret_bool ?_, bel_a⟩
    unfold inB
    first | (simp; omega) | (simp [*]; done) | (simp at *; omega)
end Go.Proofs.YtkblddegfobpaaaGreat
namespace Go.Proofs.YtkblddegfobpaaaGreat
open Go.RowKit
set_option linter.unusedVariables false
set_option linter.unusedSimpArgs false

end Go.Proofs.YtkblddegfobpaaaGreat
namespace Go.Proofs.YtkblddegfobpaaaGreat
open Go.RowKit
set_option linter.unusedVariables false
set_option linter.unusedSimpArgs false

/-- a number that was drawn -/
def Dn (x : Int) : Prop := -1099511627776 ≤ x ∧ x ≤ 1099511627776

theorem RB.size {w0 w : World} {rb p : Nat} (h : RB w0 w rb p) : w0.heap.size ≤ w.heap.size := by
  have := (h.old (B := 0) (Nat.zero_le _) (Nat.zero_le _)).size
  exact this

theorem bcellB {B : Nat} {a b : World} (hb : Below B a b) : (∀ x o, x < B → b.cell? ⟨x, o, none⟩ = a.cell? ⟨x, o, none⟩) ∧ (∀ x o, x < B → b.frozen? ⟨x, o, none⟩ = a.frozen? ⟨x, o, none⟩) :=
  ⟨fun x o h => hb.cell (p := ⟨x, o, none⟩) h, fun x o h => hb.frozen (p := ⟨x, o, none⟩) h⟩

end Go.Proofs.YtkblddegfobpaaaGreat
namespace Go.Proofs.YtkblddegfobpaaaGreat
open Go.RowKit
set_option linter.unusedVariables false
set_option linter.unusedSimpArgs false

set_option maxHeartbeats 1000000 in
theorem l2Clamp_any (x y : Int) (w : World) :
    Calls Tryz.prog 113 #[vv x y] w fun e w' => e = .returned (vv (fc x) (fc y)) ∧ Below w.heap.size w w' := by
  have hset := cset_map
  go_enter Tryz.func113, Tryz.ntmps113
  go_wp2
  go_region_with (go_at_call 114; refine (sFixClamp_any _ _).mono ?_; rintro e w' ⟨rfl, rfl⟩)
  all_goals
    go_wp2
    exact bodyPost_ret (v := vv (fc x) (fc y)) (by simp [results, Tryz.results113, go_sem, *]) rfl ⟨rfl, bel_a⟩

theorem l1In_any (n l h : Int) (w : World) :
    Calls Tryz.prog 29 #[.int .i64 n, .int .i64 l, .int .i64 h] w fun e w' => e = .returned (.bool (decide (l ≤ n ∧ n ≤ h))) ∧ w' = w := by
  go_enter Tryz.func29, Tryz.ntmps29
  go_wp2
  all_goals
    go_ret
    refine ⟨ret_bool ?_, rfl⟩
    first | (simp; omega) | (simp; done)

set_option maxHeartbeats 1000000 in
theorem sVecSub_any (x y u v : Int) (w : World) :
    Calls Tryz.prog 127 #[vv x y, vv u v] w fun e w' => e = .returned (vv (fc (fc x - fc u)) (fc (fc y - fc v))) ∧ Below w.heap.size w w' := by
  have hx := fc_bd x
  have hy := fc_bd y
  have hu := fc_bd u
  have hv := fc_bd v
  have hset := cset_map
  go_enter Tryz.func127, Tryz.ntmps127
  go_wp2_with (go_at_call 113; refine (l2Clamp_any _ _ _).mono ?_; rintro e w1 ⟨rfl, hb1⟩; obtain ⟨hc1, hf1⟩ := bcell hb1; have hz1 := hb1.size; (try simp at hz1); have hq1x0a : w.heap.size < w1.heap.size := (by omega); have hq1x1a : w.heap.size + 1 < w1.heap.size := (by omega); have hq1x2a : w.heap.size + 1 + 1 < w1.heap.size := (by omega); have hq1x2b : w.heap.size + 2 < w1.heap.size := (by omega))
  exact bodyPost_ret (v := vv (fc (fc x - fc u)) (fc (fc y - fc v))) (by simp [results, Tryz.results127, go_sem, *]) rfl ⟨rfl, bel_a⟩

set_option maxHeartbeats 1000000 in
theorem sVecDot_any (x y u v : Int) (w : World) :
    Calls Tryz.prog 126 #[vv x y, vv u v] w fun e w' => e = .returned (.int .i64 (vdot x y u v)) ∧ Below w.heap.size w w' := by
  have hx := fc_bd x
  have hy := fc_bd y
  have hu := fc_bd u
  have hv := fc_bd v
  have p := mul_bd hx hu
  have q := mul_bd hy hv
  have hset := cset_map
  go_enter Tryz.func126, Tryz.ntmps126
  go_wp2_with (first
    | (go_at_call 113; refine (l2Clamp_any _ _ _).mono ?_; rintro e w1 ⟨rfl, hb1⟩; obtain ⟨hc1, hf1⟩ := bcell hb1; have hz1 := hb1.size; (try simp at hz1); have hq1x0a : w.heap.size < w1.heap.size := (by omega); have hq1x1a : w.heap.size + 1 < w1.heap.size := (by omega))
    | (go_at_call 114; refine (sFixClamp_any _ _).mono ?_; rintro e w' ⟨rfl, rfl⟩))
  go_ret
  exact ⟨rfl, bel_a⟩

end Go.Proofs.YtkblddegfobpaaaGreat
namespace Go.Proofs.YtkblddegfobpaaaGreat
open Go.RowKit
set_option linter.unusedVariables false
set_option linter.unusedSimpArgs false

def szB (n : Int) : Bool := decide (1 ≤ n ∧ n ≤ 25600)
theorem isSize_any (n : Int) (w : World) :
    Calls Tryz.prog 65 #[.int .i64 n] w fun e w' => e = .returned (.bool (szB n)) ∧ w' = w := by
  go_enter Tryz.func65, Tryz.ntmps65
  go_wp2
  all_goals
    go_ret
    refine ⟨ret_bool ?_, rfl⟩
    unfold szB
    first | (simp; omega) | (simp; done)

/-- whether a shape is ok -/
def rdB (k wd h : Int) : Bool := decide (k = 1 ∧ (1 ≤ wd ∧ wd ≤ 25600) ∧ h = 0)
def bxB (k wd h : Int) : Bool := decide (k = 2 ∧ (1 ≤ wd ∧ wd ≤ 25600) ∧ (1 ≤ h ∧ h ≤ 25600))
def shB (k wd h : Int) : Bool := rdB k wd h || bxB k wd h
abbrev s3 (k wd h : Int) : Value := .agg #[.int .i64 k, .int .i64 wd, .int .i64 h]

theorem figureOf_round (wd : Int) (w : World) (h1 : 1 ≤ wd) (h2 : wd ≤ 25600) :
    Calls Tryz.prog 33 #[s3 1 wd 0] w fun e w' => e = .returned (.tuple #[.iface 113 (.agg #[.int .i64 wd]), .bool true]) ∧ Below w.heap.size w w' := by
  have hs : szB wd = true := by unfold szB; simp; omega
  go_enter Tryz.func33, Tryz.ntmps33
  go_wp2_with (go_at_call 65; refine (isSize_any _ _).mono ?_; rintro e w' ⟨rfl, rfl⟩)
  go_ret2
  exact ⟨rfl, (Below.refl _ _).alloc (Nat.le_refl _) _⟩
theorem figureOf_box (wd h : Int) (w : World) (h1 : 1 ≤ wd) (h2 : wd ≤ 25600) (h3 : 1 ≤ h) (h4 : h ≤ 25600) :
    Calls Tryz.prog 33 #[s3 2 wd h] w fun e w' => e = .returned (.tuple #[.iface 115 (.agg #[.int .i64 wd, .int .i64 h]), .bool true]) ∧ Below w.heap.size w w' := by
  have hs : szB wd = true := by unfold szB; simp; omega
  have hs2 : szB h = true := by unfold szB; simp; omega
  go_enter Tryz.func33, Tryz.ntmps33
  go_wp2_with (go_at_call 65; refine (isSize_any _ _).mono ?_; rintro e w' ⟨rfl, rfl⟩)
  go_ret2
  exact ⟨rfl, (Below.refl _ _).alloc (Nat.le_refl _) _⟩
set_option maxHeartbeats 1000000 in
theorem figureOf_none (k wd h : Int) (w : World) (hn : shB k wd h = false) :
    Calls Tryz.prog 33 #[s3 k wd h] w fun e w' => e = .returned (.tuple #[.nilIface, .bool false]) ∧ Below w.heap.size w w' := by
  have HN : Hid (¬ ((k = 1 ∧ (1 ≤ wd ∧ wd ≤ 25600) ∧ h = 0) ∨ (k = 2 ∧ (1 ≤ wd ∧ wd ≤ 25600) ∧ (1 ≤ h ∧ h ≤ 25600)))) := by
    unfold shB rdB bxB at hn
    simp only [Bool.or_eq_false_iff, decide_eq_false_iff_not] at hn
    rintro (h | h)
    · exact hn.1 h
    · exact hn.2 h
  clear hn
  have hsz : Hid (∀ n, szB n = true → 1 ≤ n ∧ n ≤ 25600) := by intro n hn; unfold szB at hn; simpa using hn
  go_enter Tryz.func33, Tryz.ntmps33
  go_wp2_with (go_at_call 65; refine (isSize_any _ _).mono ?_; rintro e w' ⟨rfl, rfl⟩)
  all_goals
    first
      | (go_ret2; exact ⟨rfl, (Below.refl _ _).alloc (Nat.le_refl _) _⟩)
      | (exfalso; subst k; exact HN.out (.inl ⟨rfl, hsz.out _ ‹_›, by simpa using ‹(h == 0) = true›⟩))
      | (exfalso; subst k; exact HN.out (.inr ⟨rfl, hsz.out _ ‹szB wd = true›, hsz.out _ ‹szB h = true›⟩))

theorem shapeOk_any (k wd h : Int) (w : World) :
    Calls Tryz.prog 50 #[s3 k wd h] w fun e w' => e = .returned (.bool (shB k wd h)) ∧ Below w.heap.size w w' := by
  by_cases hr : rdB k wd h = true
  · have e : shB k wd h = true := by unfold shB; rw [hr]; rfl
    have E : Hid (shB k wd h = true) := e
    clear e
    unfold rdB at hr
    obtain ⟨rfl, ⟨h1, h2⟩, rfl⟩ := of_decide_eq_true hr
    clear hr
    go_enter Tryz.func50, Tryz.ntmps50
    go_wp2_with (go_at_call 33; refine (figureOf_round _ _ h1 h2).mono ?_; rintro e w1 ⟨rfl, hb1⟩)
    go_ret
    exact ⟨ret_bool E.out.symm, ((Below.refl _ _).alloc (Nat.le_refl _) _).trans (hb1.mono (by simp))⟩
  · by_cases hb : bxB k wd h = true
    · have e : shB k wd h = true := by unfold shB; rw [hb]; simp
      have E : Hid (shB k wd h = true) := e
      clear e hr
      unfold bxB at hb
      obtain ⟨rfl, ⟨h1, h2⟩, h3, h4⟩ := of_decide_eq_true hb
      clear hb
      go_enter Tryz.func50, Tryz.ntmps50
      go_wp2_with (go_at_call 33; refine (figureOf_box _ _ _ h1 h2 h3 h4).mono ?_; rintro e w1 ⟨rfl, hb1⟩)
      go_ret
      exact ⟨ret_bool E.out.symm, ((Below.refl _ _).alloc (Nat.le_refl _) _).trans (hb1.mono (by simp))⟩
    · have e : shB k wd h = false := by unfold shB; simp [hr, hb]
      have E : Hid (shB k wd h = false) := e
      clear e hr hb
      go_enter Tryz.func50, Tryz.ntmps50
      go_wp2_with (go_at_call 33; refine (figureOf_none _ _ _ _ E.out).mono ?_; rintro e w1 ⟨rfl, hb1⟩)
      go_ret
      exact ⟨ret_bool E.out.symm, ((Below.refl _ _).alloc (Nat.le_refl _) _).trans (hb1.mono (by simp))⟩

set_option maxHeartbeats 1000000 in
theorem sShapeOk_any (k wd h : Int) (w : World) :
    Calls Tryz.prog 30 #[s3 k wd h] w fun e w' => e = .returned (.bool (shB k wd h)) ∧ Below w.heap.size w w' := by
  go_enter Tryz.func30, Tryz.ntmps30
  go_wp2_with (go_at_call 29; refine (l1In_any _ _ _ _).mono ?_; rintro e w' ⟨rfl, rfl⟩)
  all_goals
    go_ret
    refine ⟨ret_bool ?_, (Below.refl _ _).alloc (Nat.le_refl _) _⟩
    unfold shB rdB bxB
    first | (simp [*]; done) | (simp at *; subst k; simp [*]; done) | (simp at *; subst k; simp [*]; rfl) | (simp at *; subst k; simp; omega) | (simp at *; simp [*]; done)

end Go.Proofs.YtkblddegfobpaaaGreat
namespace Go.Proofs.YtkblddegfobpaaaGreat
open Go.RowKit
set_option linter.unusedVariables false
set_option linter.unusedSimpArgs false

abbrev b4 (a b c d : Int) : Value := .agg #[.int .i64 a, .int .i64 b, .int .i64 c, .int .i64 d]
/-- none greater -/
def leB (x y u v : Int) : Bool := decide (x ≤ u ∧ y ≤ v)
/-- whether a box is ok -/
def bokB (a b c d : Int) : Bool := vokB a b && (vokB c d && leB a b c d)

theorem noneGreater_any (x y u v : Int) (w : World) :
    Calls Tryz.prog 103 #[vv x y, vv u v] w fun e w' => e = .returned (.bool (leB x y u v)) ∧ Below w.heap.size w w' := by
  have hset := cset_map
  go_enter Tryz.func103, Tryz.ntmps103
  go_wp2
  all_goals
    go_ret
    refine ⟨ret_bool ?_, bel_a⟩
    unfold leB
    first | (simp; done) | (simp; omega) | (simp at *; omega)

end Go.Proofs.YtkblddegfobpaaaGreat
namespace Go.Proofs.YtkblddegfobpaaaGreat
open Go.RowKit
set_option linter.unusedVariables false
set_option linter.unusedSimpArgs false

/-- a number of a place, a box or a shape that was drawn -/
def Bn (x : Int) : Prop := -1100000000 ≤ x ∧ x ≤ 1100000000

/-- the reader at block rb, its place at most p -/
def RS (w : World) (rb p : Nat) : Prop := ∃ q, q ≤ p ∧ Rd w rb q
theorem RS.of {w0 w : World} {rb p : Nat} (h : RB w0 w rb p) : RS w rb p := by
  obtain ⟨q, a, b, c⟩ := h; exact ⟨q, a, b⟩
theorem RS.rb {w : World} {rb p : Nat} (h : RS w rb p) : RB w w rb p := by
  obtain ⟨q, a, b⟩ := h; exact ⟨q, a, b, But.refl _ _⟩
theorem RS.mono {w : World} {rb p p' : Nat} (h : RS w rb p) (k : p ≤ p') : RS w rb p' := by
  obtain ⟨q, a, b⟩ := h; exact ⟨q, by omega, b⟩
theorem RS.up {w0 w : World} {rb p p' : Nat} (h : RB w0 w rb p) (k : p ≤ p') : RS w rb p' := (RS.of h).mono k
theorem RB.but {w0 w : World} {rb p : Nat} (h : RB w0 w rb p) : But rb w0 w := by
  obtain ⟨q, a, b, c⟩ := h; exact c
theorem RB.mk {w0 w : World} {rb p : Nat} (h : But rb w0 w) (k : RS w rb p) : RB w0 w rb p := by
  obtain ⟨q, a, b⟩ := k; exact ⟨q, a, b, h⟩
theorem But.setNew {rb : Nat} {a w : World} (h : But rb a w) {x : Addr} (hx : a.heap.size ≤ x.block) (u : Value) : But rb a (w.setCell x u) :=
  ⟨h.os, h.tape, h.output, by simpa [World.setCell] using h.size, fun k hk hn => (Below.heap_setCell _ _ _ _ (by omega)).trans (h.block k hk hn)⟩
theorem But.drew {rb : Nat} {a w : World} (h : But rb a w) : But rb a w.drew := ⟨h.os, h.tape, h.output, h.size, h.block⟩
theorem RS.lt {w : World} {rb p : Nat} (h : RS w rb p) : rb < w.heap.size := h.rb.lt
theorem RS.alloc {w : World} {rb p : Nat} (h : RS w rb p) (o : Obj) : RS (w.alloc o) rb p := RS.of (h.rb.alloc o)
theorem RS.setNew {w : World} {rb p : Nat} (h : RS w rb p) {a : Addr} (ha : rb < a.block) (v : Value) : RS (w.setCell a v) rb p := by
  obtain ⟨q, k, b⟩ := h; exact ⟨q, k, b.setNew ha v⟩
theorem RS.drewN {w : World} {rb p : Nat} (h : RS w rb p) (n : Nat) : RS (w.drewN n) rb p := h
theorem RS.drew {w : World} {rb p : Nat} (h : RS w rb p) : RS w.drew rb p := h
theorem RB.drewN {w0 w : World} {rb p : Nat} (h : RB w0 w rb p) (n : Nat) : RB w0 (w.drewN n) rb p := by
  obtain ⟨q, a, b, c⟩ := h; exact ⟨q, a, b, c.drewN n⟩
theorem RB.drew {w0 w : World} {rb p : Nat} (h : RB w0 w rb p) : RB w0 w.drew rb p := by
  obtain ⟨q, a, b, c⟩ := h; exact ⟨q, a, b, c.drewN 1⟩
theorem RB.trans {a b c : World} {rb p p' : Nat} (h : RB a b rb p) (k : RB b c rb p') : RB a c rb p' := by
  obtain ⟨q, _, _, x⟩ := h
  obtain ⟨q', y, z, u⟩ := k
  exact ⟨q', y, z, x.trans u⟩
theorem pick_s (rb p : Nat) (n : Int) (w : World) (hr : RS w rb p) (hp : p ≤ 999000) (h0 : 1 ≤ n) (h1 : n ≤ 4000000000) :
    Calls Tryz.prog 20 #[.pointer (some ⟨rb, 0, none⟩), .int .i64 n] w fun e w' => ∃ v : Int, e = .returned (.int .i64 v) ∧ 0 ≤ v ∧ v < n ∧ RB w w' rb (p + 1) :=
  pick_rb w rb p n w hr.rb hp h0 h1
theorem one_s (lo hi : Int) (rb p len cap : Nat) (cs : Array Value) (t : TypeId) (w : World) (hr : RS w rb p) (hp : p ≤ 999000) (hcs : AllBd lo hi cs.toList) (hl : cs.size = len) (h0 : 1 ≤ len) (h1 : len ≤ 100) :
    Calls Tryz.prog 44 #[.pointer (some ⟨rb, 0, none⟩), .slice (some ⟨w.heap.size, 0, none⟩) len cap] (w.alloc (.cells cs t)) fun e w' => ∃ v : Int, e = .returned (.int .i64 v) ∧ lo ≤ v ∧ v ≤ hi ∧ RB w w' rb (p + 1) :=
  one_rb lo hi w rb p len cap cs t w hr.rb hp hcs hl h0 h1
theorem one_g (lo hi : Int) (rb p lb len cap : Nat) (xs : List Int) (w : World) (hr : RS w rb p) (hp : p ≤ 999000) (hx : ∀ x ∈ xs, lo ≤ x ∧ x ≤ hi) (hl : xs.length = len) (h0 : 1 ≤ len) (h1 : len ≤ 100) (hb : lb ≠ rb) (hc : ∀ i, i < len → w.cell? ⟨lb, i, none⟩ = some (.int .i64 (xs.getD i 0))) :
    Calls Tryz.prog 44 #[.pointer (some ⟨rb, 0, none⟩), .slice (some ⟨lb, 0, none⟩) len cap] w fun e w' => ∃ v : Int, e = .returned (.int .i64 v) ∧ lo ≤ v ∧ v ≤ hi ∧ RB w w' rb (p + 1) := by
  obtain ⟨q, hq, hd⟩ := hr
  refine (one_any rb q lb len cap xs w hd (by omega) hl h0 h1 hb hc).mono ?_
  rintro e w' ⟨v, rfl, hv, hr', hb'⟩
  obtain ⟨v0, v1⟩ := hx v hv
  exact ⟨v, rfl, v0, v1, q + 1, by omega, hr', hb'⟩
/-- a number of a place that was drawn -/
def Bm (x : Int) : Prop := -10000 ≤ x ∧ x ≤ 10000
theorem Bm.mk {x : Int} (h : -10000 ≤ x ∧ x ≤ 10000) : Bm x := h
theorem Bm.bn {x : Int} (h : Bm x) : Bn x := by unfold Bm Bn at *; omega
theorem Bn.mk {x : Int} (h : -1100000000 ≤ x ∧ x ≤ 1100000000) : Bn x := h

set_option maxHeartbeats 2000000 in
theorem l11Place_s (rb p : Nat) (w : World) (hs0 : RS w rb p) (hp : p ≤ 997900) :
    Calls Tryz.prog 76 #[.pointer (some ⟨rb, 0, none⟩)] w fun e w' => ∃ x y : Int, e = .returned (vv x y) ∧ (Bm x ∧ Bm y) ∧ RB w w' rb (p + 60) := by
  have hlt := hs0.lt
  have hne : (w.heap.size = rb) = False := eq_false (by omega)
  have hset := cset_map
  go_enter Tryz.func76, Tryz.ntmps76
  go_wp2_with (first
    | (have _ := hr1; go_at_call 20; refine (pick_s rb (p + 20) _ _ (by repeat (first | (with_reducible apply RS.setNew; rotate_left; (first | omega | (simp only [World.size_drew, World.size_alloc, World.size_setCell]; omega))) | with_reducible apply RS.alloc | (with_reducible apply RS.up hr1; omega) | (with_reducible apply RS.mono hs0; omega) | with_reducible apply RS.drew | with_reducible apply RS.drewN)) (by omega) (by omega) (by omega)).mono ?_; rintro e w2 ⟨v2, rfl, va2, vb2, hr2⟩; obtain ⟨hc2, hf2⟩ := RB.cells hr2; have hz2 := RB.size hr2; (try simp only [World.size_drew, World.size_alloc, World.size_setCell] at hc2 hf2 hz2); have hq2x0 : w.heap.size < w2.heap.size := (by omega); have ha2x0 : (w2.heap.size = w.heap.size) = False := eq_false (by omega); have hb2x0 : (w.heap.size = w2.heap.size) = False := eq_false (by omega); have he2x0 : (w.heap.size = rb) = False := eq_false (by omega); have hk2x0 := fun o => hc2 (w.heap.size) o (by omega) (by omega); have hj2x0 := fun o => hf2 (w.heap.size) o (by omega) (by omega))
    | (go_at_call 20; refine (pick_s rb (p + 10) _ _ (by repeat (first | (with_reducible apply RS.setNew; rotate_left; (first | omega | (simp only [World.size_drew, World.size_alloc, World.size_setCell]; omega))) | with_reducible apply RS.alloc | (with_reducible apply RS.mono hs0; omega) | with_reducible apply RS.drew | with_reducible apply RS.drewN)) (by omega) (by omega) (by omega)).mono ?_; rintro e w1 ⟨v1, rfl, va1, vb1, hr1⟩; obtain ⟨hc1, hf1⟩ := RB.cells hr1; have hz1 := RB.size hr1; (try simp only [World.size_drew, World.size_alloc, World.size_setCell] at hc1 hf1 hz1); have hq1x0 : w.heap.size < w1.heap.size := (by omega); have ha1x0 : (w1.heap.size = w.heap.size) = False := eq_false (by omega); have hb1x0 : (w.heap.size = w1.heap.size) = False := eq_false (by omega); have he1x0 : (w.heap.size = rb) = False := eq_false (by omega); have hk1x0 := fun o => hc1 (w.heap.size) o (by omega) (by omega); have hj1x0 := fun o => hf1 (w.heap.size) o (by omega) (by omega)))
  exact bodyPost_ret (v := vv (v1 * 8 - 1024) (v2 * 8 - 1024)) (by simp [results, Tryz.results76, go_sem, *]) rfl ⟨_, _, rfl, ⟨Bm.mk ⟨by omega, by omega⟩, Bm.mk ⟨by omega, by omega⟩⟩, RB.mk (by repeat (first | (with_reducible apply But.setNew; rotate_left; (first | omega | (simp only [World.size_drew, World.size_alloc, World.size_setCell]; omega))) | with_reducible apply But.alloc | with_reducible apply But.trans (k := RB.but hr2) | with_reducible apply But.trans (k := RB.but hr1) | with_reducible apply But.refl | with_reducible apply But.drewN | with_reducible apply But.drew)) (by repeat (first | (with_reducible apply RS.setNew; rotate_left; (first | omega | (simp only [World.size_drew, World.size_alloc, World.size_setCell]; omega))) | with_reducible apply RS.alloc | (with_reducible apply RS.up hr2; omega) | (with_reducible apply RS.up hr1; omega) | (with_reducible apply RS.mono hs0; omega) | with_reducible apply RS.drew | with_reducible apply RS.drewN))⟩

set_option maxHeartbeats 2000000 in
theorem l11Shape_s (rb p : Nat) (w : World) (hs0 : RS w rb p) (hp : p ≤ 997900) :
    Calls Tryz.prog 75 #[.pointer (some ⟨rb, 0, none⟩)] w fun e w' => ∃ k g h : Int, e = .returned (s3 k g h) ∧ (Bn k ∧ Bn g ∧ Bn h) ∧ RB w w' rb (p + 60) := by
  have hlt := hs0.lt
  have hne : (w.heap.size = rb) = False := eq_false (by omega)
  have hset := cset_map
  go_enter Tryz.func75, Tryz.ntmps75
  go_wp2_with (first
    | (have _ := hr3; go_at_call 20; refine (pick_s rb (p + 40) _ _ (by repeat (first | (with_reducible apply RS.setNew; rotate_left; (first | omega | (simp only [World.size_drew, World.size_alloc, World.size_setCell]; omega))) | with_reducible apply RS.alloc | (with_reducible apply RS.up hr3; omega) | (with_reducible apply RS.mono hs0; omega) | with_reducible apply RS.drew | with_reducible apply RS.drewN)) (by omega) (by omega) (by omega)).mono ?_; rintro e w4 ⟨v4, rfl, va4, vb4, hr4⟩; obtain ⟨hc4, hf4⟩ := RB.cells hr4; have hz4 := RB.size hr4; (try simp only [World.size_drew, World.size_alloc, World.size_setCell] at hc4 hf4 hz4); have hq4x0 : w.heap.size < w4.heap.size := (by omega); have ha4x0 : (w4.heap.size = w.heap.size) = False := eq_false (by omega); have hb4x0 : (w.heap.size = w4.heap.size) = False := eq_false (by omega); have he4x0 : (w.heap.size = rb) = False := eq_false (by omega); have hk4x0 := fun o => hc4 (w.heap.size) o (by omega) (by omega); have hj4x0 := fun o => hf4 (w.heap.size) o (by omega) (by omega))
    | (have _ := hr2; go_at_call 20; refine (pick_s rb (p + 30) _ _ (by repeat (first | (with_reducible apply RS.setNew; rotate_left; (first | omega | (simp only [World.size_drew, World.size_alloc, World.size_setCell]; omega))) | with_reducible apply RS.alloc | (with_reducible apply RS.up hr2; omega) | (with_reducible apply RS.mono hs0; omega) | with_reducible apply RS.drew | with_reducible apply RS.drewN)) (by omega) (by omega) (by omega)).mono ?_; rintro e w3 ⟨v3, rfl, va3, vb3, hr3⟩; obtain ⟨hc3, hf3⟩ := RB.cells hr3; have hz3 := RB.size hr3; (try simp only [World.size_drew, World.size_alloc, World.size_setCell] at hc3 hf3 hz3); have hq3x0 : w.heap.size < w3.heap.size := (by omega); have ha3x0 : (w3.heap.size = w.heap.size) = False := eq_false (by omega); have hb3x0 : (w.heap.size = w3.heap.size) = False := eq_false (by omega); have he3x0 : (w.heap.size = rb) = False := eq_false (by omega); have hk3x0 := fun o => hc3 (w.heap.size) o (by omega) (by omega); have hj3x0 := fun o => hf3 (w.heap.size) o (by omega) (by omega))
    | (go_at_call 20; refine (pick_s rb (p + 10) _ _ (by repeat (first | (with_reducible apply RS.setNew; rotate_left; (first | omega | (simp only [World.size_drew, World.size_alloc, World.size_setCell]; omega))) | with_reducible apply RS.alloc | (with_reducible apply RS.mono hs0; omega) | with_reducible apply RS.drew | with_reducible apply RS.drewN)) (by omega) (by omega) (by omega)).mono ?_; rintro e w1 ⟨v1, rfl, va1, vb1, hr1⟩; obtain ⟨hc1, hf1⟩ := RB.cells hr1; have hz1 := RB.size hr1; (try simp only [World.size_drew, World.size_alloc, World.size_setCell] at hc1 hf1 hz1); have hq1x0 : w.heap.size < w1.heap.size := (by omega); have ha1x0 : (w1.heap.size = w.heap.size) = False := eq_false (by omega); have hb1x0 : (w.heap.size = w1.heap.size) = False := eq_false (by omega); have he1x0 : (w.heap.size = rb) = False := eq_false (by omega); have hk1x0 := fun o => hc1 (w.heap.size) o (by omega) (by omega); have hj1x0 := fun o => hf1 (w.heap.size) o (by omega) (by omega))
    | (have _ := hr4; go_at_call 44; refine (one_s (1) 1000 rb (p + 50) _ _ _ _ _ (by repeat (first | (with_reducible apply RS.setNew; rotate_left; (first | omega | (simp only [World.size_drew, World.size_alloc, World.size_setCell]; omega))) | with_reducible apply RS.alloc | (with_reducible apply RS.up hr4; omega) | (with_reducible apply RS.mono hs0; omega) | with_reducible apply RS.drew | with_reducible apply RS.drewN)) (by omega) (by repeat (first | exact AllBd.nil | refine AllBd.cons (by omega) (by omega) ?_)) (by rfl) (by omega) (by omega)).mono ?_; rintro e w5 ⟨v5, rfl, va5, vb5, hr5⟩; obtain ⟨hc5, hf5⟩ := RB.cells hr5; have hz5 := RB.size hr5; (try simp only [World.size_drew, World.size_alloc, World.size_setCell] at hc5 hf5 hz5); have hq5x0 : w.heap.size < w5.heap.size := (by omega); have ha5x0 : (w5.heap.size = w.heap.size) = False := eq_false (by omega); have hb5x0 : (w.heap.size = w5.heap.size) = False := eq_false (by omega); have he5x0 : (w.heap.size = rb) = False := eq_false (by omega); have hk5x0 := fun o => hc5 (w.heap.size) o (by omega) (by omega); have hj5x0 := fun o => hf5 (w.heap.size) o (by omega) (by omega))
    | (have _ := hr1; go_at_call 44; refine (one_s (1) 1000 rb (p + 20) _ _ _ _ _ (by repeat (first | (with_reducible apply RS.setNew; rotate_left; (first | omega | (simp only [World.size_drew, World.size_alloc, World.size_setCell]; omega))) | with_reducible apply RS.alloc | (with_reducible apply RS.up hr1; omega) | (with_reducible apply RS.mono hs0; omega) | with_reducible apply RS.drew | with_reducible apply RS.drewN)) (by omega) (by repeat (first | exact AllBd.nil | refine AllBd.cons (by omega) (by omega) ?_)) (by rfl) (by omega) (by omega)).mono ?_; rintro e w2 ⟨v2, rfl, va2, vb2, hr2⟩; obtain ⟨hc2, hf2⟩ := RB.cells hr2; have hz2 := RB.size hr2; (try simp only [World.size_drew, World.size_alloc, World.size_setCell] at hc2 hf2 hz2); have hq2x0 : w.heap.size < w2.heap.size := (by omega); have ha2x0 : (w2.heap.size = w.heap.size) = False := eq_false (by omega); have hb2x0 : (w.heap.size = w2.heap.size) = False := eq_false (by omega); have he2x0 : (w.heap.size = rb) = False := eq_false (by omega); have hk2x0 := fun o => hc2 (w.heap.size) o (by omega) (by omega); have hj2x0 := fun o => hf2 (w.heap.size) o (by omega) (by omega)))
  · exact bodyPost_ret (v := s3 1 v2 0) (by simp [results, Tryz.results75, go_sem, *]) rfl ⟨_, _, _, rfl, ⟨Bn.mk ⟨by omega, by omega⟩, Bn.mk ⟨by omega, by omega⟩, Bn.mk ⟨by omega, by omega⟩⟩, RB.mk (by repeat (first | (with_reducible apply But.setNew; rotate_left; (first | omega | (simp only [World.size_drew, World.size_alloc, World.size_setCell]; omega))) | with_reducible apply But.alloc | with_reducible apply But.trans (k := RB.but hr3) | with_reducible apply But.trans (k := RB.but hr2) | with_reducible apply But.trans (k := RB.but hr1) | with_reducible apply But.refl | with_reducible apply But.drewN | with_reducible apply But.drew)) (by repeat (first | (with_reducible apply RS.setNew; rotate_left; (first | omega | (simp only [World.size_drew, World.size_alloc, World.size_setCell]; omega))) | with_reducible apply RS.alloc | (with_reducible apply RS.up hr3; omega) | (with_reducible apply RS.up hr2; omega) | (with_reducible apply RS.up hr1; omega) | (with_reducible apply RS.mono hs0; omega) | with_reducible apply RS.drew | with_reducible apply RS.drewN))⟩
  · exact bodyPost_ret (v := s3 2 v2 v5) (by simp [results, Tryz.results75, go_sem, *]) rfl ⟨_, _, _, rfl, ⟨Bn.mk ⟨by omega, by omega⟩, Bn.mk ⟨by omega, by omega⟩, Bn.mk ⟨by omega, by omega⟩⟩, RB.mk (by repeat (first | (with_reducible apply But.setNew; rotate_left; (first | omega | (simp only [World.size_drew, World.size_alloc, World.size_setCell]; omega))) | with_reducible apply But.alloc | with_reducible apply But.trans (k := RB.but hr5) | with_reducible apply But.trans (k := RB.but hr4) | with_reducible apply But.trans (k := RB.but hr3) | with_reducible apply But.trans (k := RB.but hr2) | with_reducible apply But.trans (k := RB.but hr1) | with_reducible apply But.refl | with_reducible apply But.drewN | with_reducible apply But.drew)) (by repeat (first | (with_reducible apply RS.setNew; rotate_left; (first | omega | (simp only [World.size_drew, World.size_alloc, World.size_setCell]; omega))) | with_reducible apply RS.alloc | (with_reducible apply RS.up hr5; omega) | (with_reducible apply RS.up hr4; omega) | (with_reducible apply RS.up hr3; omega) | (with_reducible apply RS.up hr2; omega) | (with_reducible apply RS.up hr1; omega) | (with_reducible apply RS.mono hs0; omega) | with_reducible apply RS.drew | with_reducible apply RS.drewN))⟩
end Go.Proofs.YtkblddegfobpaaaGreat
namespace Go.Proofs.YtkblddegfobpaaaGreat
open Go.RowKit
set_option linter.unusedVariables false
set_option linter.unusedSimpArgs false

/-- numbers of a block of its own -/
def Al (w0 w : World) (ab n : Nat) (V : Nat → Int) : Prop := w0.heap.size ≤ ab ∧ ab < w.heap.size ∧ (∀ i, i < n → w.cell? ⟨ab, i, none⟩ = some (.int .i64 (V i))) ∧ ∀ i, i < n → w.frozen? ⟨ab, i, none⟩ = false
theorem Al.up {rb : Nat} {w0 w w' : World} {ab n : Nat} {V : Nat → Int} (h : Al w0 w ab n V) (hrb : rb < w0.heap.size) (k : But rb w w') : Al w0 w' ab n V := by
  obtain ⟨h1, h2, h3, h4⟩ := h
  exact ⟨h1, Nat.lt_of_lt_of_le h2 k.size, fun i hi => (k.cell (p := ⟨ab, i, none⟩) h2 (by simp only [ne_eq]; omega)).trans (h3 i hi), fun i hi => (k.frozen (p := ⟨ab, i, none⟩) h2 (by simp only [ne_eq]; omega)).trans (h4 i hi)⟩
theorem Al.set {w0 w : World} {ab n : Nat} {V : Nat → Int} (h : Al w0 w ab n V) (k : Nat) (hk : k < n) (v : Int) : Al w0 (w.setCell ⟨ab, k, none⟩ (.int .i64 v)) ab n (fun j => if j = k then v else V j) := by
  obtain ⟨h1, h2, h3, h4⟩ := h
  refine ⟨h1, by simpa [World.setCell] using h2, fun i hi => ?_, fun i hi => ?_⟩
  · by_cases e : i = k
    · subst e; rw [cset_map, h3 i hi]; simp
    · rw [cset_other (by intro q; injection q with q1 q2; exact e q2.symm), h3 i hi]; simp [e]
  · rw [World.frozen?_setCell]; exact h4 i hi

theorem but_alloc (rb : Nat) (w : World) (o : Obj) : But rb w (w.alloc o) := (But.refl rb w).alloc o
theorem Al.new {w0 w : World} {cs : Array Value} {t : TypeId} {n : Nat} {V : Nat → Int} (hsz : w0.heap.size ≤ w.heap.size) (hc : ∀ i, i < n → cs[i]? = some (.int .i64 (V i))) : Al w0 (w.alloc (.cells cs t)) w.heap.size n V :=
  ⟨hsz, by simp, fun i hi => by rw [World.cell?_alloc_new]; exact hc i hi, fun i hi => by go_simp⟩
theorem Al.congr {w0 w : World} {ab n : Nat} {V U : Nat → Int} (h : Al w0 w ab n V) (k : ∀ i, i < n → V i = U i) : Al w0 w ab n U :=
  ⟨h.1, h.2.1, fun i hi => by rw [h.2.2.1 i hi, k i hi], h.2.2.2⟩
end Go.Proofs.YtkblddegfobpaaaGreat
namespace Go.Proofs.YtkblddegfobpaaaGreat
open Go.RowKit
set_option linter.unusedVariables false
set_option linter.unusedSimpArgs false

section
variable {P : Program} {ops : Array Oper} {Q : Exit → Act → World → Prop} {md : Region.Mode}

theorem rdy_at {listed : Array Bool} {i : Nat} (h : i ∈ Region.ready md ops listed) {o : Oper} (ho : ops[i]? = some o) :
    listed.getD i true = false ∧ (o.after.toList.all fun e => !Region.binds md e || listed.getD e.on false) = true := by
  unfold Region.ready at h
  rw [List.mem_filter] at h
  obtain ⟨_, h⟩ := h
  rw [ho] at h
  simp only [Option.map_some, Option.getD_some, Bool.and_eq_true, Bool.not_eq_true'] at h
  refine ⟨h.1, ?_⟩
  have := h.2
  rw [← Array.all_toList] at this
  exact this

theorem rdy_lt {listed : Array Bool} {i : Nat} (h : i ∈ Region.ready md ops listed) : i < ops.size := by
  unfold Region.ready at h
  rw [List.mem_filter] at h
  simpa using h.1

theorem rdy_off {listed : Array Bool} {i : Nat} (h : i ∈ Region.ready md ops listed) : listed.getD i true = false := by
  have hlt := rdy_lt h
  exact (rdy_at h (o := ops[i]) (by simp [hlt])).1

/-- where nothing may come up any more, and all ahead of it has come, it has come -/
theorem rdy_on {listed : Array Bool} {i : Nat} {o : Oper} (h : Region.ready md ops listed = []) (ho : ops[i]? = some o)
    (hd : (o.after.toList.all fun e => !Region.binds md e || listed.getD e.on false) = true) : listed.getD i true = true := by
  cases hl : listed.getD i true with
  | true => rfl
  | false =>
    exfalso
    have hi : i < ops.size := by
      rcases Nat.lt_or_ge i ops.size with q | q
      · exact q
      · rw [Array.getElem?_eq_none q] at ho; cases ho
    have : i ∈ Region.ready md ops listed := by
      unfold Region.ready
      rw [List.mem_filter]
      refine ⟨by simpa using hi, ?_⟩
      rw [ho, hl]
      simp only [Option.map_some, Option.getD_some, Bool.not_false, Bool.true_and]
      rw [← Array.all_toList]
      exact hd
    rw [h] at this
    cases this

theorem cnt_set (l : List Bool) : ∀ (i : Nat), l.getD i true = false → (l.set i true).count false + 1 = l.count false := by
  induction l with
  | nil => intro i h; simp at h
  | cons x xs ih =>
    intro i h
    cases i with
    | zero =>
      have hx : x = false := by simpa using h
      subst hx
      simp
    | succ i =>
      have h' : xs.getD i true = false := by simpa using h
      have := ih i h'
      simp only [List.set_cons_succ, List.count_cons]
      omega

theorem wpAny_inv (I : Array Bool → Act → World → Prop)
    (hs : ∀ listed a w i, I listed a w → i ∈ Region.ready md ops listed → wpOp P ops Q i (fun a' w' => I (listed.setIfInBounds i true) a' w') a w)
    (he : ∀ listed a w, I listed a w → Region.ready md ops listed = [] → Q .normal a w) :
    ∀ (fuel : Nat) (listed : Array Bool) (a : Act) (w : World), listed.toList.count false ≤ fuel → I listed a w → wpAny P md ops Q fuel listed a w := by
  intro fuel
  induction fuel with
  | zero =>
    intro listed a w hc hi
    have hr : Region.ready md ops listed = [] := by
      refine List.eq_nil_iff_forall_not_mem.2 fun i h => ?_
      have hoff := rdy_off h
      have h2 : listed.toList.getD i true = false := by simpa using hoff
      have := cnt_set listed.toList i h2
      omega
    exact ⟨hr, he listed a w hi hr⟩
  | succ fuel ih =>
    intro listed a w hc hi
    refine ⟨fun hr => he listed a w hi hr, fun i h => ?_⟩
    have hoff := rdy_off h
    have h2 : listed.toList.getD i true = false := by simpa using hoff
    have h3 := cnt_set listed.toList i h2
    refine wpOp_mono (fun a' w' h' => ih _ a' w' ?_ h') (hs listed a w i hi h)
    rw [Array.toList_setIfInBounds]
    omega

theorem wp_region_inv {id : Nat} {a : Act} {w : World} (I : Array Bool → Act → World → Prop) (hm : P.follows .mixedOrders = true)
    (h0 : I (Array.replicate ops.size false) a w.drew)
    (hs : ∀ listed a w i, I listed a w → i ∈ Region.ready .any ops listed → wpOp P ops Q i (fun a' w' => I (listed.setIfInBounds i true) a' w') a w)
    (he : ∀ listed a w, I listed a w → Region.ready .any ops listed = [] → Q .normal a w) : (Code.region id ops true).wp P Q a w :=
  wp_region_any hm (wpAny_inv I hs he _ _ _ _ (by simp) h0)

theorem wpOp_shut {i : Nat} {o : Oper} {K : Act → World → Prop} {a : Act} {w : World} (ho : ops[i]? = some o)
    (h : ∀ K' : Act → World → Prop, Shut (∀ a w, K a w → K' a w) → if Region.wanted o (yielded ops a.tmps) = true then Oper.wp P o a w K' Q else K' (a.put o.dst undef) w) : wpOp P ops Q i K a w :=
  wpOp_step ho fun K' hK => h K' hK
end

/-- a list of numbers at block lb -/
def Li (w0 w : World) (lb len : Nat) (xs : List Int) : Prop := w0.heap.size ≤ lb ∧ lb < w.heap.size ∧ ∀ i, i < len → w.cell? ⟨lb, i, none⟩ = some (.int .i64 (xs.getD i 0))
theorem Li.up {rb : Nat} {w0 w w' : World} {lb len : Nat} {xs : List Int} (h : Li w0 w lb len xs) (hrb : rb < w0.heap.size) (k : But rb w w') : Li w0 w' lb len xs := by
  obtain ⟨h1, h2, h3⟩ := h
  exact ⟨h1, Nat.lt_of_lt_of_le h2 k.size, fun i hi => (k.cell (p := ⟨lb, i, none⟩) h2 (by simp only [ne_eq]; omega)).trans (h3 i hi)⟩
abbrev VI (lo hi : Int) (x : Value) : Prop := ∃ n, x = .int .i64 n ∧ lo ≤ n ∧ n ≤ hi
abbrev VP (rb : Nat) (x : Value) : Prop := x = .pointer (some ⟨rb, 0, none⟩)
abbrev VN (n : Int) (x : Value) : Prop := x = .int .i64 n
abbrev VV (lo hi : Int) (x : Value) : Prop := ∃ a b, x = vv a b ∧ (lo ≤ a ∧ a ≤ hi) ∧ lo ≤ b ∧ b ≤ hi
abbrev VS (lo hi : Int) (x : Value) : Prop := ∃ a b c, x = s3 a b c ∧ (lo ≤ a ∧ a ≤ hi) ∧ (lo ≤ b ∧ b ≤ hi) ∧ lo ≤ c ∧ c ≤ hi
def VL (w0 w : World) (c : Bool) (len : Nat) (xs : List Int) (x : Value) : Prop := ∃ lb, x = .slice (some ⟨lb, 0, none⟩) len len ∧ (c = false → Li w0 w lb len xs)
def VA (w0 w : World) (c : Bool) (n : Nat) (V : Nat → Int) (x : Value) : Prop := ∃ ab, x = .pointer (some ⟨ab, 0, none⟩) ∧ (c = false → Al w0 w ab n V)
theorem VL.up {rb : Nat} {w0 w w' : World} {c : Bool} {len : Nat} {xs : List Int} {x : Value} (h : VL w0 w c len xs x) (hrb : rb < w0.heap.size) (k : But rb w w') : VL w0 w' c len xs x := by
  obtain ⟨lb, e, h⟩ := h; exact ⟨lb, e, fun q => (h q).up hrb k⟩
theorem VL.used {w0 w w' : World} {c : Bool} {len : Nat} {xs : List Int} {x : Value} (h : VL w0 w c len xs x) : VL w0 w' true len xs x := by
  obtain ⟨lb, e, h⟩ := h; exact ⟨lb, e, fun q => Bool.noConfusion q⟩
theorem VA.up {rb : Nat} {w0 w w' : World} {c : Bool} {n : Nat} {V : Nat → Int} {x : Value} (h : VA w0 w c n V x) (hrb : rb < w0.heap.size) (k : But rb w w') : VA w0 w' c n V x := by
  obtain ⟨lb, e, h⟩ := h; exact ⟨lb, e, fun q => (h q).up hrb k⟩
theorem VA.used {w0 w w' : World} {c : Bool} {n : Nat} {V : Nat → Int} {x : Value} (h : VA w0 w c n V x) : VA w0 w' true n V x := by
  obtain ⟨lb, e, h⟩ := h; exact ⟨lb, e, fun q => Bool.noConfusion q⟩
theorem Li.new {w0 w : World} {cs : Array Value} {t : TypeId} {len : Nat} {xs : List Int} (hsz : w0.heap.size ≤ w.heap.size) (hc : ∀ i, i < len → cs[i]? = some (.int .i64 (xs.getD i 0))) : Li w0 (w.alloc (.cells cs t)) w.heap.size len xs :=
  ⟨hsz, by simp, fun i hi => by rw [World.cell?_alloc_new]; exact hc i hi⟩
end Go.Proofs.YtkblddegfobpaaaGreat
