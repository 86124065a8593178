/- Plain mathematics of ways: how far two go together, how long a sum is. -/
import Derived.Test.YtnkebpbpempmhaaPlain
namespace Go.Proofs.Ytnkebpbpempmhaa
set_option linter.unusedSimpArgs false

theorem sq_nonneg (a : Int) : 0 ≤ a * a := by
  rcases Int.le_total 0 a with h | h
  · exact Int.mul_nonneg h h
  · exact Int.mul_nonneg_of_nonpos_of_nonpos h h
theorem cs_id (x y u v : Int) : (x * u + y * v) * (x * u + y * v) + (x * v - y * u) * (x * v - y * u) = (x * x + y * y) * (u * u + v * v) := by
  simp only [Int.mul_add, Int.add_mul, Int.mul_sub, Int.sub_mul, Int.mul_assoc, Int.mul_comm, Int.mul_left_comm]
  omega
/-- Two ways, each shorter than a number, go together less far than both numbers say. -/
theorem cs_lt {x y u v A B : Int} (hA : 0 ≤ A) (hB : 0 ≤ B) (h1 : x * x + y * y < A * A) (h2 : u * u + v * v < B * B) : x * u + y * v < A * B := by
  rcases Int.lt_or_le (x * u + y * v) (A * B) with h | h
  · exact h
  exfalso
  have hab : 0 ≤ A * B := Int.mul_nonneg hA hB
  have k1 : (A * B) * (A * B) ≤ (x * u + y * v) * (x * u + y * v) := sq_mono hab h
  have k2 := cs_id x y u v
  have k3 := sq_nonneg (x * v - y * u)
  have p0 : 0 ≤ x * x + y * y := by have := sq_nonneg x; have := sq_nonneg y; omega
  have q0 : 0 ≤ u * u + v * v := by have := sq_nonneg u; have := sq_nonneg v; omega
  have k4 : (x * x + y * y) * (u * u + v * v) ≤ (A * A - 1) * (u * u + v * v) := Int.mul_le_mul_of_nonneg_right (by omega) q0
  have k5 : (A * A - 1) * (u * u + v * v) ≤ (A * A - 1) * (B * B - 1) := Int.mul_le_mul_of_nonneg_left (by omega) (by omega)
  have k6 : (A * A - 1) * (B * B - 1) = (A * B) * (A * B) - A * A - B * B + 1 := by
    simp only [Int.mul_add, Int.add_mul, Int.mul_sub, Int.sub_mul, Int.mul_assoc, Int.mul_comm, Int.mul_left_comm, Int.mul_one, Int.one_mul]
    omega
  omega
theorem cs_abs {x y u v A B : Int} (hA : 0 ≤ A) (hB : 0 ≤ B) (h1 : x * x + y * y < A * A) (h2 : u * u + v * v < B * B) : -(A * B) < x * u + y * v ∧ x * u + y * v < A * B := by
  have h := cs_lt hA hB h1 h2
  have k := cs_lt (x := -x) (y := -y) hA hB (by rw [Int.neg_mul_neg, Int.neg_mul_neg]; exact h1) h2
  simp only [Int.neg_mul] at k
  omega
/-- Two ways together are shorter than both numbers together. -/
theorem tri_lt {x y u v A B : Int} (hA : 0 ≤ A) (hB : 0 ≤ B) (h1 : x * x + y * y < A * A) (h2 : u * u + v * v < B * B) : (x + u) * (x + u) + (y + v) * (y + v) < (A + B) * (A + B) := by
  have h := cs_lt hA hB h1 h2
  simp only [Int.mul_add, Int.add_mul, Int.mul_comm] at *
  omega
theorem fc_sq_le (n : Int) : fc n * fc n ≤ n * n := by
  rcases fc_cases n with ⟨h1, h2⟩ | ⟨h1, h2⟩ | ⟨h1, h2, h3⟩
  · rw [h2]; have := sq_mono (a := 1000000000) (b := -n) (by omega) (by omega); simp only [Int.neg_mul_neg] at this; omega
  · rw [h2]; have := sq_mono (a := 1000000000) (b := n) (by omega) (by omega); omega
  · rw [h3]; omega
end Go.Proofs.Ytnkebpbpempmhaa
