/- Figures: plain mathematics of texts of numbers. -/
import Derived.Lib.ItoaNum
namespace Go.Proofs.YteoegjginncffaaDoor
open Go.Lib
set_option linter.unusedVariables false
def fig (m : Nat) : UInt8 := UInt8.ofNat (48 + m)
/-- three figures -/
def pad3 (m : Nat) : List UInt8 := [fig (m / 100), fig (m / 10 % 10), fig (m % 10)]
theorem dec1 {m : Nat} (h : m < 10) : decDigits m = [fig m] := by rw [decDigits, dif_pos h]; rfl
theorem decS {m : Nat} (h : ¬ m < 10) : decDigits m = decDigits (m / 10) ++ [fig (m % 10)] := by rw [decDigits, dif_neg h]; rfl
theorem dec2 {m : Nat} (h : ¬ m < 10) (h2 : m < 100) : decDigits m = [fig (m / 10), fig (m % 10)] := by rw [decS h, dec1 (by omega)]; rfl
theorem dec3 {m : Nat} (h : ¬ m < 100) (h2 : m < 1000) : decDigits m = [fig (m / 100), fig (m / 10 % 10), fig (m % 10)] := by
  rw [decS (by omega), dec2 (by omega) (by omega), Nat.div_div_eq_div_mul]; rfl
theorem dec1000 {m : Nat} (h : m < 1000) : decDigits (1000 + m) = 49 :: pad3 m := by
  rw [decS (by omega), dec3 (by omega) (by omega)]
  unfold pad3
  rw [show (1000 + m) / 10 / 100 = 1 by omega, show (1000 + m) / 10 / 10 % 10 = m / 100 by omega, show (1000 + m) / 10 % 10 = m / 10 % 10 by omega, show (1000 + m) % 10 = m % 10 by omega]
  rfl
theorem pad3_1 {m : Nat} (h : m < 10) : pad3 m = [48, 48] ++ decDigits m := by
  rw [dec1 h]; unfold pad3; rw [show m / 100 = 0 by omega, show m / 10 % 10 = 0 by omega, show m % 10 = m by omega]; rfl
theorem pad3_2 {m : Nat} (h : ¬ m < 10) (h2 : m < 100) : pad3 m = [48] ++ decDigits m := by
  rw [dec2 h h2]; unfold pad3; rw [show m / 100 = 0 by omega, show m / 10 % 10 = m / 10 by omega]; rfl
theorem pad3_3 {m : Nat} (h : ¬ m < 100) (h2 : m < 1000) : pad3 m = decDigits m := by
  rw [dec3 h h2]; rfl
theorem dec_len (m : Nat) : (decDigits m).length ≤ m + 1 := by
  induction m using Nat.strongRecOn with
  | _ m ih =>
    by_cases h : m < 10
    · rw [dec1 h]; simp
    · rw [decS h, List.length_append]
      have := ih (m / 10) (by omega)
      simp only [List.length_cons, List.length_nil]
      omega
/-- the text of a number that is not below 0 -/
def txt (n : Nat) : List UInt8 := decDigits (n / 256) ++ [46] ++ pad3 (n % 256)
end Go.Proofs.YteoegjginncffaaDoor
