/- The contracts of the two roots. -/
import Derived.Test.YtpgoicdblbpcaaaNums
namespace Go.Proofs.Ytpgoicdblbpcaaa
open Go.RowKit
set_option linter.unusedVariables false

theorem lt_of_sq {a b : Int} (hb : 0 ≤ b) (h : a * a < b * b) : a < b := by
  rcases Int.lt_or_le a b with k | k
  · exact k
  · have := sq_mono hb k; omega
theorem le_of_sq {a b : Int} (hb : 0 ≤ b) (h : a * a < (b + 1) * (b + 1)) : a ≤ b := by
  have := lt_of_sq (show 0 ≤ b + 1 by omega) h; omega
/-- the middle of two -/
theorem mid {l h : Int} (a : 0 ≤ l) (b : l + 1 < h) : l < (l + h) / 2 ∧ (l + h) / 2 < h := by omega

set_option maxHeartbeats 400000 in
theorem l1Root_any (n : Int) (w : World) (h0 : 0 ≤ n) (h1 : n ≤ 2000000000000000000) :
    Calls Try.prog 96 #[.int .i64 n] w fun e w' => e = .returned (.int .i64 (rootZ n)) ∧ w' = w := by
  go_enter Try.func96, Try.ntmps96
  go_wp2
  go_loop [4] (fun t => ∃ h : Int, 1 ≤ h ∧ h ≤ 2828427126 ∧ t = .int .i64 h) (fun t => (2828427126 - intOf t).toNat)
  case atStart => exact ⟨1, by omega, by omega, rfl⟩
  case round =>
    obtain ⟨h, a1, a2, rfl⟩ := hrel
    have hb := mul_bd (a := h) (b := h) (A := 2828427126) (B := 2828427126) (by omega) (by omega)
    obtain ⟨hb1, hb2⟩ := hb
    by_cases hc : h * h ≤ n
    · have hle : h ≤ 1414213563 := le_of_sq (by omega) (by omega)
      go_wp2
      go_round
      case rel => exact ⟨2 * h, by omega, by omega, rfl⟩
      case measure => simp [intOf]; omega
    · go_wp2
      go_loop [3, 4] (fun s t => ∃ l h : Int, 0 ≤ l ∧ l < h ∧ h ≤ 2828427126 ∧ l * l ≤ n ∧ n < h * h ∧ s = .int .i64 l ∧ t = .int .i64 h) (fun s t => (intOf t - intOf s).toNat)
      case atStart => exact ⟨0, h, by omega, by omega, by omega, by omega, by omega, rfl, rfl⟩
      case round =>
        obtain ⟨l, h, b0, b1, b2, b3, b4, rfl, rfl⟩ := hrel
        by_cases hd : 1 < h - l
        · have hm := mid b0 (show l + 1 < h by omega)
          have hb := mul_bd (a := (l + h) / 2) (b := (l + h) / 2) (A := 2828427126) (B := 2828427126) (by omega) (by omega)
          obtain ⟨hb1, hb2⟩ := hb
          obtain ⟨hm1, hm2⟩ := hm
          by_cases he : (l + h) / 2 * ((l + h) / 2) ≤ n
          · go_wp2
            go_round
            case rel => exact ⟨_, h, by omega, hm2, by omega, he, by omega, rfl, rfl⟩
            case measure => simp [intOf]; omega
          · go_wp2
            go_round
            case rel => exact ⟨l, _, by omega, hm1, by omega, b3, by omega, rfl, rfl⟩
            case measure => simp [intOf]; omega
        · have e : h = l + 1 := by omega
          go_wp2
          go_ret
          exact ⟨ret_int (rootZ_of ⟨b0, b3, by rw [← e]; exact b4⟩).symm, rfl⟩

def cellInt (w : World) (a : Addr) : Int := match w.cell? a with | some v => intOf v | none => 0
theorem cellInt_of {w : World} {a : Addr} {k : IntKind} {n : Int} (h : w.cell? a = some (.int k n)) : cellInt w a = n := by simp [cellInt, h, intOf]

end Go.Proofs.Ytpgoicdblbpcaaa
