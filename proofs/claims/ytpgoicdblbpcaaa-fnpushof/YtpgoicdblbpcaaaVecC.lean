/- The contracts of VecMul, VecDot and VecLen. -/
import Derived.Test.YtpgoicdblbpcaaaVec
import Derived.Deep.QuietTactic
import Derived.BigQuiet
import Derived.Deep.RegionWith
namespace Go.Proofs.Ytpgoicdblbpcaaa
open Go.RowKit
set_option linter.unusedVariables false
set_option linter.unusedSimpArgs false

set_option maxHeartbeats 2000000 in
theorem dot_any (x y u v : Int) (w : World) (hx : -1000000000 ≤ x ∧ x ≤ 1000000000) (hy : -1000000000 ≤ y ∧ y ≤ 1000000000) (hu : -1000000000 ≤ u ∧ u ≤ 1000000000) (hv : -1000000000 ≤ v ∧ v ≤ 1000000000) :
    Calls Try.prog 40 #[vv x y, vv u v] w fun e w' => e = .returned (.int .i64 (fc ((x * u + y * v).tdiv 256))) ∧ Below w.heap.size w w' := by
  have p := mul_bd (A := 1000000000) (B := 1000000000) hx hu
  have q := mul_bd (A := 1000000000) (B := 1000000000) hy hv
  have ht := i64w (n := (x * u + y * v).tdiv 256) (by have := tdiv_bd (x := x * u + y * v) (B := 2000000000000000000) 256 (by omega); omega)
  have hset := cset_map
  go_enter Try.func40, Try.ntmps40
  go_wp2_with (first
    | (go_at_call 74; refine (products_any _ _ _ _ _ (by omega) (by omega) (by omega) (by omega)).mono ?_; rintro e w2 ⟨rfl, hb2⟩; obtain ⟨hc2, hf2⟩ := bcell hb2; have hz2 := hb2.size; (try simp at hz2); have hq2x0a : w.heap.size < w2.heap.size := (by omega); have hq2x1a : w.heap.size + 1 < w2.heap.size := (by omega))
    | (go_at_call 47; refine (held_any _ _ _ (by omega) (by omega)).mono ?_; rintro e w' ⟨rfl, rfl⟩))
  all_goals
    go_ret
    exact ⟨rfl, by repeat (first | with_reducible apply Below.refl | (with_reducible apply Below.setCell; rotate_left; focus (first | omega | (simp; done) | (simp; omega))) | (with_reducible apply Below.alloc; rotate_left; focus (first | omega | (simp; done) | (simp; omega))) | with_reducible apply Below.drew | with_reducible apply belowDrewN | (with_reducible apply Below.trans; rotate_left; with_reducible apply Below.mono; with_reducible assumption; focus (first | omega | (simp; done) | (simp; omega))))⟩

end Go.Proofs.Ytpgoicdblbpcaaa
