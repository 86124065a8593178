/- The contracts of places and figures. -/
import Derived.Test.YtmbdleggcnfedaaSpan
import Derived.Test.YtmbdleggcnfedaaShape
import Derived.Test.YtmbdleggcnfedaaSMeet
import Derived.Test.YtmbdleggcnfedaaSVecC
import Derived.Deep.QuietTactic
import Derived.BigQuiet
import Derived.Deep.RegionWith
import Derived.Deep.RegionHeld3
namespace Go.Proofs.Ytmbdleggcnfedaa
open Go.RowKit
set_option linter.unusedVariables false
set_option linter.unusedSimpArgs false

/-- how far up a shape goes -/
def hh (k wd h : Int) : Int := if k = 1 then wd else h
theorem inB_of {l x y : Int} (h : inB l x y = true) : (-l ≤ x ∧ x ≤ l) ∧ (-l ≤ y ∧ y ≤ l) := by
  unfold inB at h; simp only [decide_eq_true_eq] at h; omega

theorem as_rr (v : Value) (w : World) : (Instr.typeAssert (.iface 80 v) 75 80 true).run Try.prog w = .ok (.tuple #[v, .bool true]) w := by kernel_rfl
theorem as_br (v : Value) (w : World) : (Instr.typeAssert (.iface 82 v) 75 80 true).run Try.prog w = .ok (.tuple #[.agg #[.int .i64 0], .bool false]) w := by kernel_rfl
theorem as_bb (v : Value) (w : World) : (Instr.typeAssert (.iface 82 v) 75 82 true).run Try.prog w = .ok (.tuple #[v, .bool true]) w := by kernel_rfl
set_option maxHeartbeats 1000000 in
theorem l3Place_any (x y : Int) (w : World) :
    Calls Try.prog 23 #[vv x y] w fun e w' => e = .returned (.bool (inB 2560000 x y)) ∧ Below w.heap.size w w' := by
  have hset := cset_map
  go_enter Try.func23, Try.ntmps23
  go_wp2_with (go_at_call 21; refine (l1In_any _ _ _ _).mono ?_; rintro e w' ⟨rfl, rfl⟩)
  all_goals
    go_ret
    refine ⟨ret_bool ?_, by repeat (first | with_reducible apply Below.refl | (with_reducible apply Below.setCell; rotate_left; focus (first | omega | (simp; done) | (simp; omega))) | (with_reducible apply Below.alloc; rotate_left; focus (first | omega | (simp; done) | (simp; omega))) | with_reducible apply Below.drew | with_reducible apply belowDrewN | (with_reducible apply Below.trans; rotate_left; with_reducible apply Below.mono; with_reducible assumption; focus (first | omega | (simp; done) | (simp; omega))))⟩
    unfold inB
    first | (simp [*]; done) | (simp at *; omega) | (simp [*]; omega)

theorem l3Place_t (x y : Int) (w : World) (h : inB 2560000 x y = true) : Calls Try.prog 23 #[vv x y] w fun e w' => e = .returned (.bool true) ∧ Below w.heap.size w w' := by
  have k := l3Place_any x y w
  rw [h] at k
  exact k
theorem sShapeOk_t (k wd h : Int) (w : World) (hs : shB k wd h = true) : Calls Try.prog 22 #[s3 k wd h] w fun e w' => e = .returned (.bool true) ∧ Below w.heap.size w w' := by
  have q := sShapeOk_any k wd h w
  rw [hs] at q
  exact q
theorem l3Place_n (x y : Int) (w : World) (h : inB 2560000 x y = false) : Calls Try.prog 23 #[vv x y] w fun e w' => e = .returned (.bool false) ∧ Below w.heap.size w w' := by
  have k := l3Place_any x y w
  rw [h] at k
  exact k
theorem sShapeOk_n (k wd h : Int) (w : World) (hs : shB k wd h = false) : Calls Try.prog 22 #[s3 k wd h] w fun e w' => e = .returned (.bool false) ∧ Below w.heap.size w w' := by
  have q := sShapeOk_any k wd h w
  rw [hs] at q
  exact q
end Go.Proofs.Ytmbdleggcnfedaa
