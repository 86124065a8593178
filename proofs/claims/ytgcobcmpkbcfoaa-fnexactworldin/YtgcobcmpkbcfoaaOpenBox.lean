/- A box that came in by value is four integers. -/
import Derived.Test.YtgcobcmpkbcfoaaRows
import Derived.ProofKit
import Derived.OpenShut
import Derived.Lib.SmallJoins
namespace Go.Proofs.Ytgcobcmpkbcfoaa
open Go.ChangeShapes Go.WideShapes Go.ChangeAt Go.RowKit Go.Joins
set_option linter.unusedVariables false
set_option linter.unusedSimpArgs false
theorem cellsBox : Try.prog.cellsOf 46 = 4 := by kernel_rfl
theorem cellsVec : Try.prog.cellsOf 36 = 2 := by kernel_rfl
theorem cellsInt : Try.prog.cellsOf 3 = 1 := by kernel_rfl
set_option maxRecDepth 100000 in
theorem open_box4 {H : Type} {enc : TypeId × Value → H} {W : World} {base b0 : Nat} {spare : Nat → Bool} {held : Bool} {v : Value} {d : DataW H} {p : List MemPlace}
    (hv : Value.okWide Try.prog W .any b0 46 v) (h : DataW.Trod enc Try.prog W base spare held 46 v d p) :
    ∃ x y z u : Int, v = .agg #[.int .i64 x, .int .i64 y, .int .i64 z, .int .i64 u] ∧ (Lit.int .i64 x).wf = true ∧ (Lit.int .i64 y).wf = true ∧ (Lit.int .i64 z).wf = true ∧ (Lit.int .i64 u).wf = true := by
  obtain ⟨cs, rfl, hsz⟩ := okWide_struct Try.underlying46 hv
  obtain ⟨c0, c1, c2, c3, rfl⟩ := array4 (hsz.trans cellsBox)
  obtain ⟨fuel, hf⟩ := h
  obtain ⟨y0, y1, n, hx, _, h0, h1⟩ := trod_struct2 Try.underlying46 hf
  have k0 : DataW.trod enc Try.prog W base spare held n 36 [c0, c1] = some y0 := by simpa [Value.cells, cellsVec] using h0
  have k1 : DataW.trod enc Try.prog W base spare held n 36 [c2, c3] = some y1 := by simpa [Value.cells, cellsVec] using h1
  obtain ⟨z0, z1, n2, _, _, m0, m1⟩ := trod_struct2 Try.underlying36 k0
  obtain ⟨z2, z3, n3, _, _, m2, m3⟩ := trod_struct2 Try.underlying36 k1
  have q0 : DataW.trod enc Try.prog W base spare held n2 3 [c0] = some z0 := by simpa [cellsInt] using m0
  have q1 : DataW.trod enc Try.prog W base spare held n2 3 [c1] = some z1 := by simpa [cellsInt] using m1
  have q2 : DataW.trod enc Try.prog W base spare held n3 3 [c2] = some z2 := by simpa [cellsInt] using m2
  have q3 : DataW.trod enc Try.prog W base spare held n3 3 [c3] = some z3 := by simpa [cellsInt] using m3
  obtain ⟨x, e0, _, wx⟩ := DataW.trod_int Try.underlying3 q0
  obtain ⟨y, e1, _, wy⟩ := DataW.trod_int Try.underlying3 q1
  obtain ⟨z, e2, _, wz⟩ := DataW.trod_int Try.underlying3 q2
  obtain ⟨u, e3, _, wu⟩ := DataW.trod_int Try.underlying3 q3
  simp only [List.cons.injEq, and_true] at e0 e1 e2 e3
  subst e0 e1 e2 e3
  exact ⟨x, y, z, u, rfl, wx, wy, wz, wu⟩
end Go.Proofs.Ytgcobcmpkbcfoaa
