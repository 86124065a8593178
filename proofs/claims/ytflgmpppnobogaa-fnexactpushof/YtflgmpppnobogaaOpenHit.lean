/- A hit that came in by value is three integers. -/
import Derived.Test.YtflgmpppnobogaaOpenBox
import Derived.ProofKit
import Derived.OpenShut
import Derived.Lib.SmallJoins
namespace Go.Proofs.Ytflgmpppnobogaa
open Go.ChangeShapes Go.WideShapes Go.ChangeAt Go.RowKit Go.Joins
set_option linter.unusedVariables false
set_option linter.unusedSimpArgs false
theorem cellsHit : Try.prog.cellsOf 58 = 3 := by kernel_rfl
set_option maxRecDepth 100000 in
theorem open_hit3 {H : Type} {enc : TypeId × Value → H} {W : World} {base b0 : Nat} {spare : Nat → Bool} {held : Bool} {v : Value} {d : DataW H} {p : List MemPlace}
    (hv : Value.okWide Try.prog W .any b0 58 v) (h : DataW.Trod enc Try.prog W base spare held 58 v d p) :
    ∃ x y k : Int, v = .agg #[.int .i64 x, .int .i64 y, .int .i64 k] := by
  obtain ⟨cs, rfl, hsz⟩ := okWide_struct Try.underlying58 hv
  obtain ⟨c0, c1, c2, rfl⟩ := array3 (hsz.trans cellsHit)
  obtain ⟨fuel, hf⟩ := h
  obtain ⟨y0, y1, n, hx, _, h0, h1⟩ := trod_struct2 Try.underlying58 hf
  have k0 : DataW.trod enc Try.prog W base spare held n 48 [c0, c1] = some y0 := by simpa [Value.cells, cellsVec] using h0
  have q2 : DataW.trod enc Try.prog W base spare held n 3 [c2] = some y1 := by simpa [Value.cells, cellsInt] using h1
  obtain ⟨z0, z1, n2, _, _, m0, m1⟩ := trod_struct2 Try.underlying48 k0
  have q0 : DataW.trod enc Try.prog W base spare held n2 3 [c0] = some z0 := by simpa [cellsInt] using m0
  have q1 : DataW.trod enc Try.prog W base spare held n2 3 [c1] = some z1 := by simpa [cellsInt] using m1
  obtain ⟨x, e0, _, wx⟩ := DataW.trod_int Try.underlying3 q0
  obtain ⟨y, e1, _, wy⟩ := DataW.trod_int Try.underlying3 q1
  obtain ⟨z, e2, _, wz⟩ := DataW.trod_int Try.underlying3 q2
  simp only [List.cons.injEq, and_true] at e0 e1 e2
  subst e0 e1 e2
  exact ⟨x, y, z, rfl⟩
end Go.Proofs.Ytflgmpppnobogaa
