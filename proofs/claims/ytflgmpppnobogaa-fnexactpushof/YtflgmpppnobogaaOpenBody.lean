/- A body that came in by value is twelve integers. -/
import Derived.Test.YtflgmpppnobogaaOpenBox
import Derived.ProofKit
import Derived.OpenShut
import Derived.Lib.SmallJoins
import Derived.Deep.Strs
namespace Go.Proofs.Ytflgmpppnobogaa
open Go.ChangeShapes Go.WideShapes Go.ChangeAt Go.RowKit Go.Joins
set_option linter.unusedVariables false
set_option linter.unusedSimpArgs false
theorem cellsBody : Try.prog.cellsOf 50 = 12 := by kernel_rfl
theorem cellsShape : Try.prog.cellsOf 47 = 3 := by kernel_rfl
theorem array12 {α : Type} {cs : Array α} (h : cs.size = 12) : ∃ c0 c1 c2 c3 c4 c5 c6 c7 c8 c9 c10 c11, cs = #[c0, c1, c2, c3, c4, c5, c6, c7, c8, c9, c10, c11] := by
  obtain ⟨l⟩ := cs
  match l, h with
  | [c0, c1, c2, c3, c4, c5, c6, c7, c8, c9, c10, c11], _ => exact ⟨c0, c1, c2, c3, c4, c5, c6, c7, c8, c9, c10, c11, rfl⟩
set_option maxRecDepth 100000 in
theorem open_body12 {H : Type} {enc : TypeId × Value → H} {W : World} {base b0 : Nat} {spare : Nat → Bool} {held : Bool} {v : Value} {d : DataW H} {p : List MemPlace}
    (hv : Value.okWide Try.prog W .any b0 50 v) (h : DataW.Trod enc Try.prog W base spare held 50 v d p) :
    ∃ V : Nat → Int, v = .agg #[.int .i64 (V 0), .int .i64 (V 1), .int .i64 (V 2), .int .i64 (V 3), .int .i64 (V 4), .int .i64 (V 5), .int .i64 (V 6), .int .i64 (V 7), .int .i64 (V 8), .int .i64 (V 9), .int .i64 (V 10), .int .i64 (V 11)] := by
  obtain ⟨cs, rfl, hsz⟩ := okWide_struct Try.underlying50 hv
  obtain ⟨c0, c1, c2, c3, c4, c5, c6, c7, c8, c9, c10, c11, rfl⟩ := array12 (hsz.trans cellsBody)
  obtain ⟨fuel, hf0⟩ := h
  obtain ⟨xs, n, _, hx, hl, hlen, hf⟩ := DataW.trod_struct Try.underlying50 hf0
  match xs, hlen with
  | [y0, y1, y2, y3, y4, y5, y6, y7], _ =>
    have k0 : DataW.trod enc Try.prog W base spare held n 3 [c0] = some y0 := by simpa [Value.cells, cellsInt] using hf 0 _ rfl
    have k1 : DataW.trod enc Try.prog W base spare held n 47 [c1, c2, c3] = some y1 := by simpa [Value.cells, cellsShape] using hf 1 _ rfl
    have k2 : DataW.trod enc Try.prog W base spare held n 48 [c4, c5] = some y2 := by simpa [Value.cells, cellsVec] using hf 2 _ rfl
    have k3 : DataW.trod enc Try.prog W base spare held n 48 [c6, c7] = some y3 := by simpa [Value.cells, cellsVec] using hf 3 _ rfl
    have k4 : DataW.trod enc Try.prog W base spare held n 3 [c8] = some y4 := by simpa [Value.cells, cellsInt] using hf 4 _ rfl
    have k5 : DataW.trod enc Try.prog W base spare held n 3 [c9] = some y5 := by simpa [Value.cells, cellsInt] using hf 5 _ rfl
    have k6 : DataW.trod enc Try.prog W base spare held n 3 [c10] = some y6 := by simpa [Value.cells, cellsInt] using hf 6 _ rfl
    have k7 : DataW.trod enc Try.prog W base spare held n 3 [c11] = some y7 := by simpa [Value.cells, cellsInt] using hf 7 _ rfl
    obtain ⟨s0, s1, s2, n1, _, _, a1, a2, a3⟩ := Go.Deep.trod_struct3 Try.underlying47 k1
    obtain ⟨s4, s5, n2, _, _, a4, a5⟩ := trod_struct2 Try.underlying48 k2
    obtain ⟨s6, s7, n3, _, _, a6, a7⟩ := trod_struct2 Try.underlying48 k3
    have q0 := k0
    have q1 : DataW.trod enc Try.prog W base spare held n1 3 [c1] = some s0 := by simpa [cellsInt] using a1
    have q2 : DataW.trod enc Try.prog W base spare held n1 3 [c2] = some s1 := by simpa [cellsInt] using a2
    have q3 : DataW.trod enc Try.prog W base spare held n1 3 [c3] = some s2 := by simpa [cellsInt] using a3
    have q4 : DataW.trod enc Try.prog W base spare held n2 3 [c4] = some s4 := by simpa [cellsInt] using a4
    have q5 : DataW.trod enc Try.prog W base spare held n2 3 [c5] = some s5 := by simpa [cellsInt] using a5
    have q6 : DataW.trod enc Try.prog W base spare held n3 3 [c6] = some s6 := by simpa [cellsInt] using a6
    have q7 : DataW.trod enc Try.prog W base spare held n3 3 [c7] = some s7 := by simpa [cellsInt] using a7
    have q8 := k4
    have q9 := k5
    have q10 := k6
    have q11 := k7
    obtain ⟨x0, e0, _, w0⟩ := DataW.trod_int Try.underlying3 q0
    obtain ⟨x1, e1, _, w1⟩ := DataW.trod_int Try.underlying3 q1
    obtain ⟨x2, e2, _, w2⟩ := DataW.trod_int Try.underlying3 q2
    obtain ⟨x3, e3, _, w3⟩ := DataW.trod_int Try.underlying3 q3
    obtain ⟨x4, e4, _, w4⟩ := DataW.trod_int Try.underlying3 q4
    obtain ⟨x5, e5, _, w5⟩ := DataW.trod_int Try.underlying3 q5
    obtain ⟨x6, e6, _, w6⟩ := DataW.trod_int Try.underlying3 q6
    obtain ⟨x7, e7, _, w7⟩ := DataW.trod_int Try.underlying3 q7
    obtain ⟨x8, e8, _, w8⟩ := DataW.trod_int Try.underlying3 q8
    obtain ⟨x9, e9, _, w9⟩ := DataW.trod_int Try.underlying3 q9
    obtain ⟨x10, e10, _, w10⟩ := DataW.trod_int Try.underlying3 q10
    obtain ⟨x11, e11, _, w11⟩ := DataW.trod_int Try.underlying3 q11
    simp only [List.cons.injEq, and_true] at e0 e1 e2 e3 e4 e5 e6 e7 e8 e9 e10 e11
    subst e0 e1 e2 e3 e4 e5 e6 e7 e8 e9 e10 e11
    exact ⟨fun j => match j with | 0 => x0 | 1 => x1 | 2 => x2 | 3 => x3 | 4 => x4 | 5 => x5 | 6 => x6 | 7 => x7 | 8 => x8 | 9 => x9 | 10 => x10 | _ => x11, rfl⟩
end Go.Proofs.Ytflgmpppnobogaa
