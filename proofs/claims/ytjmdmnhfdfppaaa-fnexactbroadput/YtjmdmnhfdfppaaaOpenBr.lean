/- Boxes by number that came in. -/
import Derived.Test.YtjmdmnhfdfppaaaOpenLs
import Derived.Test.YtjmdmnhfdfppaaaRows
import Derived.ProofKit
import Derived.OpenShut
import Derived.Lib.SmallJoins
namespace Go.Proofs.Ytjmdmnhfdfppaaa
open Go.RowKit Go.ChangeShapes Go.WideShapes Go.ChangeAt Go.Joins Go.Deep
set_option linter.unusedVariables false
set_option linter.unusedSimpArgs false
theorem cellsI : Try.prog.cellsOf 3 = 1 := by kernel_rfl
theorem cellsV : Try.prog.cellsOf 26 = 2 := by kernel_rfl
theorem cellsB : Try.prog.cellsOf 28 = 4 := by kernel_rfl
theorem cellsIt : Try.prog.cellsOf 30 = 5 := by kernel_rfl
theorem cellsBr : Try.prog.cellsOf 24 = 1 := by kernel_rfl
theorem cellsSl : Try.prog.cellsOf 22 = 1 := by kernel_rfl
theorem intsI : IntsOf Try.prog 3 1 := IntsOf.int Try.underlying3
theorem intsV : IntsOf Try.prog 26 2 := IntsOf.struct [1, 1] Try.underlying26 (by kernel_rfl) (fun i f c h1 h2 => match i, h1, h2 with
  | 0, h1, h2 => by cases h1; cases h2; exact ⟨cellsI, intsI⟩
  | 1, h1, h2 => by cases h1; cases h2; exact ⟨cellsI, intsI⟩
  | _ + 2, h1, h2 => by simp at h2) (by decide)
theorem intsB : IntsOf Try.prog 28 4 := IntsOf.struct [2, 2] Try.underlying28 (by kernel_rfl) (fun i f c h1 h2 => match i, h1, h2 with
  | 0, h1, h2 => by cases h1; cases h2; exact ⟨cellsV, intsV⟩
  | 1, h1, h2 => by cases h1; cases h2; exact ⟨cellsV, intsV⟩
  | _ + 2, h1, h2 => by simp at h2) (by decide)
theorem intsIt : IntsOf Try.prog 30 5 := IntsOf.struct [1, 4] Try.underlying30 (by kernel_rfl) (fun i f c h1 h2 => match i, h1, h2 with
  | 0, h1, h2 => by cases h1; cases h2; exact ⟨cellsI, intsI⟩
  | 1, h1, h2 => by cases h1; cases h2; exact ⟨cellsB, intsB⟩
  | _ + 2, h1, h2 => by simp at h2) (by decide)
theorem open_broad {H : Type} {enc : TypeId × Value → H} {W : World} {base b0 : Nat} {spare : Nat → Bool} {held : Bool} {v : Value} {d : DataW H} {p : List MemPlace}
    (hv : Value.okWide Try.prog W .any b0 24 v) (h : DataW.Trod enc Try.prog W base spare held 24 v d p) :
    ∃ (a : Option Addr) (n c : Nat) (U : Nat → Int), v = .agg #[.slice a n c] ∧ (n : Int) ≤ 9223372036854775807 ∧ Flat W a (n * 5) U ∧ ∀ q, q < n * 5 → (Lit.int .i64 (U q)).wf = true := by
  obtain ⟨cs, rfl, hsz⟩ := okWide_struct Try.underlying24 hv
  have hs1 := hsz.trans cellsBr
  obtain ⟨c0, rfl⟩ : ∃ c0, cs = #[c0] := by
    rcases cs with ⟨l⟩
    match l, hs1 with
    | [x], _ => exact ⟨x, rfl⟩
  obtain ⟨fuel, hf⟩ := h
  obtain ⟨y0, n, _, _, h0⟩ := trod_struct1 Try.underlying24 hf
  have k0 : DataW.trod enc Try.prog W base spare held n 22 [c0] = some y0 := by simpa [Value.cells, cellsSl] using h0
  obtain ⟨a, n, c, U, rfl, hn, hF, hw⟩ := open_flat (by decide) Try.underlying22 cellsIt intsIt k0
  exact ⟨a, n, c, U, rfl, hn, hF, hw⟩
theorem open_item {H : Type} {enc : TypeId × Value → H} {W : World} {base b0 : Nat} {spare : Nat → Bool} {held : Bool} {v : Value} {d : DataW H} {p : List MemPlace}
    (hv : Value.okWide Try.prog W .any b0 30 v) (h : DataW.Trod enc Try.prog W base spare held 30 v d p) :
    ∃ X : Nat → Int, v = .agg #[.int .i64 (X 0), .int .i64 (X 1), .int .i64 (X 2), .int .i64 (X 3), .int .i64 (X 4)] := by
  obtain ⟨cs, rfl, hsz⟩ := okWide_struct Try.underlying30 hv
  obtain ⟨fuel, hf⟩ := h
  obtain ⟨hl, hx⟩ := intsIt H enc W base spare held _ _ _ hf
  have key : ∀ j, j < 5 → ∃ v : Int, cs[j]? = some (.int .i64 v) := fun j hj => by obtain ⟨v, hv, _⟩ := hx j hj; exact ⟨v, by simpa [Value.cells] using hv⟩
  obtain ⟨X, hX⟩ := choose_lt key
  refine ⟨X, congrArg Value.agg ?_⟩
  apply Array.ext'
  apply List.ext_getElem?
  intro j
  have hs5 := hsz.trans cellsIt
  by_cases hj : j < 5
  · have := hX j hj
    rcases (show j = 0 ∨ j = 1 ∨ j = 2 ∨ j = 3 ∨ j = 4 by omega) with rfl | rfl | rfl | rfl | rfl <;> simpa using this
  · rw [List.getElem?_eq_none (by simp [hs5]; omega), List.getElem?_eq_none (by simp; omega)]
end Go.Proofs.Ytjmdmnhfdfppaaa
