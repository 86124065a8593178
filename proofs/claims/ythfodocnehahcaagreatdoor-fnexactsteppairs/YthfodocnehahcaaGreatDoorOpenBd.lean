/- Lists of bodies, as they come in. -/
import Derived.Test.YthfodocnehahcaaGreatDoorB10
import Derived.Deep.Slices
import Derived.ChangeSame
import Derived.ChangeArms
namespace Go.Proofs.YthfodocnehahcaaGreatDoor
open Go.RowKit Go.ChangeShapes Go.WideShapes Go.Deep
set_option linter.unusedVariables false
set_option linter.unusedSimpArgs false
theorem cellsI : Tryz.prog.cellsOf 3 = 1 := by kernel_rfl
theorem cellsV : Tryz.prog.cellsOf 42 = 2 := by kernel_rfl
theorem cellsSh : Tryz.prog.cellsOf 41 = 3 := by kernel_rfl
theorem cellsBd : Tryz.prog.cellsOf 44 = 12 := by kernel_rfl
theorem cellsSlB : Tryz.prog.cellsOf 22 = 1 := by kernel_rfl
theorem intsI : IntsOf Tryz.prog 3 1 := IntsOf.int Tryz.underlying3
theorem intsV : IntsOf Tryz.prog 42 2 := IntsOf.struct [1, 1] Tryz.underlying42 (by kernel_rfl) (fun i f c h1 h2 => match i, h1, h2 with
  | 0, h1, h2 => by cases h1; cases h2; exact ⟨cellsI, intsI⟩
  | 1, h1, h2 => by cases h1; cases h2; exact ⟨cellsI, intsI⟩
  | _ + 2, h1, h2 => by simp at h2) (by decide)
theorem intsSh : IntsOf Tryz.prog 41 3 := IntsOf.struct [1, 1, 1] Tryz.underlying41 (by kernel_rfl) (fun i f c h1 h2 => match i, h1, h2 with
  | 0, h1, h2 => by cases h1; cases h2; exact ⟨cellsI, intsI⟩
  | 1, h1, h2 => by cases h1; cases h2; exact ⟨cellsI, intsI⟩
  | 2, h1, h2 => by cases h1; cases h2; exact ⟨cellsI, intsI⟩
  | _ + 3, h1, h2 => by simp at h2) (by decide)
theorem intsBd : IntsOf Tryz.prog 44 12 := IntsOf.struct [1, 3, 2, 2, 1, 1, 1, 1] Tryz.underlying44 (by kernel_rfl) (fun i f c h1 h2 => match i, h1, h2 with
  | 0, h1, h2 => by cases h1; cases h2; exact ⟨cellsI, intsI⟩
  | 1, h1, h2 => by cases h1; cases h2; exact ⟨cellsSh, intsSh⟩
  | 2, h1, h2 => by cases h1; cases h2; exact ⟨cellsV, intsV⟩
  | 3, h1, h2 => by cases h1; cases h2; exact ⟨cellsV, intsV⟩
  | 4, h1, h2 => by cases h1; cases h2; exact ⟨cellsI, intsI⟩
  | 5, h1, h2 => by cases h1; cases h2; exact ⟨cellsI, intsI⟩
  | 6, h1, h2 => by cases h1; cases h2; exact ⟨cellsI, intsI⟩
  | 7, h1, h2 => by cases h1; cases h2; exact ⟨cellsI, intsI⟩
  | _ + 8, h1, h2 => by simp at h2) (by decide)
set_option maxRecDepth 100000 in
theorem open_bodies {H : Type} {enc : TypeId × Value → H} {W : World} {base b0 : Nat} {spare : Nat → Bool} {held : Bool} {v : Value} {d : DataW H} {p : List MemPlace}
    (hv : Value.okWide Tryz.prog W .any b0 22 v) (h : DataW.Trod enc Tryz.prog W base spare held 22 v d p) :
    ∃ (a : Option Addr) (n c : Nat) (U : Nat → Int), v = .slice a n c ∧ (n : Int) ≤ 9223372036854775807 ∧ Flat W a (n * 12) U ∧ ∀ q, q < n * 12 → (Lit.int .i64 (U q)).wf = true := by
  obtain ⟨a0, len, cap, rfl⟩ := okWide_slice Tryz.underlying22 hv
  obtain ⟨fuel, hf⟩ := h
  exact open_flat (by decide) Tryz.underlying22 cellsBd intsBd hf
end Go.Proofs.YthfodocnehahcaaGreatDoor
