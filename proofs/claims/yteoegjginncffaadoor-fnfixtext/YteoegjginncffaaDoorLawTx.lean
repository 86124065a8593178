/- The law of promise 5 (texts of numbers), walked. -/
import Derived.Test.YteoegjginncffaaDoorFxRT
import Derived.Test.YteoegjginncffaaDoorDrawTx
namespace Go.Proofs.YteoegjginncffaaDoor
open Go.RowKit Go.Lib
set_option linter.unusedVariables false
set_option linter.unusedSimpArgs false
theorem drawFixText_any (a : Option Addr) (len cap : Nat) (w : World) (hb : Bytes w a len cap) :
    Calls Tryd.prog 4 #[.slice a len cap] w fun e w' => ∃ v : Int, e = .returned (.int .i64 v) ∧ -1099511627776 ≤ v ∧ v ≤ 1099511627776 ∧ Below w.heap.size w w' := by
  go_enter Tryd.func4, Tryd.ntmps4
  go_wp2_with (first
    | (go_at_call 12; refine (l1Open_rb _ _ _ _ hb).mono ?_; rintro e w1 ⟨rfl, hr1, hbel⟩)
    | (go_at_call 11; refine (l11Num_rb _ _ _ _ (by assumption) (by omega)).mono ?_; rintro e w2 ⟨v2, rfl, v20, v21, hr2⟩))
  go_ret
  exact ⟨_, rfl, v20, v21, RB.done hbel hr2⟩
theorem txt_bytes (n : Int) : (⟨(txtI (fc n)).toArray⟩ : ByteArray).size ≤ 100 := by
  show (txtI (fc n)).toArray.size ≤ 100
  have := txtI_short (fc_bd n)
  simp only [List.size_toArray]
  omega
set_option maxHeartbeats 1000000 in
theorem drawFixRead_any (a : Option Addr) (len cap : Nat) (w : World) (hb : Bytes w a len cap) :
    Calls Tryd.prog 9 #[.slice a len cap] w fun e w' => ∃ s : ByteArray, e = .returned (.string s) ∧ s.size ≤ 1000 ∧ Below w.heap.size w w' := by
  go_enter Tryd.func9, Tryd.ntmps9
  go_wp2_with (first
    | (go_at_call 12; refine (l1Open_rb _ _ _ _ hb).mono ?_; rintro e w1 ⟨rfl, hr1, hbel⟩)
    | (go_at_call 11; refine (l11Num_rb _ _ _ _ hr1 (by omega)).mono ?_; rintro e w2 ⟨v2, rfl, v20, v21, hr2⟩)
    | (go_at_call 7; refine (sFixText_any v2 _ (wfi (by omega))).mono ?_; rintro e w3 ⟨rfl, hb3⟩; have hr3 := hr2.below hb3)
    | (go_at_call 20; refine (l11Cut_rb _ _ _ _ _ hr3 (by omega) (txt_bytes v2)).mono ?_; rintro e w4 ⟨s4, rfl, hs4, hr4⟩))
  go_ret
  exact ⟨_, rfl, hs4, RB.done hbel hr4⟩
theorem read_both (t : ByteArray) (hs : t.size ≤ 1048576) : ∃ (y : Int) (b : Bool),
    (∀ w, Glob w → Calls Tryd.prog 6 #[.string t] w fun e w' => e = .returned (.tuple #[.int .i64 y, .bool b]) ∧ Below w.heap.size w w') ∧
    (∀ w, Calls Tryd.prog 10 #[.string t] w fun e w' => e = .returned (.tuple #[.int .i64 y, .bool b]) ∧ Below w.heap.size w w') ∧
    (Lit.int .i64 y).wf = true ∧ (b = true → (txtI (fc y) == t.toList) = true) := by
  by_cases hno : NoTxt t
  · exact ⟨0, false, fun w G => read_no t w hs G hno, fun w => sRead_no t w hs hno, by decide, fun h => by cases h⟩
  · obtain ⟨v, hv⟩ : ∃ v : Int, (txtI (fc v) == t.toList) = true := by
      unfold NoTxt at hno
      simpa using hno
    have hb := fc_bd v
    have e : t = ⟨(txtI (fc v)).toArray⟩ := by
      apply ByteArray.ext
      rw [toList_data] at hv
      rw [beq_iff_eq.1 hv]
    refine ⟨fc v, true, fun w G => ?_, fun w => ?_, wfi (by omega), fun _ => by rw [fc_fc]; exact hv⟩
    · rw [e]; exact read_yes (fc v) w hb G
    · rw [e]; exact sRead_yes (fc v) w hb
end Go.Proofs.YteoegjginncffaaDoor
