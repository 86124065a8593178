/- The law of promise 5 (texts of numbers), walked. -/
import Derived.Test.YteoegjginncffaaDoorLawTx
namespace Go.Proofs.YteoegjginncffaaDoor
open Go.RowKit Go.Lib
set_option linter.unusedVariables false
set_option linter.unusedSimpArgs false
set_option maxHeartbeats 200000 in
theorem fnFixText_walk (a0 : Option Addr) (len0 cap0 : Nat) (a1 : Option Addr) (len1 cap1 : Nat) (w : World) (hb0 : Bytes w a0 len0 cap0) (hb1 : Bytes w a1 len1 cap1) (G : Glob w) :
    Calls Tryd.prog 3 #[.slice a0 len0 cap0, .slice a1 len1 cap1] w fun e w' => e = .returned (.bool true) ∧ Below w.heap.size w w' := by
  by_cases hlen : 1048576 < len0
  · go_enter Tryd.func3, Tryd.ntmps3
    go_wp2
    go_ret
    exact ⟨rfl, Below.refl _ _⟩
  · by_cases hlen1 : 1048576 < len1
    · go_enter Tryd.func3, Tryd.ntmps3
      go_wp2
      go_ret
      exact ⟨rfl, Below.refl _ _⟩
    · go_enter Tryd.func3, Tryd.ntmps3
      go_wp2_with fail
      refine (drawFixText_any _ _ _ _ hb0).mono ?_
      rintro e w1 ⟨n, rfl, n0, n1, B1⟩
      have hx := fc_bd n
      have G1 := G.below B1
      go_wp2_with fail
      refine (fixText_any n _ G1.tab).mono ?_
      rintro e w2 ⟨rfl, c2⟩
      have B2 := B1.trans (c2.mono B1.size)
      have G2 := G.below B2
      go_wp2_with fail
      refine (read_yes (fc n) _ hx G2).mono ?_
      rintro e w3 ⟨rfl, c3⟩
      have B3 := B2.trans (c3.mono B2.size)
      have G3 := G.below B3
      go_wp2_with fail
      refine (sFixText_any n _ (wfi (by omega))).mono ?_
      rintro e w4 ⟨rfl, c4⟩
      have B4 := B3.trans (c4.mono B3.size)
      have G4 := G.below B4
      go_wp2_with fail
      refine (fixClamp_any _ _).mono ?_
      rintro e w5 ⟨rfl, rfl⟩
      go_wp2_with fail
      refine (drawFixRead_any _ _ _ _ (hb1.below B4)).mono ?_
      rintro e w6 ⟨t, rfl, ht, c6⟩
      have B6 := B4.trans (c6.mono B4.size)
      have G6 := G.below B6
      obtain ⟨y, b, r1, r2, hyw, hy⟩ := read_both t (by omega)
      go_wp2_with fail
      refine (r1 _ G6).mono ?_
      rintro e w7 ⟨rfl, c7⟩
      have B7 := B6.trans (c7.mono B6.size)
      clear r1
      go_wp2_with fail
      refine (r2 _).mono ?_
      rintro e w8 ⟨rfl, c8⟩
      have B8 := B7.trans (c8.mono B7.size)
      have G8 := G.below B8
      clear r2
      cases b with
      | false =>
        clear hy
        go_wp2
        go_ret
        exact ⟨rfl, B8⟩
      | true =>
        have hy' := hy rfl
        clear hy
        go_wp2_with fail
        refine (fixText_any y _ G8.tab).mono ?_
        rintro e w9 ⟨rfl, c9⟩
        have B9 := B8.trans (c9.mono B8.size)
        go_wp2
        go_ret
        exact ⟨rfl, B9⟩
end Go.Proofs.YteoegjginncffaaDoor
