/- The draws of one body. -/
import Derived.Test.YtflgmpppnobogaaDrawB3
import Derived.Deep.RegionHeld3
import Derived.Deep.DeepCutAuto
namespace Go.Proofs.Ytflgmpppnobogaa
open Go.RowKit
set_option linter.unusedVariables false
set_option linter.unusedSimpArgs false

theorem but_bel {w w' : World} {o : Obj} (h : w' = w.alloc o) : Below w.heap.size w w' := by subst h; exact (Below.refl _ _).alloc (Nat.le_refl _) o
theorem Al.belw {w0 w w' : World} {ab n B : Nat} {V : Nat → Int} (h : Al w0 w ab n V) (k : Below B w w') (hB : ab < B) : Al w0 w' ab n V := by
  obtain ⟨h1, h2, h3, h4⟩ := h
  exact ⟨h1, Nat.lt_of_lt_of_le h2 k.size, fun i hi => (k.cell (p := ⟨ab, i, none⟩) hB).trans (h3 i hi), fun i hi => (k.frozen (p := ⟨ab, i, none⟩) hB).trans (h4 i hi)⟩

set_option maxHeartbeats 4000000 in
theorem drawBodySpeed_any (a : Option Addr) (len cap : Nat) (w : World) (hb : Bytes w a len cap) :
    Calls Try.prog 15 #[.slice a len cap] w fun e w' => ∃ V : Nat → Int, e = .returned (bodyW V) ∧ BN V ∧ Below w.heap.size w w' := by
  have hset := cset_map
  have hb' := hb.below ((Below.refl _ _).alloc (Nat.le_refl _) (.cells #[.int .i64 0, .int .i64 0, .int .i64 0, .int .i64 0, .int .i64 0, .int .i64 0, .int .i64 0, .int .i64 0, .int .i64 0, .int .i64 0, .int .i64 0, .int .i64 0] 28))
  go_enter Try.func15, Try.ntmps15
  go_upto_region 1 with fail
  have r0 : Al w (w.alloc (.cells #[.int .i64 0, .int .i64 0, .int .i64 0, .int .i64 0, .int .i64 0, .int .i64 0, .int .i64 0, .int .i64 0, .int .i64 0, .int .i64 0, .int .i64 0, .int .i64 0] 28)) w.heap.size 12 (fun _ => 0) := Al.new (Nat.le_refl _) (by intro i hi; rcases (show i = 0 ∨ i = 1 ∨ i = 2 ∨ i = 3 ∨ i = 4 ∨ i = 5 ∨ i = 6 ∨ i = 7 ∨ i = 8 ∨ i = 9 ∨ i = 10 ∨ i = 11 by omega) with rfl | rfl | rfl | rfl | rfl | rfl | rfl | rfl | rfl | rfl | rfl | rfl <;> rfl)
  have hbl : Below w.heap.size w (w.alloc (.cells #[.int .i64 0, .int .i64 0, .int .i64 0, .int .i64 0, .int .i64 0, .int .i64 0, .int .i64 0, .int .i64 0, .int .i64 0, .int .i64 0, .int .i64 0, .int .i64 0] 28)) := (Below.refl _ _).alloc (Nat.le_refl _) _
  have hsz : w.heap.size < (w.alloc (.cells #[.int .i64 0, .int .i64 0, .int .i64 0, .int .i64 0, .int .i64 0, .int .i64 0, .int .i64 0, .int .i64 0, .int .i64 0, .int .i64 0, .int .i64 0, .int .i64 0] 28)).heap.size := by simp
  generalize w.alloc (.cells #[.int .i64 0, .int .i64 0, .int .i64 0, .int .i64 0, .int .i64 0, .int .i64 0, .int .i64 0, .int .i64 0, .int .i64 0, .int .i64 0, .int .i64 0, .int .i64 0] 28) = w0 at *
  go_wp2_with (first
    | (have _ := hr1; go_at_call 41; refine (l11AnyBody_s w0.heap.size 0 _ (by exact RS.of hr1) (by omega)).mono ?_; rintro e w2 ⟨V2, rfl, hd2, hr2⟩; have hbm := RB.done hbel hr2; have r2 := r0.belw hbm (by omega); have rc0 := (r2).2.2.1 0 (by omega); have rf0 := (r2).2.2.2 0 (by omega); have rc1 := (r2).2.2.1 1 (by omega); have rf1 := (r2).2.2.2 1 (by omega); have rc2 := (r2).2.2.1 2 (by omega); have rf2 := (r2).2.2.2 2 (by omega); have rc3 := (r2).2.2.1 3 (by omega); have rf3 := (r2).2.2.2 3 (by omega); have rc4 := (r2).2.2.1 4 (by omega); have rf4 := (r2).2.2.2 4 (by omega); have rc5 := (r2).2.2.1 5 (by omega); have rf5 := (r2).2.2.2 5 (by omega); have rc6 := (r2).2.2.1 6 (by omega); have rf6 := (r2).2.2.2 6 (by omega); have rc7 := (r2).2.2.1 7 (by omega); have rf7 := (r2).2.2.2 7 (by omega); have rc8 := (r2).2.2.1 8 (by omega); have rf8 := (r2).2.2.2 8 (by omega); have rc9 := (r2).2.2.1 9 (by omega); have rf9 := (r2).2.2.2 9 (by omega); have rc10 := (r2).2.2.1 10 (by omega); have rf10 := (r2).2.2.2 10 (by omega); have rc11 := (r2).2.2.1 11 (by omega); have rf11 := (r2).2.2.2 11 (by omega))
    | (go_at_call 42; refine (l1Open_rb _ _ _ _ hb').mono ?_; rintro e w1 ⟨rfl, hr1, hbel⟩))
  exact bodyPost_ret (v := bodyW V2) (by simp [results, Try.results15, go_sem, *]) rfl ⟨V2, rfl, hd2, (((((((((((((hbl.trans (hbm.mono (by omega))).setCell (by simp) _).setCell (by simp) _).setCell (by simp) _).setCell (by simp) _).setCell (by simp) _).setCell (by simp) _).setCell (by simp) _).setCell (by simp) _).setCell (by simp) _).setCell (by simp) _).setCell (by simp) _).setCell (by simp) _)⟩

set_option maxHeartbeats 4000000 in
theorem drawBodyMove_any (a : Option Addr) (len cap : Nat) (w : World) (hb : Bytes w a len cap) :
    Calls Try.prog 26 #[.slice a len cap] w fun e w' => ∃ V : Nat → Int, e = .returned (bodyW V) ∧ BN V ∧ Below w.heap.size w w' := by
  have hset := cset_map
  have hb' := hb.below ((Below.refl _ _).alloc (Nat.le_refl _) (.cells #[.int .i64 0, .int .i64 0, .int .i64 0, .int .i64 0, .int .i64 0, .int .i64 0, .int .i64 0, .int .i64 0, .int .i64 0, .int .i64 0, .int .i64 0, .int .i64 0] 28))
  go_enter Try.func26, Try.ntmps26
  go_upto_region 1 with fail
  have r0 : Al w (w.alloc (.cells #[.int .i64 0, .int .i64 0, .int .i64 0, .int .i64 0, .int .i64 0, .int .i64 0, .int .i64 0, .int .i64 0, .int .i64 0, .int .i64 0, .int .i64 0, .int .i64 0] 28)) w.heap.size 12 (fun _ => 0) := Al.new (Nat.le_refl _) (by intro i hi; rcases (show i = 0 ∨ i = 1 ∨ i = 2 ∨ i = 3 ∨ i = 4 ∨ i = 5 ∨ i = 6 ∨ i = 7 ∨ i = 8 ∨ i = 9 ∨ i = 10 ∨ i = 11 by omega) with rfl | rfl | rfl | rfl | rfl | rfl | rfl | rfl | rfl | rfl | rfl | rfl <;> rfl)
  have hbl : Below w.heap.size w (w.alloc (.cells #[.int .i64 0, .int .i64 0, .int .i64 0, .int .i64 0, .int .i64 0, .int .i64 0, .int .i64 0, .int .i64 0, .int .i64 0, .int .i64 0, .int .i64 0, .int .i64 0] 28)) := (Below.refl _ _).alloc (Nat.le_refl _) _
  have hsz : w.heap.size < (w.alloc (.cells #[.int .i64 0, .int .i64 0, .int .i64 0, .int .i64 0, .int .i64 0, .int .i64 0, .int .i64 0, .int .i64 0, .int .i64 0, .int .i64 0, .int .i64 0, .int .i64 0] 28)).heap.size := by simp
  generalize w.alloc (.cells #[.int .i64 0, .int .i64 0, .int .i64 0, .int .i64 0, .int .i64 0, .int .i64 0, .int .i64 0, .int .i64 0, .int .i64 0, .int .i64 0, .int .i64 0, .int .i64 0] 28) = w0 at *
  go_wp2_with (first
    | (have _ := hr1; go_at_call 41; refine (l11AnyBody_s w0.heap.size 0 _ (by exact RS.of hr1) (by omega)).mono ?_; rintro e w2 ⟨V2, rfl, hd2, hr2⟩; have hbm := RB.done hbel hr2; have r2 := r0.belw hbm (by omega); have rc0 := (r2).2.2.1 0 (by omega); have rf0 := (r2).2.2.2 0 (by omega); have rc1 := (r2).2.2.1 1 (by omega); have rf1 := (r2).2.2.2 1 (by omega); have rc2 := (r2).2.2.1 2 (by omega); have rf2 := (r2).2.2.2 2 (by omega); have rc3 := (r2).2.2.1 3 (by omega); have rf3 := (r2).2.2.2 3 (by omega); have rc4 := (r2).2.2.1 4 (by omega); have rf4 := (r2).2.2.2 4 (by omega); have rc5 := (r2).2.2.1 5 (by omega); have rf5 := (r2).2.2.2 5 (by omega); have rc6 := (r2).2.2.1 6 (by omega); have rf6 := (r2).2.2.2 6 (by omega); have rc7 := (r2).2.2.1 7 (by omega); have rf7 := (r2).2.2.2 7 (by omega); have rc8 := (r2).2.2.1 8 (by omega); have rf8 := (r2).2.2.2 8 (by omega); have rc9 := (r2).2.2.1 9 (by omega); have rf9 := (r2).2.2.2 9 (by omega); have rc10 := (r2).2.2.1 10 (by omega); have rf10 := (r2).2.2.2 10 (by omega); have rc11 := (r2).2.2.1 11 (by omega); have rf11 := (r2).2.2.2 11 (by omega))
    | (go_at_call 42; refine (l1Open_rb _ _ _ _ hb').mono ?_; rintro e w1 ⟨rfl, hr1, hbel⟩))
  exact bodyPost_ret (v := bodyW V2) (by simp [results, Try.results26, go_sem, *]) rfl ⟨V2, rfl, hd2, (((((((((((((hbl.trans (hbm.mono (by omega))).setCell (by simp) _).setCell (by simp) _).setCell (by simp) _).setCell (by simp) _).setCell (by simp) _).setCell (by simp) _).setCell (by simp) _).setCell (by simp) _).setCell (by simp) _).setCell (by simp) _).setCell (by simp) _).setCell (by simp) _)⟩
end Go.Proofs.Ytflgmpppnobogaa
