/- The contracts of the draws of two ways. -/
import Derived.Test.YtbaaidafgdhpeaaDrawVec
import Derived.Deep.RegionHeld3
namespace Go.Proofs.Ytbaaidafgdhpeaa
open Go.RowKit
set_option linter.unusedVariables false
set_option linter.unusedSimpArgs false

/-- a number that was drawn -/
def Dn (x : Int) : Prop := -1099511627776 ≤ x ∧ x ≤ 1099511627776

theorem RB.size {w0 w : World} {rb p : Nat} (h : RB w0 w rb p) : w0.heap.size ≤ w.heap.size := by
  have := (h.old (B := 0) (Nat.zero_le _) (Nat.zero_le _)).size
  exact this

theorem bcellB {B : Nat} {a b : World} (hb : Below B a b) : (∀ x o, x < B → b.cell? ⟨x, o, none⟩ = a.cell? ⟨x, o, none⟩) ∧ (∀ x o, x < B → b.frozen? ⟨x, o, none⟩ = a.frozen? ⟨x, o, none⟩) :=
  ⟨fun x o h => hb.cell (p := ⟨x, o, none⟩) h, fun x o h => hb.frozen (p := ⟨x, o, none⟩) h⟩

set_option maxHeartbeats 4000000 in
theorem drawVecAdd_any (a : Option Addr) (len cap : Nat) (w : World) (hb : Bytes w a len cap) :
    Calls Try.prog 43 #[.slice a len cap] w fun e w' => ∃ x y u v : Int, e = .returned (.tuple #[vv x y, vv u v]) ∧ (Dn x ∧ Dn y ∧ Dn u ∧ Dn v) ∧ Below w.heap.size w w' := by
  have hset := cset_map
  have hb' := hb.below (((Below.refl _ _).alloc (Nat.le_refl _) (.cells #[.int .i64 0, .int .i64 0] 24)).alloc (by simp) (.cells #[.int .i64 0, .int .i64 0] 24))
  go_enter Try.func43, Try.ntmps43
  go_wp2_with (first
    | (go_at_call 50; refine (l1Open_rb _ _ _ _ hb').mono ?_; rintro e w1 ⟨rfl, hr1, hbel⟩; obtain ⟨hc1, hf1⟩ := bcell hbel; have hz1 := hbel.size; simp only [World.size_alloc] at hc1 hf1 hz1 hr1; have hq1 : w.heap.size < w1.heap.size := (by omega); have hq1b : w.heap.size + 1 < w1.heap.size := (by omega); have hq1c : w.heap.size + 1 + 1 < w1.heap.size := hr1.lt)
    | (go_at_call 79; refine (l11Vec_rb w1 _ _ w2 hr2 (by omega) hz2).mono ?_; rintro e w3 ⟨x3, y3, rfl, x30, x31, y30, y31, hr3⟩; have hB3 := hr3.old (B := w.heap.size + 1 + 1) (Nat.le_refl _) (by omega); obtain ⟨hcB3, hfB3⟩ := bcellB hB3; have hz3 := RB.size hr3; have hq3 : w.heap.size < w3.heap.size := (by omega); have hq3b : w.heap.size + 1 < w3.heap.size := (by omega))
    | (go_at_call 79; refine (l11Vec_rb w1 _ _ w1 hr1 (by omega) (Nat.le_refl _)).mono ?_; rintro e w2 ⟨x2, y2, rfl, x20, x21, y20, y21, hr2⟩; have hz2 := RB.size hr2))
  exact bodyPost_ret (v := .tuple #[vv x2 y2, vv x3 y3]) (by simp [results, Try.results43, go_sem, *]) rfl ⟨_, _, _, _, rfl, ⟨⟨x20, x21⟩, ⟨y20, y21⟩, ⟨x30, x31⟩, ⟨y30, y31⟩⟩, (((((((Below.refl _ w).alloc (Nat.le_refl _) _).alloc (by simp) _).trans (hbel.mono (by simp; omega))).trans (hB3.mono (by omega))).setCell (by simp) _).setCell (by simp) _).setCell (by simp) _ |>.setCell (by simp) _⟩

set_option maxHeartbeats 1000000 in
theorem drawVecDot_any (a : Option Addr) (len cap : Nat) (w : World) (hb : Bytes w a len cap) :
    Calls Try.prog 12 #[.slice a len cap] w fun e w' => ∃ x y u v : Int, e = .returned (.tuple #[vv x y, vv u v]) ∧ (Dn x ∧ Dn y ∧ Dn u ∧ Dn v) ∧ Below w.heap.size w w' := by
  have hset := cset_map
  have hb' := hb.below (((Below.refl _ _).alloc (Nat.le_refl _) (.cells #[.int .i64 0, .int .i64 0] 24)).alloc (by simp) (.cells #[.int .i64 0, .int .i64 0] 24))
  go_enter Try.func12, Try.ntmps12
  go_wp2_with (go_at_call 43; refine (drawVecAdd_any _ _ _ _ hb').mono ?_; rintro e w1 ⟨x1, y1, u1, v1, rfl, hd, hb1⟩; obtain ⟨hc1, hf1⟩ := bcell hb1; have hz1 := hb1.size; simp only [World.size_alloc] at hc1 hf1 hz1; have hq1 : w.heap.size < w1.heap.size := (by omega); have hq1b : w.heap.size + 1 < w1.heap.size := (by omega))
  exact bodyPost_ret (v := .tuple #[vv x1 y1, vv u1 v1]) (by simp [results, Try.results12, go_sem, *]) rfl ⟨_, _, _, _, rfl, hd, (((((((Below.refl _ w).alloc (Nat.le_refl _) _).alloc (by simp) _).trans (hb1.mono (by simp; omega)))).setCell (by simp) _).setCell (by simp) _).setCell (by simp) _ |>.setCell (by simp) _⟩

end Go.Proofs.Ytbaaidafgdhpeaa
