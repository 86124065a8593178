/- A body of columns that is changed: its drive, its place, for how long it was quiet. A body of columns, handed out; one that is pushed. One body that was given, by its handle. BodyOk, BodySleeps and BodyPush, by the program. Worlds that are handed out with a code. Marks on a world; lists of numbers. -/
import Derived.Test.YthekeeagjokpeaaB2
import Derived.Test.YthekeeagjokpeaaB1
import Derived.Deep.RegionHeld3
import Derived.Deep.DeepCutAuto
import Derived.Test.YthekeeagjokpeaaHkOk
import Derived.Test.YthekeeagjokpeaaB5
import Derived.Test.YthekeeagjokpeaaB8
import Derived.Test.YthekeeagjokpeaaB6
namespace Go.Proofs.Ythekeeagjokpeaa
open Go.RowKit
set_option linter.unusedVariables false
set_option linter.unusedSimpArgs false

set_option maxHeartbeats 4000000 in
theorem kSetQuiet {cb n k : Nat} {C : Nat → Nat → Int} {S : Nat → Value} {w : World} (h : Cs w cb n C S) (hk : k < n) (hn : n ≤ 1048576) (y : Int) :
    Calls Try.prog 85 #[hdk cb k, .int .i64 y] w fun e w' => e = .returned (.tuple #[]) ∧ Cs w' cb n (setC C 11 k y) S ∧ Fr (Xc S) w w' := by
  have hset := cset_map
  have l1 := h.lt
  have hkn : (k : Int) < (n : Int) := by omega
  obtain ⟨g11, c11, e11, hc11, hv11, hf11, l11g, lc11⟩ := h.at (i := 11) (by omega) hk
  go_enter Try.func85, Try.ntmps85
  go_upto_region 1 with fail
  refine wp_region_held_drew (S := fun w' => w'.cell? ⟨w.heap.size, 0, none⟩ = some (.int .i64 (k : Int)) ∧ w'.cell? ⟨w.heap.size, 1, none⟩ = some (.pointer (some ⟨cb, 0, none⟩)) ∧ w'.cell? ⟨cb, 11, none⟩ = some (.slice (some ⟨g11, 0, none⟩) n c11)) (by kernel_rfl) ?_ (fun hHeld => ?_)
  · (try dsimp only)
    (first | (go_simp; done) | (go_keep; done))
  refine tq 0 hHeld ?_
  refine tq 1 hHeld ?_
  refine tq 2 hHeld ?_
  refine tq 3 hHeld ?_
  refine tq 4 hHeld ?_
  refine tq 5 hHeld ?_
  refine tq 6 hHeld ?_
  refine tq 7 hHeld ?_
  refine tq 8 hHeld ?_
  (refine tc 9 fun K hK => ?_; go_simp; refine tr hK (fun hHeld => ?_); clear hK K)
  refine wpAnyH_done (by kernel_rfl) ?_ _
  go_wp2_with fail
  go_end0
  have hE : Below (w.setCell ⟨g11, k, none⟩ (.int .i64 y)).heap.size (w.setCell ⟨g11, k, none⟩ (.int .i64 y)) ((w.setCell ⟨g11, k, none⟩ (.int .i64 y)).alloc (Obj.cells #[.int .i64 (k : Int), .pointer (some ⟨cb, 0, none⟩)] 90)).drew := by repeat (first | with_reducible apply Below.refl | (with_reducible apply Below.setCell; rotate_left; focus (first | omega | (simp; done) | (simp; omega))) | (with_reducible apply Below.alloc; rotate_left; focus (first | omega | (simp; done) | (simp; omega))) | with_reducible apply Below.drew | with_reducible apply belowDrewN | (with_reducible apply Below.trans; rotate_left; with_reducible apply Below.mono; with_reducible assumption; focus (first | omega | (simp; done) | (simp; omega))))
  exact ⟨rfl, (h.set (i := 11) (by omega) hk e11 y).below hE, ((Fr.refl (Xc S) w).trans (Fr.setCell (X := Xc S) (p := ⟨g11, k, none⟩) ⟨11, by omega, by rw [e11]; rfl⟩ (.int .i64 y))).trans (Fr.of_below hE)⟩

set_option maxHeartbeats 4000000 in
theorem kSetDrive {cb n k : Nat} {C : Nat → Nat → Int} {S : Nat → Value} {w : World} (h : Cs w cb n C S) (hk : k < n) (hn : n ≤ 1048576) (x y : Int) :
    Calls Try.prog 81 #[hdk cb k, vv x y] w fun e w' => e = .returned (.tuple #[]) ∧ Cs w' cb n (setC (setC C 6 k x) 7 k y) S ∧ Fr (Xc S) w w' := by
  have hset := cset_map
  have l1 := h.lt
  have hkn : (k : Int) < (n : Int) := by omega
  obtain ⟨g6, c6, e6, hc6, hv6, hf6, l6g, lc6⟩ := h.at (i := 6) (by omega) hk
  obtain ⟨g7, c7, e7, hc7, hv7, hf7, l7g, lc7⟩ := h.at (i := 7) (by omega) hk
  have ne : g6 ≠ g7 := fun q => h.dis 6 7 (by omega) (by omega) (by omega) g6 (by rw [e6]; rfl) (by rw [e7, q]; rfl)
  go_enter Try.func81, Try.ntmps81
  go_upto_region 1 with fail
  refine wp_region_held_drew (S := fun w' => w'.cell? ⟨w.heap.size, 0, none⟩ = some (.int .i64 (k : Int)) ∧ w'.cell? ⟨w.heap.size, 1, none⟩ = some (.pointer (some ⟨cb, 0, none⟩)) ∧ w'.cell? ⟨cb, 6, none⟩ = some (.slice (some ⟨g6, 0, none⟩) n c6) ∧ w'.cell? ⟨cb, 7, none⟩ = some (.slice (some ⟨g7, 0, none⟩) n c7) ∧ w'.cell? ⟨w.heap.size + 1, 0, none⟩ = some (.int .i64 x) ∧ w'.cell? ⟨w.heap.size + 1, 1, none⟩ = some (.int .i64 y)) (by kernel_rfl) ?_ (fun hHeld => ?_)
  · (try dsimp only)
    (first | (go_simp; done) | (go_keep; done))
  refine tq 0 hHeld ?_
  refine tq 1 hHeld ?_
  refine tq 2 hHeld ?_
  refine tq 3 hHeld ?_
  refine tq 4 hHeld ?_
  refine tq 5 hHeld ?_
  refine tq 6 hHeld ?_
  refine tq 7 hHeld ?_
  refine tq 8 hHeld ?_
  refine tq 9 hHeld ?_
  refine tq 10 hHeld ?_
  refine tq 11 hHeld ?_
  refine tq 12 hHeld ?_
  refine tq 13 hHeld ?_
  refine tq 14 hHeld ?_
  refine tq 15 hHeld ?_
  refine tq 16 hHeld ?_
  refine tq 17 hHeld ?_
  refine tq 18 hHeld ?_
  (refine tc 19 fun K hK => ?_; go_simp; refine tr hK (fun hHeld => ?_); clear hK K)
  refine tq 20 hHeld ?_
  (refine tc 21 fun K hK => ?_; go_simp; refine tr hK (fun hHeld => ?_); clear hK K)
  refine wpAnyH_done (by kernel_rfl) ?_ _
  go_wp2_with fail
  go_end0
  have hE : Below ((w.setCell ⟨g6, k, none⟩ (.int .i64 x)).setCell ⟨g7, k, none⟩ (.int .i64 y)).heap.size ((w.setCell ⟨g6, k, none⟩ (.int .i64 x)).setCell ⟨g7, k, none⟩ (.int .i64 y)) ((((w.setCell ⟨g6, k, none⟩ (.int .i64 x)).setCell ⟨g7, k, none⟩ (.int .i64 y)).alloc (Obj.cells #[.int .i64 (k : Int), .pointer (some ⟨cb, 0, none⟩)] 90)).alloc (Obj.cells #[.int .i64 x, .int .i64 y] 96)).drew := by repeat (first | with_reducible apply Below.refl | (with_reducible apply Below.setCell; rotate_left; focus (first | omega | (simp; done) | (simp; omega))) | (with_reducible apply Below.alloc; rotate_left; focus (first | omega | (simp; done) | (simp; omega))) | with_reducible apply Below.drew | with_reducible apply belowDrewN | (with_reducible apply Below.trans; rotate_left; with_reducible apply Below.mono; with_reducible assumption; focus (first | omega | (simp; done) | (simp; omega))))
  exact ⟨rfl, ((h.set (i := 6) (by omega) hk e6 x).set (i := 7) (by omega) hk e7 y).below hE, (((Fr.refl (Xc S) w).trans (Fr.setCell (X := Xc S) (p := ⟨g6, k, none⟩) ⟨6, by omega, by rw [e6]; rfl⟩ (.int .i64 x))).trans (Fr.setCell (X := Xc S) (p := ⟨g7, k, none⟩) ⟨7, by omega, by rw [e7]; rfl⟩ (.int .i64 y))).trans (Fr.of_below hE)⟩
end Go.Proofs.Ythekeeagjokpeaa
namespace Go.Proofs.Ythekeeagjokpeaa
open Go.RowKit
set_option linter.unusedVariables false
set_option linter.unusedSimpArgs false

set_option maxRecDepth 20000 in
set_option maxHeartbeats 8000000 in
theorem kBody {cb n k : Nat} {V : Nat → Int} {G : Nat → Nat} {w : World} (h : HAt w cb n k V G) :
    Calls Try.prog 64 #[hdk cb k] w fun e w' => e = .returned (bodyW V) ∧ Below w.heap.size w w' := by
  have hset := cset_map
  have l1 := h.cbl
  have hkn := h.kn
  have hnl := h.nl
  obtain ⟨c0, hc0, hv0, _, l0g, q0⟩ := h.col 0 (by omega)
  generalize hG0 : G 0 = g0 at hc0 hv0 l0g q0
  clear hG0 q0
  go_enter Try.func64, Try.ntmps64
  go_upto_region 1 with fail
  refine wp_region_held_drew (S := fun w' => w'.cell? ⟨w.heap.size, 0, none⟩ = some (.int .i64 (k : Int)) ∧ w'.cell? ⟨w.heap.size, 1, none⟩ = some (.pointer (some ⟨cb, 0, none⟩)) ∧ w'.cell? ⟨cb, 0, none⟩ = some (.slice (some ⟨g0, 0, none⟩) n c0) ∧ w'.cell? ⟨g0, k, none⟩ = some (.int .i64 (V 0))) (by kernel_rfl) ?_ (fun hHeld => ?_)
  · (try dsimp only)
    (first | (go_simp; done) | (go_keep; done))
  refine tq 0 hHeld ?_
  refine tq 1 hHeld ?_
  refine tq 2 hHeld ?_
  refine tq 3 hHeld ?_
  refine tq 4 hHeld ?_
  refine tq 5 hHeld ?_
  refine tq 6 hHeld ?_
  refine tq 7 hHeld ?_
  refine tq 8 hHeld ?_
  refine tq 9 hHeld ?_
  refine tq 11 hHeld ?_
  refine tq 14 hHeld ?_
  refine tq 17 hHeld ?_
  refine tq 19 hHeld ?_
  refine tq 21 hHeld ?_
  refine tq 23 hHeld ?_
  (refine tc 10 fun K hK => ?_; go_simp; (go_at_call 86; refine (kShape (HAt.below h (by repeat (first | with_reducible apply Below.refl | (with_reducible apply Below.setCell; rotate_left; focus (first | omega | (simp; done) | (simp; omega))) | (with_reducible apply Below.alloc; rotate_left; focus (first | omega | (simp; done) | (simp; omega))) | with_reducible apply Below.drew | with_reducible apply belowDrewN | (with_reducible apply Below.trans; rotate_left; with_reducible apply Below.mono; with_reducible assumption; focus (first | omega | (simp; done) | (simp; omega))))))).mono ?_; rintro e w1 ⟨rfl, hb1⟩; obtain ⟨hc1, hf1⟩ := bcell hb1; have hz1 := hb1.size; (try simp only [World.size_drew, World.size_alloc, World.size_setCell] at hc1 hf1 hz1); have hk1x0 := fun o => hc1 (w.heap.size) o (by omega); have hj1x0 := fun o => hf1 (w.heap.size) o (by omega); have hq1x0 : w.heap.size < w1.heap.size := (by omega); have hk1x1 := fun o => hc1 (w.heap.size + 1) o (by omega); have hj1x1 := fun o => hf1 (w.heap.size + 1) o (by omega); have hq1x1 : w.heap.size + 1 < w1.heap.size := (by omega); have hk1x2 := fun o => hc1 (cb) o (by omega); have hj1x2 := fun o => hf1 (cb) o (by omega); have hq1x2 : cb < w1.heap.size := (by omega); have hk1x3 := fun o => hc1 (g0) o (by omega); have hj1x3 := fun o => hf1 (g0) o (by omega); have hq1x3 : g0 < w1.heap.size := (by omega); clear hc1 hf1); (try go_wp2_with fail); refine tr hK (fun hHeld => ?_); clear hK K)
  (refine tc 12 fun K hK => ?_; go_simp; (go_at_call 87; refine (kAt (HAt.below h (by repeat (first | with_reducible apply Below.refl | (with_reducible apply Below.setCell; rotate_left; focus (first | omega | (simp; done) | (simp; omega))) | (with_reducible apply Below.alloc; rotate_left; focus (first | omega | (simp; done) | (simp; omega))) | with_reducible apply Below.drew | with_reducible apply belowDrewN | (with_reducible apply Below.trans; rotate_left; with_reducible apply Below.mono; with_reducible assumption; focus (first | omega | (simp; done) | (simp; omega))))))).mono ?_; rintro e w2 ⟨rfl, hb2⟩; obtain ⟨hc2, hf2⟩ := bcell hb2; have hz2 := hb2.size; (try simp only [World.size_drew, World.size_alloc, World.size_setCell] at hc2 hf2 hz2); have hk2x0 := fun o => hc2 (w.heap.size) o (by omega); have hj2x0 := fun o => hf2 (w.heap.size) o (by omega); have hq2x0 : w.heap.size < w2.heap.size := (by omega); have hk2x1 := fun o => hc2 (w.heap.size + 1) o (by omega); have hj2x1 := fun o => hf2 (w.heap.size + 1) o (by omega); have hq2x1 : w.heap.size + 1 < w2.heap.size := (by omega); have hk2x2 := fun o => hc2 (cb) o (by omega); have hj2x2 := fun o => hf2 (cb) o (by omega); have hq2x2 : cb < w2.heap.size := (by omega); have hk2x3 := fun o => hc2 (g0) o (by omega); have hj2x3 := fun o => hf2 (g0) o (by omega); have hq2x3 : g0 < w2.heap.size := (by omega); clear hc2 hf2); (try go_wp2_with fail); refine tr hK (fun hHeld => ?_); clear hK K)
  (refine tc 13 fun K hK => ?_; go_simp; (go_at_call 88; refine (vec_any _ _ _).mono ?_; rintro e w3 ⟨rfl, hb3⟩; obtain ⟨hc3, hf3⟩ := bcell hb3; have hz3 := hb3.size; (try simp only [World.size_drew, World.size_alloc, World.size_setCell] at hc3 hf3 hz3); have hk3x0 := fun o => hc3 (w.heap.size) o (by omega); have hj3x0 := fun o => hf3 (w.heap.size) o (by omega); have hq3x0 : w.heap.size < w3.heap.size := (by omega); have hk3x1 := fun o => hc3 (w.heap.size + 1) o (by omega); have hj3x1 := fun o => hf3 (w.heap.size + 1) o (by omega); have hq3x1 : w.heap.size + 1 < w3.heap.size := (by omega); have hk3x2 := fun o => hc3 (cb) o (by omega); have hj3x2 := fun o => hf3 (cb) o (by omega); have hq3x2 : cb < w3.heap.size := (by omega); have hk3x3 := fun o => hc3 (g0) o (by omega); have hj3x3 := fun o => hf3 (g0) o (by omega); have hq3x3 : g0 < w3.heap.size := (by omega); clear hc3 hf3); (try go_wp2_with fail); refine tr hK (fun hHeld => ?_); clear hK K)
  (refine tc 15 fun K hK => ?_; go_simp; (go_at_call 82; refine (kDrive (HAt.below h (by repeat (first | with_reducible apply Below.refl | (with_reducible apply Below.setCell; rotate_left; focus (first | omega | (simp; done) | (simp; omega))) | (with_reducible apply Below.alloc; rotate_left; focus (first | omega | (simp; done) | (simp; omega))) | with_reducible apply Below.drew | with_reducible apply belowDrewN | (with_reducible apply Below.trans; rotate_left; with_reducible apply Below.mono; with_reducible assumption; focus (first | omega | (simp; done) | (simp; omega))))))).mono ?_; rintro e w4 ⟨rfl, hb4⟩; obtain ⟨hc4, hf4⟩ := bcell hb4; have hz4 := hb4.size; (try simp only [World.size_drew, World.size_alloc, World.size_setCell] at hc4 hf4 hz4); have hk4x0 := fun o => hc4 (w.heap.size) o (by omega); have hj4x0 := fun o => hf4 (w.heap.size) o (by omega); have hq4x0 : w.heap.size < w4.heap.size := (by omega); have hk4x1 := fun o => hc4 (w.heap.size + 1) o (by omega); have hj4x1 := fun o => hf4 (w.heap.size + 1) o (by omega); have hq4x1 : w.heap.size + 1 < w4.heap.size := (by omega); have hk4x2 := fun o => hc4 (cb) o (by omega); have hj4x2 := fun o => hf4 (cb) o (by omega); have hq4x2 : cb < w4.heap.size := (by omega); have hk4x3 := fun o => hc4 (g0) o (by omega); have hj4x3 := fun o => hf4 (g0) o (by omega); have hq4x3 : g0 < w4.heap.size := (by omega); clear hc4 hf4); (try go_wp2_with fail); refine tr hK (fun hHeld => ?_); clear hK K)
  (refine tc 16 fun K hK => ?_; go_simp; (go_at_call 88; refine (vec_any _ _ _).mono ?_; rintro e w5 ⟨rfl, hb5⟩; obtain ⟨hc5, hf5⟩ := bcell hb5; have hz5 := hb5.size; (try simp only [World.size_drew, World.size_alloc, World.size_setCell] at hc5 hf5 hz5); have hk5x0 := fun o => hc5 (w.heap.size) o (by omega); have hj5x0 := fun o => hf5 (w.heap.size) o (by omega); have hq5x0 : w.heap.size < w5.heap.size := (by omega); have hk5x1 := fun o => hc5 (w.heap.size + 1) o (by omega); have hj5x1 := fun o => hf5 (w.heap.size + 1) o (by omega); have hq5x1 : w.heap.size + 1 < w5.heap.size := (by omega); have hk5x2 := fun o => hc5 (cb) o (by omega); have hj5x2 := fun o => hf5 (cb) o (by omega); have hq5x2 : cb < w5.heap.size := (by omega); have hk5x3 := fun o => hc5 (g0) o (by omega); have hj5x3 := fun o => hf5 (g0) o (by omega); have hq5x3 : g0 < w5.heap.size := (by omega); clear hc5 hf5); (try go_wp2_with fail); refine tr hK (fun hHeld => ?_); clear hK K)
  (refine tc 18 fun K hK => ?_; go_simp; (go_at_call 89; refine (kMass (HAt.below h (by repeat (first | with_reducible apply Below.refl | (with_reducible apply Below.setCell; rotate_left; focus (first | omega | (simp; done) | (simp; omega))) | (with_reducible apply Below.alloc; rotate_left; focus (first | omega | (simp; done) | (simp; omega))) | with_reducible apply Below.drew | with_reducible apply belowDrewN | (with_reducible apply Below.trans; rotate_left; with_reducible apply Below.mono; with_reducible assumption; focus (first | omega | (simp; done) | (simp; omega))))))).mono ?_; rintro e w6 ⟨rfl, hb6⟩; obtain ⟨hc6, hf6⟩ := bcell hb6; have hz6 := hb6.size; (try simp only [World.size_drew, World.size_alloc, World.size_setCell] at hc6 hf6 hz6); have hk6x0 := fun o => hc6 (w.heap.size) o (by omega); have hj6x0 := fun o => hf6 (w.heap.size) o (by omega); have hq6x0 : w.heap.size < w6.heap.size := (by omega); have hk6x1 := fun o => hc6 (w.heap.size + 1) o (by omega); have hj6x1 := fun o => hf6 (w.heap.size + 1) o (by omega); have hq6x1 : w.heap.size + 1 < w6.heap.size := (by omega); have hk6x2 := fun o => hc6 (cb) o (by omega); have hj6x2 := fun o => hf6 (cb) o (by omega); have hq6x2 : cb < w6.heap.size := (by omega); have hk6x3 := fun o => hc6 (g0) o (by omega); have hj6x3 := fun o => hf6 (g0) o (by omega); have hq6x3 : g0 < w6.heap.size := (by omega); clear hc6 hf6); (try go_wp2_with fail); refine tr hK (fun hHeld => ?_); clear hK K)
  (refine tc 20 fun K hK => ?_; go_simp; (go_at_call 90; refine (kBounce (HAt.below h (by repeat (first | with_reducible apply Below.refl | (with_reducible apply Below.setCell; rotate_left; focus (first | omega | (simp; done) | (simp; omega))) | (with_reducible apply Below.alloc; rotate_left; focus (first | omega | (simp; done) | (simp; omega))) | with_reducible apply Below.drew | with_reducible apply belowDrewN | (with_reducible apply Below.trans; rotate_left; with_reducible apply Below.mono; with_reducible assumption; focus (first | omega | (simp; done) | (simp; omega))))))).mono ?_; rintro e w7 ⟨rfl, hb7⟩; obtain ⟨hc7, hf7⟩ := bcell hb7; have hz7 := hb7.size; (try simp only [World.size_drew, World.size_alloc, World.size_setCell] at hc7 hf7 hz7); have hk7x0 := fun o => hc7 (w.heap.size) o (by omega); have hj7x0 := fun o => hf7 (w.heap.size) o (by omega); have hq7x0 : w.heap.size < w7.heap.size := (by omega); have hk7x1 := fun o => hc7 (w.heap.size + 1) o (by omega); have hj7x1 := fun o => hf7 (w.heap.size + 1) o (by omega); have hq7x1 : w.heap.size + 1 < w7.heap.size := (by omega); have hk7x2 := fun o => hc7 (cb) o (by omega); have hj7x2 := fun o => hf7 (cb) o (by omega); have hq7x2 : cb < w7.heap.size := (by omega); have hk7x3 := fun o => hc7 (g0) o (by omega); have hj7x3 := fun o => hf7 (g0) o (by omega); have hq7x3 : g0 < w7.heap.size := (by omega); clear hc7 hf7); (try go_wp2_with fail); refine tr hK (fun hHeld => ?_); clear hK K)
  (refine tc 22 fun K hK => ?_; go_simp; (go_at_call 91; refine (kRub (HAt.below h (by repeat (first | with_reducible apply Below.refl | (with_reducible apply Below.setCell; rotate_left; focus (first | omega | (simp; done) | (simp; omega))) | (with_reducible apply Below.alloc; rotate_left; focus (first | omega | (simp; done) | (simp; omega))) | with_reducible apply Below.drew | with_reducible apply belowDrewN | (with_reducible apply Below.trans; rotate_left; with_reducible apply Below.mono; with_reducible assumption; focus (first | omega | (simp; done) | (simp; omega))))))).mono ?_; rintro e w8 ⟨rfl, hb8⟩; obtain ⟨hc8, hf8⟩ := bcell hb8; have hz8 := hb8.size; (try simp only [World.size_drew, World.size_alloc, World.size_setCell] at hc8 hf8 hz8); have hk8x0 := fun o => hc8 (w.heap.size) o (by omega); have hj8x0 := fun o => hf8 (w.heap.size) o (by omega); have hq8x0 : w.heap.size < w8.heap.size := (by omega); have hk8x1 := fun o => hc8 (w.heap.size + 1) o (by omega); have hj8x1 := fun o => hf8 (w.heap.size + 1) o (by omega); have hq8x1 : w.heap.size + 1 < w8.heap.size := (by omega); have hk8x2 := fun o => hc8 (cb) o (by omega); have hj8x2 := fun o => hf8 (cb) o (by omega); have hq8x2 : cb < w8.heap.size := (by omega); have hk8x3 := fun o => hc8 (g0) o (by omega); have hj8x3 := fun o => hf8 (g0) o (by omega); have hq8x3 : g0 < w8.heap.size := (by omega); clear hc8 hf8); (try go_wp2_with fail); refine tr hK (fun hHeld => ?_); clear hK K)
  (refine tc 24 fun K hK => ?_; go_simp; (go_at_call 92; refine (kQuiet (HAt.below h (by repeat (first | with_reducible apply Below.refl | (with_reducible apply Below.setCell; rotate_left; focus (first | omega | (simp; done) | (simp; omega))) | (with_reducible apply Below.alloc; rotate_left; focus (first | omega | (simp; done) | (simp; omega))) | with_reducible apply Below.drew | with_reducible apply belowDrewN | (with_reducible apply Below.trans; rotate_left; with_reducible apply Below.mono; with_reducible assumption; focus (first | omega | (simp; done) | (simp; omega))))))).mono ?_; rintro e w9 ⟨rfl, hb9⟩; obtain ⟨hc9, hf9⟩ := bcell hb9; have hz9 := hb9.size; (try simp only [World.size_drew, World.size_alloc, World.size_setCell] at hc9 hf9 hz9); have hk9x0 := fun o => hc9 (w.heap.size) o (by omega); have hj9x0 := fun o => hf9 (w.heap.size) o (by omega); have hq9x0 : w.heap.size < w9.heap.size := (by omega); have hk9x1 := fun o => hc9 (w.heap.size + 1) o (by omega); have hj9x1 := fun o => hf9 (w.heap.size + 1) o (by omega); have hq9x1 : w.heap.size + 1 < w9.heap.size := (by omega); have hk9x2 := fun o => hc9 (cb) o (by omega); have hj9x2 := fun o => hf9 (cb) o (by omega); have hq9x2 : cb < w9.heap.size := (by omega); have hk9x3 := fun o => hc9 (g0) o (by omega); have hj9x3 := fun o => hf9 (g0) o (by omega); have hq9x3 : g0 < w9.heap.size := (by omega); clear hc9 hf9); (try go_wp2_with fail); refine tr hK (fun hHeld => ?_); clear hK K)
  refine tq 25 hHeld ?_
  (refine tc 26 fun K hK => ?_; go_simp; refine tr hK (fun hHeld => ?_); clear hK K)
  refine wpAnyH_done (by kernel_rfl) ?_ _
  go_wp2_with fail
  exact bodyPost_ret (v := bodyW V) (by simp [results, Try.results64, go_sem, *]) rfl ⟨rfl, by repeat (first | with_reducible apply Below.refl | (with_reducible apply Below.setCell; rotate_left; focus (first | omega | (simp; done) | (simp; omega))) | (with_reducible apply Below.alloc; rotate_left; focus (first | omega | (simp; done) | (simp; omega))) | with_reducible apply Below.drew | with_reducible apply belowDrewN | (with_reducible apply Below.trans; rotate_left; with_reducible apply Below.mono; with_reducible assumption; focus (first | omega | (simp; done) | (simp; omega))))⟩

/-- columns of which a row was pushed -/
def pushC (C : Nat → Nat → Int) (k : Nat) (p q : Int) : Nat → Nat → Int := if C 8 k = 0 then C else setC (setC (setC C 6 k (clampZ 20000000 (C 6 k + p))) 7 k (clampZ 20000000 (C 7 k + q))) 11 k 0
set_option maxHeartbeats 4000000 in
theorem kPush {cb n k : Nat} {C : Nat → Nat → Int} {S : Nat → Value} {w : World} (h : Cs w cb n C S) (hk : k < n) (hn : n ≤ 1048576) (p q : Int) (b6 : -20000000 ≤ C 6 k ∧ C 6 k ≤ 20000000) (b7 : -20000000 ≤ C 7 k ∧ C 7 k ≤ 20000000) (bp : -4000000000 ≤ p ∧ p ≤ 4000000000) (bq : -4000000000 ≤ q ∧ q ≤ 4000000000) :
    Calls Try.prog 63 #[hdk cb k, vv p q] w fun e w' => e = .returned (.tuple #[]) ∧ Cs w' cb n (pushC C k p q) S ∧ Fr (Xc S) w w' := by
  have hset := cset_map
  have h0 := h.hat hk hn
  have hx : ∀ b, w.heap.size ≤ b → ¬ Xc S b := fun b hb x => by have := (h.xlt x).2; omega
  unfold pushC
  by_cases m : C 8 k = 0
  · rw [if_pos m]
    have md : decide (C 8 k = 0) = true := decide_eq_true m
    go_enter Try.func63, Try.ntmps63
    go_wp2_with (go_at_call 80; refine (kFixed (h0.below (by repeat (first | with_reducible apply Below.refl | (with_reducible apply Below.setCell; rotate_left; focus (first | omega | (simp; done) | (simp; omega))) | (with_reducible apply Below.alloc; rotate_left; focus (first | omega | (simp; done) | (simp; omega))) | with_reducible apply Below.drew | with_reducible apply belowDrewN | (with_reducible apply Below.trans; rotate_left; with_reducible apply Below.mono; with_reducible assumption; focus (first | omega | (simp; done) | (simp; omega))))))).mono ?_; rintro e w1 ⟨rfl, hb1⟩; obtain ⟨hc1, hf1⟩ := bcell hb1; have hz1 := hb1.size; (try simp only [World.size_drew, World.size_alloc, World.size_setCell] at hc1 hf1 hz1); have hk1x0 := fun o => hc1 (w.heap.size) o (by omega); have hj1x0 := fun o => hf1 (w.heap.size) o (by omega); have hq1x0 : w.heap.size < w1.heap.size := (by omega); have hk1x1 := fun o => hc1 (w.heap.size + 1) o (by omega); have hj1x1 := fun o => hf1 (w.heap.size + 1) o (by omega); have hq1x1 : w.heap.size + 1 < w1.heap.size := (by omega); clear hc1 hf1)
    refine bodyPost_ret (results_none rfl _ _ _) rfl ?_
    exact ⟨rfl, (h.below (by repeat (first | with_reducible apply Below.refl | (with_reducible apply Below.setCell; rotate_left; focus (first | omega | (simp; done) | (simp; omega))) | (with_reducible apply Below.alloc; rotate_left; focus (first | omega | (simp; done) | (simp; omega))) | with_reducible apply Below.drew | with_reducible apply belowDrewN | (with_reducible apply Below.trans; rotate_left; with_reducible apply Below.mono; with_reducible assumption; focus (first | omega | (simp; done) | (simp; omega)))))), Fr.of_below (by repeat (first | with_reducible apply Below.refl | (with_reducible apply Below.setCell; rotate_left; focus (first | omega | (simp; done) | (simp; omega))) | (with_reducible apply Below.alloc; rotate_left; focus (first | omega | (simp; done) | (simp; omega))) | with_reducible apply Below.drew | with_reducible apply belowDrewN | (with_reducible apply Below.trans; rotate_left; with_reducible apply Below.mono; with_reducible assumption; focus (first | omega | (simp; done) | (simp; omega)))))⟩
  · rw [if_neg m]
    have md : decide (C 8 k = 0) = false := decide_eq_false m
    go_enter Try.func63, Try.ntmps63
    go_upto_region 2 with (go_at_call 80; refine (kFixed (h0.below (by repeat (first | with_reducible apply Below.refl | (with_reducible apply Below.setCell; rotate_left; focus (first | omega | (simp; done) | (simp; omega))) | (with_reducible apply Below.alloc; rotate_left; focus (first | omega | (simp; done) | (simp; omega))) | with_reducible apply Below.drew | with_reducible apply belowDrewN | (with_reducible apply Below.trans; rotate_left; with_reducible apply Below.mono; with_reducible assumption; focus (first | omega | (simp; done) | (simp; omega))))))).mono ?_; rintro e w1 ⟨rfl, hb1⟩; obtain ⟨hc1, hf1⟩ := bcell hb1; have hz1 := hb1.size; (try simp only [World.size_drew, World.size_alloc, World.size_setCell] at hc1 hf1 hz1); have hk1x0 := fun o => hc1 (w.heap.size) o (by omega); have hj1x0 := fun o => hf1 (w.heap.size) o (by omega); have hq1x0 : w.heap.size < w1.heap.size := (by omega); have hk1x1 := fun o => hc1 (w.heap.size + 1) o (by omega); have hj1x1 := fun o => hf1 (w.heap.size + 1) o (by omega); have hq1x1 : w.heap.size + 1 < w1.heap.size := (by omega); clear hc1 hf1)
    refine wp_region_held_drew (S := fun w' => w'.cell? ⟨w.heap.size, 0, none⟩ = some (.int .i64 (k : Int)) ∧ w'.cell? ⟨w.heap.size, 1, none⟩ = some (.pointer (some ⟨cb, 0, none⟩)) ∧ w'.cell? ⟨w.heap.size + 1, 0, none⟩ = some (.int .i64 p) ∧ w'.cell? ⟨w.heap.size + 1, 1, none⟩ = some (.int .i64 q)) (by kernel_rfl) ?_ (fun hHeld => ?_)
    · (try dsimp only)
      (first | (go_simp; done) | (go_keep; done))
    refine tq 0 hHeld ?_
    refine tq 1 hHeld ?_
    refine tq 3 hHeld ?_
    (refine tc 2 fun K hK => ?_; go_simp; (go_at_call 82; refine (kDrive (h0.below (by repeat (first | with_reducible apply Below.refl | (with_reducible apply Below.setCell; rotate_left; focus (first | omega | (simp; done) | (simp; omega))) | (with_reducible apply Below.alloc; rotate_left; focus (first | omega | (simp; done) | (simp; omega))) | with_reducible apply Below.drew | with_reducible apply belowDrewN | (with_reducible apply Below.trans; rotate_left; with_reducible apply Below.mono; with_reducible assumption; focus (first | omega | (simp; done) | (simp; omega))))))).mono ?_; rintro e w2 ⟨rfl, hb2⟩; obtain ⟨hc2, hf2⟩ := bcell hb2; have hz2 := hb2.size; (try simp only [World.size_drew, World.size_alloc, World.size_setCell] at hc2 hf2 hz2); have hk2x0 := fun o => hc2 (w.heap.size) o (by omega); have hj2x0 := fun o => hf2 (w.heap.size) o (by omega); have hq2x0 : w.heap.size < w2.heap.size := (by omega); have hk2x1 := fun o => hc2 (w.heap.size + 1) o (by omega); have hj2x1 := fun o => hf2 (w.heap.size + 1) o (by omega); have hq2x1 : w.heap.size + 1 < w2.heap.size := (by omega); clear hc2 hf2); (try go_wp2_with fail); refine tr hK (fun hHeld => ?_); clear hK K)
    (refine tc 4 fun K hK => ?_; go_simp; (go_at_call 83; refine (plus_any _ _ _ _ _ (by omega) (by omega) (by omega) (by omega)).mono ?_; rintro e w3 ⟨rfl, hb3⟩; obtain ⟨hc3, hf3⟩ := bcell hb3; have hz3 := hb3.size; (try simp only [World.size_drew, World.size_alloc, World.size_setCell] at hc3 hf3 hz3); have hk3x0 := fun o => hc3 (w.heap.size) o (by omega); have hj3x0 := fun o => hf3 (w.heap.size) o (by omega); have hq3x0 : w.heap.size < w3.heap.size := (by omega); have hk3x1 := fun o => hc3 (w.heap.size + 1) o (by omega); have hj3x1 := fun o => hf3 (w.heap.size + 1) o (by omega); have hq3x1 : w.heap.size + 1 < w3.heap.size := (by omega); clear hc3 hf3); (try go_wp2_with fail); refine tr hK (fun hHeld => ?_); clear hK K)
    (refine tc 5 fun K hK => ?_; go_simp; (go_at_call 84; refine (wayHeld_any _ _ _ _ (by omega) (by omega)).mono ?_; rintro e w4 ⟨rfl, hb4⟩; obtain ⟨hc4, hf4⟩ := bcell hb4; have hz4 := hb4.size; (try simp only [World.size_drew, World.size_alloc, World.size_setCell] at hc4 hf4 hz4); have hk4x0 := fun o => hc4 (w.heap.size) o (by omega); have hj4x0 := fun o => hf4 (w.heap.size) o (by omega); have hq4x0 : w.heap.size < w4.heap.size := (by omega); have hk4x1 := fun o => hc4 (w.heap.size + 1) o (by omega); have hj4x1 := fun o => hf4 (w.heap.size + 1) o (by omega); have hq4x1 : w.heap.size + 1 < w4.heap.size := (by omega); clear hc4 hf4); (try go_wp2_with fail); refine tr hK (fun hHeld => ?_); clear hK K)
    (refine tc 6 fun K hK => ?_; go_simp; (go_at_call 81; refine (kSetDrive (h.below (by repeat (first | with_reducible apply Below.refl | (with_reducible apply Below.setCell; rotate_left; focus (first | omega | (simp; done) | (simp; omega))) | (with_reducible apply Below.alloc; rotate_left; focus (first | omega | (simp; done) | (simp; omega))) | with_reducible apply Below.drew | with_reducible apply belowDrewN | (with_reducible apply Below.trans; rotate_left; with_reducible apply Below.mono; with_reducible assumption; focus (first | omega | (simp; done) | (simp; omega)))))) hk hn _ _).mono ?_; rintro e w5 ⟨rfl, hr5, hF5⟩; have hz5 := hF5.size; (try simp only [World.size_drew, World.size_alloc, World.size_setCell] at hz5); have hk5x0 := fun o => hF5.cell (p := ⟨w.heap.size, o, none⟩) (by first | omega | (simp; done) | (simp; omega)) (hx _ (by first | omega | (simp; done) | (simp; omega))); have hj5x0 := fun o => hF5.frozen (p := ⟨w.heap.size, o, none⟩) (by first | omega | (simp; done) | (simp; omega)) (hx _ (by first | omega | (simp; done) | (simp; omega))); have hq5x0 : w.heap.size < w5.heap.size := (by omega); have hk5x1 := fun o => hF5.cell (p := ⟨w.heap.size + 1, o, none⟩) (by first | omega | (simp; done) | (simp; omega)) (hx _ (by first | omega | (simp; done) | (simp; omega))); have hj5x1 := fun o => hF5.frozen (p := ⟨w.heap.size + 1, o, none⟩) (by first | omega | (simp; done) | (simp; omega)) (hx _ (by first | omega | (simp; done) | (simp; omega))); have hq5x1 : w.heap.size + 1 < w5.heap.size := (by omega)); (try go_wp2_with fail); refine tr hK (fun hHeld => ?_); clear hK K)
    refine wpAnyH_done (by kernel_rfl) ?_ _
    go_wp2_with (go_at_call 85; refine (kSetQuiet hr5 hk hn 0).mono ?_; rintro e w6 ⟨rfl, hr6, hF6⟩)
    go_end0
    exact ⟨rfl, hr6, ((Fr.of_below (by repeat (first | with_reducible apply Below.refl | (with_reducible apply Below.setCell; rotate_left; focus (first | omega | (simp; done) | (simp; omega))) | (with_reducible apply Below.alloc; rotate_left; focus (first | omega | (simp; done) | (simp; omega))) | with_reducible apply Below.drew | with_reducible apply belowDrewN | (with_reducible apply Below.trans; rotate_left; with_reducible apply Below.mono; with_reducible assumption; focus (first | omega | (simp; done) | (simp; omega)))))).trans hF5).trans hF6⟩
end Go.Proofs.Ythekeeagjokpeaa
namespace Go.Proofs.Ythekeeagjokpeaa
open Go.RowKit
set_option linter.unusedVariables false
set_option linter.unusedSimpArgs false

theorem flatB (w : World) (V : Nat → Int) (t : TypeId) (s : Nat) (e : w.heap.size = s) : Flat (w.alloc (Obj.cells #[.int .i64 (V 0), .int .i64 (V 1), .int .i64 (V 2), .int .i64 (V 3), .int .i64 (V 4), .int .i64 (V 5), .int .i64 (V 6), .int .i64 (V 7), .int .i64 (V 8), .int .i64 (V 9), .int .i64 (V 10), .int .i64 (V 11)] t)) (some ⟨s, 0, none⟩) (1 * 12) V := by
  subst e
  intro _
  refine ⟨w.heap.size, 0, rfl, by simp, fun j hj => ?_⟩
  rw [Nat.zero_add]
  rcases (show j = 0 ∨ j = 1 ∨ j = 2 ∨ j = 3 ∨ j = 4 ∨ j = 5 ∨ j = 6 ∨ j = 7 ∨ j = 8 ∨ j = 9 ∨ j = 10 ∨ j = 11 by omega) with rfl | rfl | rfl | rfl | rfl | rfl | rfl | rfl | rfl | rfl | rfl | rfl <;> go_simp
theorem handle_0 (cb : Nat) (w : World) : Calls Try.prog 72 #[.pointer (some ⟨cb, 0, none⟩), .int .i64 0] w fun e w' => e = .returned (.agg #[.int .i64 0, .pointer (some ⟨cb, 0, none⟩)]) ∧ Below w.heap.size w w' := handle_any cb 0 w
theorem kOk_z {cb n : Nat} {V : Nat → Int} {G : Nat → Nat} {w : World} (h : HAt w cb n 0 V G) (b : Bool) (e : bodyB V = b) :
    Calls Try.prog 73 #[.agg #[.int .i64 0, .pointer (some ⟨cb, 0, none⟩)]] w fun e w' => e = .returned (.bool b) ∧ Below w.heap.size w w' := kOk_q h b e
theorem Cs.setO {w : World} {cb n b o : Nat} {C : Nat → Nat → Int} {S : Nat → Value} (h : Cs w cb n C S) (hb : b < cb) (v : Value) : Cs (w.setCell ⟨b, o, none⟩ v) cb n C S :=
  h.frame (X := fun x => x = b) (Fr.setCell (X := fun x => x = b) rfl _) (by show ¬ cb = b; omega) (fun x hx e => by have := (h.xlt hx).1; omega)
set_option maxRecDepth 20000 in
set_option maxHeartbeats 2000000 in
theorem handleOf_k (V : Nat → Int) (w : World) (KB : Bool) (eK : bodyB V = KB) :
    Calls Try.prog 55 #[bodyW V] w fun e w' => ∃ cb S, e = .returned (.tuple #[hdk cb 0, .bool KB]) ∧ w.heap.size + 1 < cb ∧ Cs w' cb 1 (fun i _ => V i) S ∧ Below w.heap.size w w' := by
  have hset := cset_map
  go_enter Try.func55, Try.ntmps55
  go_upto_region 2 with (first
    | (go_at_call 72; refine (handle_0 _ _).mono ?_; rintro e w2 ⟨rfl, hb2⟩; obtain ⟨hc2, hf2⟩ := bcell hb2; have hz2 := hb2.size; (try simp only [World.size_drew, World.size_alloc, World.size_setCell] at hc2 hf2 hz2); have hk2x0 := fun o => hc2 (w.heap.size + 1) o (by omega); have hj2x0 := fun o => hf2 (w.heap.size + 1) o (by omega); have hq2x0 : w.heap.size + 1 < w2.heap.size := (by omega); clear hc2 hf2)
    | (go_at_call 71; refine (rowsOf_any _ 1 _ V _ (flatB _ V _ _ (by simp)) (by omega)).mono ?_; rintro e w1 ⟨rfl, hb1, S, hC1⟩; obtain ⟨hc1, hf1⟩ := bcell hb1; have hz1 := hb1.size; (try simp only [World.size_drew, World.size_alloc, World.size_setCell] at hc1 hf1 hz1 hC1); have hC1 := hC1.congr (C' := fun i _ => V i) (fun i k _ hk => (by obtain rfl : k = 0 := (by omega); simp [colOf])); have hk1x0 := fun o => hc1 (w.heap.size + 1) o (by omega); have hj1x0 := fun o => hf1 (w.heap.size + 1) o (by omega); have hq1x0 : w.heap.size + 1 < w1.heap.size := (by omega); clear hc1 hf1))
  refine wp_region_held_drew (S := fun w' => w'.cell? ⟨w2.heap.size, 0, none⟩ = some (.int .i64 (0 : Int)) ∧ w'.cell? ⟨w2.heap.size, 1, none⟩ = some (.pointer (some ⟨w.heap.size + 1 + 1 + 1, 0, none⟩))) (by kernel_rfl) ?_ (fun hHeld => ?_)
  · (try dsimp only)
    (first | (go_simp; done) | (go_keep; done))
  refine tq 0 hHeld ?_
  refine tq 1 hHeld ?_
  (refine tc 2 fun K hK => ?_; go_simp; (go_at_call 73; refine (kOk_z ((hC1.below (by repeat (first | with_reducible apply Below.refl | (with_reducible apply Below.setCell; rotate_left; focus (first | omega | (simp; done) | (simp; omega))) | (with_reducible apply Below.alloc; rotate_left; focus (first | omega | (simp; done) | (simp; omega))) | with_reducible apply Below.drew | with_reducible apply belowDrewN | (with_reducible apply Below.trans; rotate_left; with_reducible apply Below.mono; with_reducible assumption; focus (first | omega | (simp; done) | (simp; omega)))))).hat (by omega) (by omega)) KB eK).mono ?_; rintro e w3 ⟨rfl, hb3⟩; obtain ⟨hc3, hf3⟩ := bcell hb3; have hz3 := hb3.size; (try simp only [World.size_drew, World.size_alloc, World.size_setCell] at hc3 hf3 hz3); have hk3x0 := fun o => hc3 (w.heap.size + 1) o (by omega); have hj3x0 := fun o => hf3 (w.heap.size + 1) o (by omega); have hq3x0 : w.heap.size + 1 < w3.heap.size := (by omega); have hk3x1 := fun o => hc3 (w2.heap.size) o (by omega); have hj3x1 := fun o => hf3 (w2.heap.size) o (by omega); have hq3x1 : w2.heap.size < w3.heap.size := (by omega); clear hc3 hf3); (try go_wp2_with fail); refine tr hK (fun hHeld => ?_); clear hK K)
  (refine tc 3 fun K hK => ?_; go_simp; refine tr hK (fun hHeld => ?_); clear hK K)
  refine tq 4 hHeld ?_
  refine wpAnyH_done (by kernel_rfl) ?_ _
  go_wp2_with fail
  exact bodyPost_ret (v := .tuple #[.agg #[.int .i64 0, .pointer (some ⟨w.heap.size + 1 + 1 + 1, 0, none⟩)], .bool KB]) (by simp [results, Try.results55, go_sem, *]) rfl ⟨w.heap.size + 1 + 1 + 1, S, rfl, by omega, ((hC1.below (w' := w3) (by repeat (first | with_reducible apply Below.refl | (with_reducible apply Below.setCell; rotate_left; focus (first | omega | (simp; done) | (simp; omega))) | (with_reducible apply Below.alloc; rotate_left; focus (first | omega | (simp; done) | (simp; omega))) | with_reducible apply Below.drew | with_reducible apply belowDrewN | (with_reducible apply Below.trans; rotate_left; with_reducible apply Below.mono; with_reducible assumption; focus (first | omega | (simp; done) | (simp; omega)))))).setO (by omega) _).setO (by omega) _, by repeat (first | with_reducible apply Below.refl | (with_reducible apply Below.setCell; rotate_left; focus (first | omega | (simp; done) | (simp; omega))) | (with_reducible apply Below.alloc; rotate_left; focus (first | omega | (simp; done) | (simp; omega))) | with_reducible apply Below.drew | with_reducible apply belowDrewN | (with_reducible apply Below.trans; rotate_left; with_reducible apply Below.mono; with_reducible assumption; focus (first | omega | (simp; done) | (simp; omega))))⟩
end Go.Proofs.Ythekeeagjokpeaa
namespace Go.Proofs.Ythekeeagjokpeaa
open Go.RowKit
set_option linter.unusedVariables false
set_option linter.unusedSimpArgs false

set_option maxRecDepth 20000 in
set_option maxHeartbeats 2000000 in
theorem bodyOk_k (V : Nat → Int) (w : World) (b : Bool) (eb : bodyB V = b) :
    Calls Try.prog 28 #[bodyW V] w fun e w' => e = .returned (.bool b) ∧ Below w.heap.size w w' := by
  have hset := cset_map
  go_enter Try.func28, Try.ntmps28
  go_wp2_with (go_at_call 55; refine (handleOf_k V _ b eb).mono ?_; rintro e w1 ⟨cb, S, rfl, hcb, hC1, hb1⟩; (try simp only [World.size_drew, World.size_alloc, World.size_setCell] at hcb); obtain ⟨hc1, hf1⟩ := bcell hb1; have hz1 := hb1.size; (try simp only [World.size_drew, World.size_alloc, World.size_setCell] at hc1 hf1 hz1); have hk1x0 := fun o => hc1 (w.heap.size) o (by omega); have hj1x0 := fun o => hf1 (w.heap.size) o (by omega); have hq1x0 : w.heap.size < w1.heap.size := (by omega); clear hc1 hf1)
  go_ret
  exact ⟨rfl, by repeat (first | with_reducible apply Below.refl | (with_reducible apply Below.setCell; rotate_left; focus (first | omega | (simp; done) | (simp; omega))) | (with_reducible apply Below.alloc; rotate_left; focus (first | omega | (simp; done) | (simp; omega))) | with_reducible apply Below.drew | with_reducible apply belowDrewN | (with_reducible apply Below.trans; rotate_left; with_reducible apply Below.mono; with_reducible assumption; focus (first | omega | (simp; done) | (simp; omega))))⟩

set_option maxHeartbeats 1000000 in
theorem isDrive_q (x y : Int) (b : Bool) (w : World) (e : inB 20000000 x y = b) :
    Calls Try.prog 38 #[vv x y] w fun e w' => e = .returned (.bool b) ∧ Below w.heap.size w w' := by
  subst e
  have hset := cset_map
  go_enter Try.func38, Try.ntmps38
  go_wp2_with (first
    | (go_at_call 62; refine (within2_any _ _ _ _ (by omega) (by omega)).mono ?_; rintro e w2 ⟨rfl, hb2⟩; obtain ⟨hc2, hf2⟩ := bcell hb2; have hz2 := hb2.size; (try simp only [World.size_drew, World.size_alloc, World.size_setCell] at hc2 hf2 hz2); have hk2x0 := fun o => hc2 (w.heap.size) o (by omega); have hj2x0 := fun o => hf2 (w.heap.size) o (by omega); have hq2x0 : w.heap.size < w2.heap.size := (by omega); clear hc2 hf2)
    | (go_at_call 61; refine (wayOf_any _ _ _).mono ?_; rintro e w1 ⟨rfl, hb1⟩; obtain ⟨hc1, hf1⟩ := bcell hb1; have hz1 := hb1.size; (try simp only [World.size_drew, World.size_alloc, World.size_setCell] at hc1 hf1 hz1); have hk1x0 := fun o => hc1 (w.heap.size) o (by omega); have hj1x0 := fun o => hf1 (w.heap.size) o (by omega); have hq1x0 : w.heap.size < w1.heap.size := (by omega); clear hc1 hf1))
  go_ret
  exact ⟨rfl, by repeat (first | with_reducible apply Below.refl | (with_reducible apply Below.setCell; rotate_left; focus (first | omega | (simp; done) | (simp; omega))) | (with_reducible apply Below.alloc; rotate_left; focus (first | omega | (simp; done) | (simp; omega))) | with_reducible apply Below.drew | with_reducible apply belowDrewN | (with_reducible apply Below.trans; rotate_left; with_reducible apply Below.mono; with_reducible assumption; focus (first | omega | (simp; done) | (simp; omega))))⟩

def setV (V : Nat → Int) (k : Nat) (a : Int) : Nat → Int := fun j => if j = k then a else V j
/-- a body that was pushed -/
def pushV (V : Nat → Int) (p q : Int) : Nat → Int := if V 8 = 0 then V else setV (setV (setV V 6 (clampZ 20000000 (V 6 + p))) 7 (clampZ 20000000 (V 7 + q))) 11 0
theorem pushC_V (C : Nat → Nat → Int) (k : Nat) (p q : Int) : (fun i => pushC C k p q i k) = pushV (fun i => C i k) p q := by
  funext i
  unfold pushC pushV
  by_cases m : C 8 k = 0
  · rw [if_pos m, if_pos m]
  · rw [if_neg m, if_neg m]; simp [setC, setV]
set_option maxRecDepth 20000 in
set_option maxHeartbeats 8000000 in
theorem bodyPush_k (V : Nat → Int) (p q : Int) (w : World) (eb : bodyB V = true) (ed : inB 20000000 p q = true) :
    Calls Try.prog 39 #[bodyW V, vv p q] w fun e w' => e = .returned (bodyW (pushV V p q)) ∧ Below w.heap.size w w' := by
  have hset := cset_map
  obtain ⟨⟨m0, m1⟩, ⟨n0, n1⟩, ⟨x0, x1⟩, ⟨y0, y1⟩, ⟨u0, u1⟩, ⟨v0, v1⟩, _⟩ := bodyB_bd eb
  obtain ⟨⟨p0, p1⟩, ⟨q0, q1⟩⟩ := inB_of ed
  go_enter Try.func39, Try.ntmps39
  go_upto_region 4 with (first
    | (go_at_call 38; refine (isDrive_q _ _ true _ ed).mono ?_; rintro e w2 ⟨rfl, hb2⟩; obtain ⟨hc2, hf2⟩ := bcell hb2; have hz2 := hb2.size; (try simp only [World.size_drew, World.size_alloc, World.size_setCell] at hc2 hf2 hz2); have hk2x0 := fun o => hc2 (w.heap.size + 1) o (by omega); have hj2x0 := fun o => hf2 (w.heap.size + 1) o (by omega); have hq2x0 : w.heap.size + 1 < w2.heap.size := (by omega); have hk2x1 := fun o => hc2 (w.heap.size + 1 + 1) o (by omega); have hj2x1 := fun o => hf2 (w.heap.size + 1 + 1) o (by omega); have hq2x1 : w.heap.size + 1 + 1 < w2.heap.size := (by omega); have hk2x2 := fun o => hc2 (w1.heap.size) o (by omega); have hj2x2 := fun o => hf2 (w1.heap.size) o (by omega); have hq2x2 : w1.heap.size < w2.heap.size := (by omega); clear hc2 hf2)
    | (go_at_call 55; refine (handleOf_k V _ true eb).mono ?_; rintro e w1 ⟨cb, S, rfl, hcb, hC1, hb1⟩; (try simp only [World.size_drew, World.size_alloc, World.size_setCell] at hcb); obtain ⟨hc1, hf1⟩ := bcell hb1; have hz1 := hb1.size; (try simp only [World.size_drew, World.size_alloc, World.size_setCell] at hc1 hf1 hz1); have hk1x0 := fun o => hc1 (w.heap.size + 1) o (by omega); have hj1x0 := fun o => hf1 (w.heap.size + 1) o (by omega); have hq1x0 : w.heap.size + 1 < w1.heap.size := (by omega); have hk1x1 := fun o => hc1 (w.heap.size + 1 + 1) o (by omega); have hj1x1 := fun o => hf1 (w.heap.size + 1 + 1) o (by omega); have hq1x1 : w.heap.size + 1 + 1 < w1.heap.size := (by omega); clear hc1 hf1))
  have hx : ∀ b, b < cb ∨ w1.heap.size ≤ b → ¬ Xc S b := fun b hb x => by have := hC1.xlt x; omega
  refine wp_region_held_drew (S := fun w' => w'.cell? ⟨w1.heap.size, 0, none⟩ = some (.int .i64 0) ∧ w'.cell? ⟨w1.heap.size, 1, none⟩ = some (.pointer (some ⟨cb, 0, none⟩)) ∧ w'.cell? ⟨w.heap.size + 1, 0, none⟩ = some (.int .i64 p) ∧ w'.cell? ⟨w.heap.size + 1, 1, none⟩ = some (.int .i64 q)) (by kernel_rfl) ?_ (fun hHeld => ?_)
  · (try dsimp only)
    (first | (go_simp; done) | (go_keep; done))
  refine tq 0 hHeld ?_
  refine tq 1 hHeld ?_
  (refine tc 2 fun K hK => ?_; go_simp; (go_at_call 61; refine (wayOf_any _ _ _).mono ?_; rintro e w3 ⟨rfl, hb3⟩; obtain ⟨hc3, hf3⟩ := bcell hb3; have hz3 := hb3.size; (try simp only [World.size_drew, World.size_alloc, World.size_setCell] at hc3 hf3 hz3); have hk3x0 := fun o => hc3 (w.heap.size + 1) o (by omega); have hj3x0 := fun o => hf3 (w.heap.size + 1) o (by omega); have hq3x0 : w.heap.size + 1 < w3.heap.size := (by omega); have hk3x1 := fun o => hc3 (w.heap.size + 1 + 1) o (by omega); have hj3x1 := fun o => hf3 (w.heap.size + 1 + 1) o (by omega); have hq3x1 : w.heap.size + 1 + 1 < w3.heap.size := (by omega); have hk3x2 := fun o => hc3 (w1.heap.size) o (by omega); have hj3x2 := fun o => hf3 (w1.heap.size) o (by omega); have hq3x2 : w1.heap.size < w3.heap.size := (by omega); clear hc3 hf3); (try go_wp2_with fail); refine tr hK (fun hHeld => ?_); clear hK K)
  (refine tc 3 fun K hK => ?_; go_simp; (go_at_call 63; refine (kPush (k := 0) (C := fun i _ => V i) (hC1.below (by repeat (first | with_reducible apply Below.refl | (with_reducible apply Below.setCell; rotate_left; focus (first | omega | (simp; done) | (simp; omega))) | (with_reducible apply Below.alloc; rotate_left; focus (first | omega | (simp; done) | (simp; omega))) | with_reducible apply Below.drew | with_reducible apply belowDrewN | (with_reducible apply Below.trans; rotate_left; with_reducible apply Below.mono; with_reducible assumption; focus (first | omega | (simp; done) | (simp; omega)))))) (by omega) (by omega) p q (by omega) (by omega) (by omega) (by omega)).mono ?_; rintro e w4 ⟨rfl, hr4, hF4⟩; have hz4 := hF4.size; (try simp only [World.size_drew, World.size_alloc, World.size_setCell] at hz4); have hk4x0 := fun o => hF4.cell (p := ⟨w.heap.size + 1, o, none⟩) (by first | omega | (simp; done) | (simp; omega)) (hx _ (by first | omega | (simp; done) | (simp; omega))); have hj4x0 := fun o => hF4.frozen (p := ⟨w.heap.size + 1, o, none⟩) (by first | omega | (simp; done) | (simp; omega)) (hx _ (by first | omega | (simp; done) | (simp; omega))); have hq4x0 : w.heap.size + 1 < w4.heap.size := (by omega); have hk4x1 := fun o => hF4.cell (p := ⟨w.heap.size + 1 + 1, o, none⟩) (by first | omega | (simp; done) | (simp; omega)) (hx _ (by first | omega | (simp; done) | (simp; omega))); have hj4x1 := fun o => hF4.frozen (p := ⟨w.heap.size + 1 + 1, o, none⟩) (by first | omega | (simp; done) | (simp; omega)) (hx _ (by first | omega | (simp; done) | (simp; omega))); have hq4x1 : w.heap.size + 1 + 1 < w4.heap.size := (by omega); have hk4x2 := fun o => hF4.cell (p := ⟨w1.heap.size, o, none⟩) (by first | omega | (simp; done) | (simp; omega)) (hx _ (by first | omega | (simp; done) | (simp; omega))); have hj4x2 := fun o => hF4.frozen (p := ⟨w1.heap.size, o, none⟩) (by first | omega | (simp; done) | (simp; omega)) (hx _ (by first | omega | (simp; done) | (simp; omega))); have hq4x2 : w1.heap.size < w4.heap.size := (by omega)); (try go_wp2_with fail); refine tr hK (fun hHeld => ?_); clear hK K)
  refine wpAnyH_done (by kernel_rfl) ?_ _
  have hb4 : Below w.heap.size w w4 := Below.trans (b := w3) (by repeat (first | with_reducible apply Below.refl | (with_reducible apply Below.setCell; rotate_left; focus (first | omega | (simp; done) | (simp; omega))) | (with_reducible apply Below.alloc; rotate_left; focus (first | omega | (simp; done) | (simp; omega))) | with_reducible apply Below.drew | with_reducible apply belowDrewN | (with_reducible apply Below.trans; rotate_left; with_reducible apply Below.mono; with_reducible assumption; focus (first | omega | (simp; done) | (simp; omega))))) (hF4.below (by omega) (fun k x => by have := hC1.xlt x; omega))
  go_wp2_with (go_at_call 64; refine (kBody (hr4.hat (k := 0) (by omega) (by omega))).mono ?_; rintro e w5 ⟨rfl, hb5⟩; obtain ⟨hc5, hf5⟩ := bcell hb5; have hz5 := hb5.size; (try simp only [World.size_drew, World.size_alloc, World.size_setCell] at hc5 hf5 hz5); have hk5x0 := fun o => hc5 (w.heap.size + 1) o (by omega); have hj5x0 := fun o => hf5 (w.heap.size + 1) o (by omega); have hq5x0 : w.heap.size + 1 < w5.heap.size := (by omega); have hk5x1 := fun o => hc5 (w.heap.size + 1 + 1) o (by omega); have hj5x1 := fun o => hf5 (w.heap.size + 1 + 1) o (by omega); have hq5x1 : w.heap.size + 1 + 1 < w5.heap.size := (by omega); clear hc5 hf5)
  rw [show pushV V p q = (fun i => pushC (fun i _ => V i) 0 p q i 0) from (pushC_V (fun i _ => V i) 0 p q).symm]
  exact bodyPost_ret (v := bodyW (fun i => pushC (fun i _ => V i) 0 p q i 0)) (by simp [results, Try.results39, go_sem, *]) rfl ⟨rfl, by repeat (first | with_reducible apply Below.refl | (with_reducible apply Below.setCell; rotate_left; focus (first | omega | (simp; done) | (simp; omega))) | (with_reducible apply Below.alloc; rotate_left; focus (first | omega | (simp; done) | (simp; omega))) | with_reducible apply Below.drew | with_reducible apply belowDrewN | (with_reducible apply Below.trans; rotate_left; with_reducible apply Below.mono; with_reducible assumption; focus (first | omega | (simp; done) | (simp; omega))))⟩
end Go.Proofs.Ythekeeagjokpeaa
namespace Go.Proofs.Ythekeeagjokpeaa
open Go.RowKit
set_option linter.unusedVariables false
set_option linter.unusedSimpArgs false

/-- an answer: a world and a code -/
structure WA where
  T : Int
  P : Int
  n : Nat
  U : Nat → Int
  m : Nat
  Q : Nat → Int
  k : Int
def WOut (w w' : World) (e : Ending) (A : WA) : Prop := ∃ a1 c1 a2 c2, e = .returned (.tuple #[worldW A.T A.P a1 A.n c1 a2 A.m c2, .int .i64 A.k]) ∧ OutW w w' a1 A.n c1 A.U a2 A.m c2 A.Q
def WA.none : WA := ⟨0, 0, 0, fun _ => 0, 0, fun _ => 0, 1⟩
theorem OutW.nil {w w' : World} {U Q : Nat → Int} (h : Below w.heap.size w w') : OutW w w' none 0 0 U none 0 0 Q := ⟨h, OwnL.nil _ _ _ _ _, OwnL.nil _ _ _ _ _, fun b e => by simp [Value.ownBlock] at e⟩
theorem OutW.res {w0 wB w4 : World} {a a' : Option Addr} {n c m c' b : Nat} {U Q : Nat → Int} (h : OutW wB w4 a n c U a' m c' Q) (hb : Below w0.heap.size w0 wB) (h1 : w0.heap.size ≤ b) (h2 : b < wB.heap.size) (v0 v1 v2 v3 : Value) :
    OutW w0 ((((w4.setCell ⟨b, 0, none⟩ v0).setCell ⟨b, 1, none⟩ v1).setCell ⟨b, 2, none⟩ v2).setCell ⟨b, 3, none⟩ v3) a n c U a' m c' Q :=
  ⟨((((hb.trans (h.bel.mono hb.size)).setCell h1 _).setCell h1 _).setCell h1 _).setCell h1 _, ((((h.ob.setO h2 _).setO h2 _).setO h2 _).setO h2 _).base hb.size, ((((h.op.setO h2 _).setO h2 _).setO h2 _).setO h2 _).base hb.size, h.ne⟩
/-- a world in a variable at bx, its lists in memory of their own -/
structure Vw (wc : World) (lo hi bx : Nat) (T P : Int) (a1 : Option Addr) (n k1 : Nat) (U : Nat → Int) (a2 : Option Addr) (m k2 : Nat) (Q : Nat → Int) : Prop where
  c0 : wc.cell? ⟨bx, 0, none⟩ = some (.int .i64 T)
  c1 : wc.cell? ⟨bx, 1, none⟩ = some (.int .i64 P)
  c2 : wc.cell? ⟨bx, 2, none⟩ = some (.slice a1 n k1)
  c3 : wc.cell? ⟨bx, 3, none⟩ = some (.slice a2 m k2)
  nf : ∀ o, wc.frozen? ⟨bx, o, none⟩ = false
  bl : lo ≤ bx
  bh : bx < hi
  le : hi ≤ wc.heap.size
  ob : OwnL wc lo 43 12 (.slice a1 n k1) n U
  op : OwnL wc lo 73 2 (.slice a2 m k2) m Q
  t1 : ∀ b, (Value.slice a1 n k1).ownBlock = some b → b < hi ∧ b ≠ bx
  t2 : ∀ b, (Value.slice a2 m k2).ownBlock = some b → b < hi ∧ b ≠ bx
theorem Vw.blt {wc : World} {lo hi bx : Nat} {T P : Int} {a1 : Option Addr} {n c1 : Nat} {U : Nat → Int} {a2 : Option Addr} {m c2 : Nat} {Q : Nat → Int} (h : Vw wc lo hi bx T P a1 n c1 U a2 m c2 Q) : bx < wc.heap.size := Nat.lt_of_lt_of_le h.bh h.le
theorem Vw.on {wc : World} {lo hi bx : Nat} {T P : Int} {a1 : Option Addr} {n c1 : Nat} {U : Nat → Int} {a2 : Option Addr} {m c2 : Nat} {Q : Nat → Int} {w' : World} (h : Vw wc lo hi bx T P a1 n c1 U a2 m c2 Q) (hb : Below wc.heap.size wc w') : Vw w' lo hi bx T P a1 n c1 U a2 m c2 Q :=
  ⟨(hb.cell (p := ⟨bx, 0, none⟩) h.blt).trans h.c0, (hb.cell (p := ⟨bx, 1, none⟩) h.blt).trans h.c1, (hb.cell (p := ⟨bx, 2, none⟩) h.blt).trans h.c2, (hb.cell (p := ⟨bx, 3, none⟩) h.blt).trans h.c3, fun o => (hb.frozen (p := ⟨bx, o, none⟩) h.blt).trans (h.nf o), h.bl, h.bh, Nat.le_trans h.le hb.size, h.ob.below hb, h.op.below hb, h.t1, h.t2⟩
theorem Vw.fr {X : Nat → Prop} {wc : World} {lo hi bx : Nat} {T P : Int} {a1 : Option Addr} {n c1 : Nat} {U : Nat → Int} {a2 : Option Addr} {m c2 : Nat} {Q : Nat → Int} {w' : World} (h : Vw wc lo hi bx T P a1 n c1 U a2 m c2 Q) (hs : Fr X wc w') (hX : ∀ b, X b → b < lo ∨ hi ≤ b) : Vw w' lo hi bx T P a1 n c1 U a2 m c2 Q := by
  have nb : ¬ X bx := fun x => by have := hX _ x; have := h.bl; have := h.bh; omega
  have k := fun o => hs.cell (p := ⟨bx, o, none⟩) h.blt nb
  exact ⟨(k 0).trans h.c0, (k 1).trans h.c1, (k 2).trans h.c2, (k 3).trans h.c3, fun o => (hs.frozen (p := ⟨bx, o, none⟩) h.blt nb).trans (h.nf o), h.bl, h.bh, Nat.le_trans h.le hs.size,
    h.ob.frame hs (fun b e x => by have := hX _ x; have := (h.ob.lt b e).1; have := (h.t1 b e).1; omega), h.op.frame hs (fun b e x => by have := hX _ x; have := (h.op.lt b e).1; have := (h.t2 b e).1; omega), h.t1, h.t2⟩
theorem Vw.fb {wc : World} {lo hi bx : Nat} {T P : Int} {a1 : Option Addr} {n c1 : Nat} {U : Nat → Int} {a2 : Option Addr} {m c2 : Nat} {Q : Nat → Int} (h : Vw wc lo hi bx T P a1 n c1 U a2 m c2 Q) : Flat wc a1 (n * 12) U := h.ob.flat
theorem Vw.fp {wc : World} {lo hi bx : Nat} {T P : Int} {a1 : Option Addr} {n c1 : Nat} {U : Nat → Int} {a2 : Option Addr} {m c2 : Nat} {Q : Nat → Int} (h : Vw wc lo hi bx T P a1 n c1 U a2 m c2 Q) : Flat wc a2 (m * 2) Q := h.op.flat
/-- what a call made, stored into a new variable -/
theorem Vw.new {w0 w1 : World} {T P : Int} {a1 a2 : Option Addr} {n c1 m c2 : Nat} {U Q : Nat → Int} (h : OutW w0 w1 a1 n c1 U a2 m c2 Q) :
    Vw (w1.alloc (.cells #[.int .i64 T, .int .i64 P, .slice a1 n c1, .slice a2 m c2] 36)) w0.heap.size (w1.heap.size + 1) w1.heap.size T P a1 n c1 U a2 m c2 Q := by
  have hE : Below w1.heap.size w1 (w1.alloc (.cells #[.int .i64 T, .int .i64 P, .slice a1 n c1, .slice a2 m c2] 36)) := (Below.refl _ _).alloc (Nat.le_refl _) _
  exact ⟨by go_simp, by go_simp, by go_simp, by go_simp, fun o => by go_simp, h.bel.size, by omega, by simp, h.ob.below hE, h.op.below hE, fun b e => by have := (h.ob.lt b e).2; omega, fun b e => by have := (h.op.lt b e).2; omega⟩
/-- it is handed out -/
theorem Vw.out {wc : World} {lo hi bx : Nat} {T P : Int} {a1 : Option Addr} {n c1 : Nat} {U : Nat → Int} {a2 : Option Addr} {m c2 : Nat} {Q : Nat → Int} {w : World} {b : Nat} (h : Vw wc lo hi bx T P a1 n c1 U a2 m c2 Q) (hb : Below w.heap.size w wc) (h1 : w.heap.size ≤ b) (h2 : b < lo) (v0 v1 v2 v3 : Value) :
    OutW w ((((wc.setCell ⟨b, 0, none⟩ v0).setCell ⟨b, 1, none⟩ v1).setCell ⟨b, 2, none⟩ v2).setCell ⟨b, 3, none⟩ v3) a1 n c1 U a2 m c2 Q :=
  ⟨(((hb.setCell h1 _).setCell h1 _).setCell h1 _).setCell h1 _, ((((h.ob.setO h2 _).setO h2 _).setO h2 _).setO h2 _).base (B := w.heap.size) (by omega), ((((h.op.setO h2 _).setO h2 _).setO h2 _).setO h2 _).base (B := w.heap.size) (by omega), h.ob.neT h.op (by decide)⟩
/-- its bodies are changed in their own memory -/
theorem Vw.bods {wc : World} {lo hi bx : Nat} {T P : Int} {n c1 : Nat} {U : Nat → Int} {a2 : Option Addr} {m c2 : Nat} {Q : Nat → Int} {w' : World} {g : Nat} {U' : Nat → Int} (h : Vw wc lo hi bx T P (some ⟨g, 0, none⟩) n c1 U a2 m c2 Q) (hn : 0 < n) (hs : Fr (fun b => b = g) wc w') (ho : OwnL w' lo 43 12 (.slice (some ⟨g, 0, none⟩) n c1) n U') : Vw w' lo hi bx T P (some ⟨g, 0, none⟩) n c1 U' a2 m c2 Q := by
  have hg := h.t1 g rfl
  have nb : ¬ bx = g := fun e => hg.2 e.symm
  have k := fun o => hs.cell (p := ⟨bx, o, none⟩) h.blt nb
  exact ⟨(k 0).trans h.c0, (k 1).trans h.c1, (k 2).trans h.c2, (k 3).trans h.c3, fun o => (hs.frozen (p := ⟨bx, o, none⟩) h.blt nb).trans (h.nf o), h.bl, h.bh, Nat.le_trans h.le hs.size,
    ho, h.op.frame hs (fun b e x => h.ob.neT h.op (by decide) g rfl (x ▸ e)), h.t1, h.t2⟩
/-- a list of which one thing was replaced -/
def putRow (U : Nat → Int) (p : Nat) (V : Nat → Int) : Nat → Int := fun q => if p * 12 ≤ q ∧ q < p * 12 + 12 then V (q - p * 12) else U q
theorem put12 {w4 : World} {base n g c p : Nat} {U : Nat → Int} (h : OwnL w4 base 43 12 (.slice (some ⟨g, 0, none⟩) n c) n U) (hp : p < n) (V : Nat → Int) :
    OwnL ((((((((((((w4.setCell ⟨g, p * 12, none⟩ (.int .i64 (V 0))).setCell ⟨g, p * 12 + 1, none⟩ (.int .i64 (V 1))).setCell ⟨g, p * 12 + 2, none⟩ (.int .i64 (V 2))).setCell ⟨g, p * 12 + 3, none⟩ (.int .i64 (V 3))).setCell ⟨g, p * 12 + 4, none⟩ (.int .i64 (V 4))).setCell ⟨g, p * 12 + 5, none⟩ (.int .i64 (V 5))).setCell ⟨g, p * 12 + 6, none⟩ (.int .i64 (V 6))).setCell ⟨g, p * 12 + 7, none⟩ (.int .i64 (V 7))).setCell ⟨g, p * 12 + 8, none⟩ (.int .i64 (V 8))).setCell ⟨g, p * 12 + 9, none⟩ (.int .i64 (V 9))).setCell ⟨g, p * 12 + 10, none⟩ (.int .i64 (V 10))).setCell ⟨g, p * 12 + 11, none⟩ (.int .i64 (V 11))) base 43 12 (.slice (some ⟨g, 0, none⟩) n c) n (putRow U p V) := by
  have q1 := h.setq (p * 12) (by omega) (V 0)
  have q2 := q1.setq (p * 12 + 1) (by omega) (V 1)
  have q3 := q2.setq (p * 12 + 2) (by omega) (V 2)
  have q4 := q3.setq (p * 12 + 3) (by omega) (V 3)
  have q5 := q4.setq (p * 12 + 4) (by omega) (V 4)
  have q6 := q5.setq (p * 12 + 5) (by omega) (V 5)
  have q7 := q6.setq (p * 12 + 6) (by omega) (V 6)
  have q8 := q7.setq (p * 12 + 7) (by omega) (V 7)
  have q9 := q8.setq (p * 12 + 8) (by omega) (V 8)
  have q10 := q9.setq (p * 12 + 9) (by omega) (V 9)
  have q11 := q10.setq (p * 12 + 10) (by omega) (V 10)
  have q12 := q11.setq (p * 12 + 11) (by omega) (V 11)
  refine q12.congr fun q _ => ?_
  unfold putRow
  by_cases e : p * 12 ≤ q ∧ q < p * 12 + 12
  · rw [if_pos e]
    obtain ⟨d, rfl⟩ : ∃ d, q = p * 12 + d := ⟨q - p * 12, by omega⟩
    rw [Nat.add_sub_cancel_left]
    rcases (show d = 0 ∨ d = 1 ∨ d = 2 ∨ d = 3 ∨ d = 4 ∨ d = 5 ∨ d = 6 ∨ d = 7 ∨ d = 8 ∨ d = 9 ∨ d = 10 ∨ d = 11 by omega) with rfl | rfl | rfl | rfl | rfl | rfl | rfl | rfl | rfl | rfl | rfl | rfl <;> simp
  · rw [if_neg e]
    repeat rw [if_neg (by omega)]
theorem putFr {w4 : World} {g p : Nat} (V : Nat → Int) : Fr (fun b => b = g) w4 ((((((((((((w4.setCell ⟨g, p * 12, none⟩ (.int .i64 (V 0))).setCell ⟨g, p * 12 + 1, none⟩ (.int .i64 (V 1))).setCell ⟨g, p * 12 + 2, none⟩ (.int .i64 (V 2))).setCell ⟨g, p * 12 + 3, none⟩ (.int .i64 (V 3))).setCell ⟨g, p * 12 + 4, none⟩ (.int .i64 (V 4))).setCell ⟨g, p * 12 + 5, none⟩ (.int .i64 (V 5))).setCell ⟨g, p * 12 + 6, none⟩ (.int .i64 (V 6))).setCell ⟨g, p * 12 + 7, none⟩ (.int .i64 (V 7))).setCell ⟨g, p * 12 + 8, none⟩ (.int .i64 (V 8))).setCell ⟨g, p * 12 + 9, none⟩ (.int .i64 (V 9))).setCell ⟨g, p * 12 + 10, none⟩ (.int .i64 (V 10))).setCell ⟨g, p * 12 + 11, none⟩ (.int .i64 (V 11))) :=
  (((((((((((((Fr.refl (fun b => b = g) w4).trans (Fr.setCell (X := fun b => b = g) rfl _)).trans (Fr.setCell (X := fun b => b = g) rfl _)).trans (Fr.setCell (X := fun b => b = g) rfl _)).trans (Fr.setCell (X := fun b => b = g) rfl _)).trans (Fr.setCell (X := fun b => b = g) rfl _)).trans (Fr.setCell (X := fun b => b = g) rfl _)).trans (Fr.setCell (X := fun b => b = g) rfl _)).trans (Fr.setCell (X := fun b => b = g) rfl _)).trans (Fr.setCell (X := fun b => b = g) rfl _)).trans (Fr.setCell (X := fun b => b = g) rfl _)).trans (Fr.setCell (X := fun b => b = g) rfl _)).trans (Fr.setCell (X := fun b => b = g) rfl _))
/-- what FmPush begins with -/
structure FmPush (w : World) (T P : Int) (a : Option Addr) (n c : Nat) (a' : Option Addr) (m c' : Nat) (x y : Int) (wr : World) : Prop where
  wd : WdR w T P a n c a' m c' wr
  big : w.heap.size + 1 + 1 < wr.heap.size
  r0 : wr.cell? ⟨w.heap.size + 1, 0, none⟩ = some (.int .i64 x)
  r1 : wr.cell? ⟨w.heap.size + 1, 1, none⟩ = some (.int .i64 y)
  z0 : wr.cell? ⟨w.heap.size + 1 + 1, 0, none⟩ = some (.int .i64 0)
  z1 : wr.cell? ⟨w.heap.size + 1 + 1, 1, none⟩ = some (.int .i64 0)
  z2 : wr.cell? ⟨w.heap.size + 1 + 1, 2, none⟩ = some (.slice none 0 0)
  z3 : wr.cell? ⟨w.heap.size + 1 + 1, 3, none⟩ = some (.slice none 0 0)
  nf : ∀ o, wr.frozen? ⟨w.heap.size + 1 + 1, o, none⟩ = false
theorem FmPush.on {w wr w' : World} {T P : Int} {a a' : Option Addr} {n c m c' : Nat} {x y : Int} (h : FmPush w T P a n c a' m c' x y wr) (hb : Below wr.heap.size wr w') : FmPush w T P a n c a' m c' x y w' :=
  have bg := h.big
  ⟨h.wd.on hb, Nat.lt_of_lt_of_le h.big hb.size, (hb.cell (p := ⟨w.heap.size + 1, 0, none⟩) (by simp; omega)).trans h.r0, (hb.cell (p := ⟨w.heap.size + 1, 1, none⟩) (by simp; omega)).trans h.r1, (hb.cell (p := ⟨w.heap.size + 1 + 1, 0, none⟩) bg).trans h.z0, (hb.cell (p := ⟨w.heap.size + 1 + 1, 1, none⟩) bg).trans h.z1, (hb.cell (p := ⟨w.heap.size + 1 + 1, 2, none⟩) bg).trans h.z2, (hb.cell (p := ⟨w.heap.size + 1 + 1, 3, none⟩) bg).trans h.z3, fun o => (hb.frozen (p := ⟨w.heap.size + 1 + 1, o, none⟩) bg).trans (h.nf o)⟩
theorem FmPush.fr {X : Nat → Prop} {w wr w' : World} {T P : Int} {a a' : Option Addr} {n c m c' : Nat} {x y : Int} (h : FmPush w T P a n c a' m c' x y wr) (hs : Fr X wr w') (hX : ∀ b, X b → w.heap.size + 1 + 1 < b) : FmPush w T P a n c a' m c' x y w' := by
  have bg := h.big
  have n0 : ¬ X w.heap.size := fun x => by have := hX _ x; omega
  have n1 : ¬ X (w.heap.size + 1) := fun x => by have := hX _ x; omega
  have n2 : ¬ X (w.heap.size + 1 + 1) := fun x => by have := hX _ x; omega
  have k0 := fun j => hs.cell (p := ⟨w.heap.size, j, none⟩) (by simp; omega) n0
  have k1 := fun j => hs.cell (p := ⟨w.heap.size + 1, j, none⟩) (by simp; omega) n1
  have k2 := fun j => hs.cell (p := ⟨w.heap.size + 1 + 1, j, none⟩) bg n2
  exact ⟨⟨h.wd.bel.trans (hs.below (by omega) (fun b x => by have := hX b x; omega)), Nat.lt_of_lt_of_le h.wd.big hs.size, (k0 0).trans h.wd.c0, (k0 1).trans h.wd.c1, (k0 2).trans h.wd.c2, (k0 3).trans h.wd.c3⟩, Nat.lt_of_lt_of_le bg hs.size, (k1 0).trans h.r0, (k1 1).trans h.r1, (k2 0).trans h.z0, (k2 1).trans h.z1, (k2 2).trans h.z2, (k2 3).trans h.z3, fun o => (hs.frozen (p := ⟨w.heap.size + 1 + 1, o, none⟩) bg n2).trans (h.nf o)⟩
theorem FmPush.start (w : World) (T P : Int) (a a' : Option Addr) (n c m c' : Nat) (x y : Int) : FmPush w T P a n c a' m c' x y (((w.alloc (Obj.cells #[.int .i64 T, .int .i64 P, .slice a n c, .slice a' m c'] 36)).alloc (Obj.cells #[.int .i64 x, .int .i64 y] 41)).alloc (Obj.cells #[.int .i64 0, .int .i64 0, .slice none 0 0, .slice none 0 0] 36)) :=
  ⟨⟨((((Below.refl _ _).alloc (Nat.le_refl _) _).alloc (by simp) _).alloc (by simp; try omega) _), by simp; try omega, by go_simp, by go_simp, by go_simp, by go_simp⟩, by simp, by go_simp, by go_simp, by go_simp, by go_simp, by go_simp, by go_simp, fun o => by go_simp⟩
end Go.Proofs.Ythekeeagjokpeaa
namespace Go.Proofs.Ythekeeagjokpeaa
open Go.RowKit
set_option linter.unusedVariables false
set_option linter.unusedSimpArgs false

/-- marked up to p, the first mark is s -/
abbrev mixS (s : Int) (p : Nat) (U : Nat → Int) : Nat → Int := fun q => if q < p then s + (q : Int) else U q
theorem OwnL.markS {w : World} {base t k n g c p : Nat} {s : Int} {U : Nat → Int} (h : OwnL w base t k (.slice (Option.some ⟨g, 0, none⟩) n c) n (mixS s p U)) (hp : p < n * k) {x : Int} (hx : x = s + (p : Int)) : OwnL (w.setCell ⟨g, p, none⟩ (.int .i64 x)) base t k (.slice (Option.some ⟨g, 0, none⟩) n c) n (mixS s (p + 1) U) :=
  (h.setq p hp x).congr fun q _ => by
    subst hx
    by_cases e : q = p
    · subst e; simp [mixS]
    · simp only [mixS, if_neg e]
      by_cases l : q < p
      · rw [if_pos l, if_pos (by omega)]
      · rw [if_neg l, if_neg (by omega)]
theorem markBody12s {sf : Int} {w wr : World} {base g n c j : Nat} {U : Nat → Int} (hlt : j < n) (ho : OwnL wr base 43 12 (.slice (some ⟨g, 0, none⟩) n c) n (mixS sf (j * 12) U)) (hg : w.grownBy wr (Value.slice (some ⟨g, 0, none⟩) n c).ownBlock) :
    OwnL ((((((((((((wr.setCell ⟨g, j * 12, none⟩ (.int .i64 (sf + (j : Int) * 12))).setCell ⟨g, j * 12 + 1, none⟩ (.int .i64 (sf + (j : Int) * 12 + 1))).setCell ⟨g, j * 12 + 2, none⟩ (.int .i64 (sf + (j : Int) * 12 + 1 + 1))).setCell ⟨g, j * 12 + 3, none⟩ (.int .i64 (sf + (j : Int) * 12 + 1 + 1 + 1))).setCell ⟨g, j * 12 + 4, none⟩ (.int .i64 (sf + (j : Int) * 12 + 1 + 1 + 1 + 1))).setCell ⟨g, j * 12 + 5, none⟩ (.int .i64 (sf + (j : Int) * 12 + 1 + 1 + 1 + 1 + 1))).setCell ⟨g, j * 12 + 6, none⟩ (.int .i64 (sf + (j : Int) * 12 + 1 + 1 + 1 + 1 + 1 + 1))).setCell ⟨g, j * 12 + 7, none⟩ (.int .i64 (sf + (j : Int) * 12 + 1 + 1 + 1 + 1 + 1 + 1 + 1))).setCell ⟨g, j * 12 + 8, none⟩ (.int .i64 (sf + (j : Int) * 12 + 1 + 1 + 1 + 1 + 1 + 1 + 1 + 1))).setCell ⟨g, j * 12 + 9, none⟩ (.int .i64 (sf + (j : Int) * 12 + 1 + 1 + 1 + 1 + 1 + 1 + 1 + 1 + 1))).setCell ⟨g, j * 12 + 10, none⟩ (.int .i64 (sf + (j : Int) * 12 + 1 + 1 + 1 + 1 + 1 + 1 + 1 + 1 + 1 + 1))).setCell ⟨g, j * 12 + 11, none⟩ (.int .i64 (sf + (j : Int) * 12 + 1 + 1 + 1 + 1 + 1 + 1 + 1 + 1 + 1 + 1 + 1))) base 43 12 (.slice (some ⟨g, 0, none⟩) n c) n (mixS sf ((j + 1) * 12) U) ∧
    w.grownBy ((((((((((((wr.setCell ⟨g, j * 12, none⟩ (.int .i64 (sf + (j : Int) * 12))).setCell ⟨g, j * 12 + 1, none⟩ (.int .i64 (sf + (j : Int) * 12 + 1))).setCell ⟨g, j * 12 + 2, none⟩ (.int .i64 (sf + (j : Int) * 12 + 1 + 1))).setCell ⟨g, j * 12 + 3, none⟩ (.int .i64 (sf + (j : Int) * 12 + 1 + 1 + 1))).setCell ⟨g, j * 12 + 4, none⟩ (.int .i64 (sf + (j : Int) * 12 + 1 + 1 + 1 + 1))).setCell ⟨g, j * 12 + 5, none⟩ (.int .i64 (sf + (j : Int) * 12 + 1 + 1 + 1 + 1 + 1))).setCell ⟨g, j * 12 + 6, none⟩ (.int .i64 (sf + (j : Int) * 12 + 1 + 1 + 1 + 1 + 1 + 1))).setCell ⟨g, j * 12 + 7, none⟩ (.int .i64 (sf + (j : Int) * 12 + 1 + 1 + 1 + 1 + 1 + 1 + 1))).setCell ⟨g, j * 12 + 8, none⟩ (.int .i64 (sf + (j : Int) * 12 + 1 + 1 + 1 + 1 + 1 + 1 + 1 + 1))).setCell ⟨g, j * 12 + 9, none⟩ (.int .i64 (sf + (j : Int) * 12 + 1 + 1 + 1 + 1 + 1 + 1 + 1 + 1 + 1))).setCell ⟨g, j * 12 + 10, none⟩ (.int .i64 (sf + (j : Int) * 12 + 1 + 1 + 1 + 1 + 1 + 1 + 1 + 1 + 1 + 1))).setCell ⟨g, j * 12 + 11, none⟩ (.int .i64 (sf + (j : Int) * 12 + 1 + 1 + 1 + 1 + 1 + 1 + 1 + 1 + 1 + 1 + 1))) (Value.slice (some ⟨g, 0, none⟩) n c).ownBlock := by
  have q1 := ho.markS (by omega) (x := sf + (j : Int) * 12) (by omega)
  have q2 := q1.markS (by omega) (x := sf + (j : Int) * 12 + 1) (by omega)
  have q3 := q2.markS (by omega) (x := sf + (j : Int) * 12 + 1 + 1) (by omega)
  have q4 := q3.markS (by omega) (x := sf + (j : Int) * 12 + 1 + 1 + 1) (by omega)
  have q5 := q4.markS (by omega) (x := sf + (j : Int) * 12 + 1 + 1 + 1 + 1) (by omega)
  have q6 := q5.markS (by omega) (x := sf + (j : Int) * 12 + 1 + 1 + 1 + 1 + 1) (by omega)
  have q7 := q6.markS (by omega) (x := sf + (j : Int) * 12 + 1 + 1 + 1 + 1 + 1 + 1) (by omega)
  have q8 := q7.markS (by omega) (x := sf + (j : Int) * 12 + 1 + 1 + 1 + 1 + 1 + 1 + 1) (by omega)
  have q9 := q8.markS (by omega) (x := sf + (j : Int) * 12 + 1 + 1 + 1 + 1 + 1 + 1 + 1 + 1) (by omega)
  have q10 := q9.markS (by omega) (x := sf + (j : Int) * 12 + 1 + 1 + 1 + 1 + 1 + 1 + 1 + 1 + 1) (by omega)
  have q11 := q10.markS (by omega) (x := sf + (j : Int) * 12 + 1 + 1 + 1 + 1 + 1 + 1 + 1 + 1 + 1 + 1) (by omega)
  have q12 := q11.markS (by omega) (x := sf + (j : Int) * 12 + 1 + 1 + 1 + 1 + 1 + 1 + 1 + 1 + 1 + 1 + 1) (by omega)
  refine ⟨?_, ?_⟩
  · exact q12.congr fun q _ => by rw [show j * 12 + 1 + 1 + 1 + 1 + 1 + 1 + 1 + 1 + 1 + 1 + 1 + 1 = ((j + 1) * 12) from by omega]
  · have h0 : w.grownBy wr (some g) := hg
    exact (grown_trans (grown_trans (grown_trans (grown_trans (grown_trans (grown_trans (grown_trans (grown_trans (grown_trans (grown_trans (grown_trans (grown_trans h0 (grown_setG _ _ _ _)) (grown_setG _ _ _ _)) (grown_setG _ _ _ _)) (grown_setG _ _ _ _)) (grown_setG _ _ _ _)) (grown_setG _ _ _ _)) (grown_setG _ _ _ _)) (grown_setG _ _ _ _)) (grown_setG _ _ _ _)) (grown_setG _ _ _ _)) (grown_setG _ _ _ _)) (grown_setG _ _ _ _))
set_option maxRecDepth 20000 in
set_option maxHeartbeats 2000000 in
theorem markBodyS_from (sf : Int) (hs0 : 0 ≤ sf) (hs1 : sf ≤ 1099511627776) (base : Nat) (a : Option Addr) (n c : Nat) (U : Nat → Int) (w : World) (h : OwnL w base 43 12 (.slice a n c) n U) (hn : n ≤ 2097152) :
    Calls Try.prog 32 #[.slice a n c, .int .i64 sf] w fun e w' => e = .returned (.int .i64 (sf + (n : Int) * 12)) ∧ OwnL w' base 43 12 (.slice a n c) n (fun q => sf + (q : Int)) ∧ w.grownBy w' (Value.slice a n c).ownBlock := by
  have hset := cset_map
  go_enter Try.func32, Try.ntmps32
  go_wp2
  go_loopw [1, 5] (fun s i wr => ∃ j : Nat, j ≤ n ∧ i = .int .i64 (j : Int) ∧ s = .int .i64 (sf + (j : Int) * 12) ∧ OwnL wr base 43 12 (.slice a n c) n (mixS sf (j * 12) U) ∧ w.grownBy wr (Value.slice a n c).ownBlock) (fun _ i _ => n - (intOf i).toNat)
  case atStart => exact ⟨0, Nat.zero_le _, rfl, congrArg (Value.int .i64) (by omega), h.congr (fun q _ => by simp [mixS]), grown_refl _ _⟩
  case round =>
    obtain ⟨j, hj, rfl, rfl, ho, hg⟩ := hrel
    by_cases hlt : j < n
    · have hjn : (j : Int) < (n : Int) := by omega
      obtain ⟨g, rfl, hgb, hgl⟩ := ho.loc (by omega)
      have c0 := ho.cellq (q := j * 12) (by omega)
      have c1 := ho.cellq (q := j * 12 + 1) (by omega)
      have c2 := ho.cellq (q := j * 12 + 2) (by omega)
      have c3 := ho.cellq (q := j * 12 + 3) (by omega)
      have c4 := ho.cellq (q := j * 12 + 4) (by omega)
      have c5 := ho.cellq (q := j * 12 + 5) (by omega)
      have c6 := ho.cellq (q := j * 12 + 6) (by omega)
      have c7 := ho.cellq (q := j * 12 + 7) (by omega)
      have c8 := ho.cellq (q := j * 12 + 8) (by omega)
      have c9 := ho.cellq (q := j * 12 + 9) (by omega)
      have c10 := ho.cellq (q := j * 12 + 10) (by omega)
      have c11 := ho.cellq (q := j * 12 + 11) (by omega)
      have f0 := ho.fro
      go_wp2
      go_roundw
      case rel =>
        obtain ⟨r1, r2⟩ := markBody12s hlt ho hg
        exact ⟨j + 1, by omega, by go_num, congrArg (Value.int .i64) (by omega), r1, r2⟩
      case measure => simp [intOf]; omega
    · obtain rfl : j = n := by omega
      go_wp2
      go_ret
      exact ⟨rfl, ho.congr (fun q hq => by simp only [mixS]; rw [if_pos (by omega)]), hg⟩
theorem markPair2s {sf : Int} {w wr : World} {base g n c j : Nat} {U : Nat → Int} (hlt : j < n) (ho : OwnL wr base 73 2 (.slice (some ⟨g, 0, none⟩) n c) n (mixS sf (j * 2) U)) (hg : w.grownBy wr (Value.slice (some ⟨g, 0, none⟩) n c).ownBlock) :
    OwnL ((wr.setCell ⟨g, j * 2, none⟩ (.int .i64 (sf + (j : Int) * 2))).setCell ⟨g, j * 2 + 1, none⟩ (.int .i64 (sf + (j : Int) * 2 + 1))) base 73 2 (.slice (some ⟨g, 0, none⟩) n c) n (mixS sf ((j + 1) * 2) U) ∧
    w.grownBy ((wr.setCell ⟨g, j * 2, none⟩ (.int .i64 (sf + (j : Int) * 2))).setCell ⟨g, j * 2 + 1, none⟩ (.int .i64 (sf + (j : Int) * 2 + 1))) (Value.slice (some ⟨g, 0, none⟩) n c).ownBlock := by
  have q1 := ho.markS (by omega) (x := sf + (j : Int) * 2) (by omega)
  have q2 := q1.markS (by omega) (x := sf + (j : Int) * 2 + 1) (by omega)
  refine ⟨?_, ?_⟩
  · exact q2.congr fun q _ => by rw [show j * 2 + 1 + 1 = ((j + 1) * 2) from by omega]
  · have h0 : w.grownBy wr (some g) := hg
    exact (grown_trans (grown_trans h0 (grown_setG _ _ _ _)) (grown_setG _ _ _ _))
set_option maxRecDepth 20000 in
set_option maxHeartbeats 2000000 in
theorem markPairS_from (sf : Int) (hs0 : 0 ≤ sf) (hs1 : sf ≤ 1099511627776) (base : Nat) (a : Option Addr) (n c : Nat) (U : Nat → Int) (w : World) (h : OwnL w base 73 2 (.slice a n c) n U) (hn : n ≤ 2097152) :
    Calls Try.prog 33 #[.slice a n c, .int .i64 sf] w fun e w' => e = .returned (.int .i64 (sf + (n : Int) * 2)) ∧ OwnL w' base 73 2 (.slice a n c) n (fun q => sf + (q : Int)) ∧ w.grownBy w' (Value.slice a n c).ownBlock := by
  have hset := cset_map
  go_enter Try.func33, Try.ntmps33
  go_wp2
  go_loopw [1, 5] (fun s i wr => ∃ j : Nat, j ≤ n ∧ i = .int .i64 (j : Int) ∧ s = .int .i64 (sf + (j : Int) * 2) ∧ OwnL wr base 73 2 (.slice a n c) n (mixS sf (j * 2) U) ∧ w.grownBy wr (Value.slice a n c).ownBlock) (fun _ i _ => n - (intOf i).toNat)
  case atStart => exact ⟨0, Nat.zero_le _, rfl, congrArg (Value.int .i64) (by omega), h.congr (fun q _ => by simp [mixS]), grown_refl _ _⟩
  case round =>
    obtain ⟨j, hj, rfl, rfl, ho, hg⟩ := hrel
    by_cases hlt : j < n
    · have hjn : (j : Int) < (n : Int) := by omega
      obtain ⟨g, rfl, hgb, hgl⟩ := ho.loc (by omega)
      have c0 := ho.cellq (q := j * 2) (by omega)
      have c1 := ho.cellq (q := j * 2 + 1) (by omega)
      have f0 := ho.fro
      go_wp2
      go_roundw
      case rel =>
        obtain ⟨r1, r2⟩ := markPair2s hlt ho hg
        exact ⟨j + 1, by omega, by go_num, congrArg (Value.int .i64) (by omega), r1, r2⟩
      case measure => simp [intOf]; omega
    · obtain rfl : j = n := by omega
      go_wp2
      go_ret
      exact ⟨rfl, ho.congr (fun q hq => by simp only [mixS]; rw [if_pos (by omega)]), hg⟩

set_option maxRecDepth 20000 in
set_option maxHeartbeats 2000000 in
theorem markWorld_any (T P : Int) (b n : Nat) (U : Nat → Int) (d m : Nat) (Q : Nat → Int) (w : World) (hr : Row w b 43 (n * 12) U) (hq : Row w d 73 (m * 2) Q) (hn : n ≤ 1048576) (hm : m ≤ 1048576) (hne : b ≠ d) :
    Calls Try.prog 11 #[worldW T P (some ⟨b, 0, none⟩) n n (some ⟨d, 0, none⟩) m m, .int .i64 1] w fun e w' => e = .returned (.int .i64 (1 + (n : Int) * 12 + (m : Int) * 2)) ∧ Fr (fun x => x = b ∨ x = d) w w' := by
  have hset := cset_map
  have o1 := hr.own (base := 0) (Nat.zero_le _) (by unfold maxLen; omega)
  have o2 := hq.own (base := 0) (Nat.zero_le _) (by unfold maxLen; omega)
  have hE : Below w.heap.size w (w.alloc (Obj.cells #[.int .i64 T, .int .i64 P, .slice (some ⟨b, 0, none⟩) n n, .slice (some ⟨d, 0, none⟩) m m] 36)) := (Below.refl _ _).alloc (Nat.le_refl _) _
  have hbl := hr.lt
  have hdl := hq.lt
  go_enter Try.func11, Try.ntmps11
  go_wp2_with (first
    | (go_at_call 32; refine (markBodyS_from 1 (by omega) (by omega) 0 _ n _ U _ (o1.below hE) (by omega)).mono ?_; rintro e w1 ⟨rfl, ho1, hg1⟩; have hF1 := Fr.grown (X := fun x => x = b ∨ x = d) hg1 (fun x hx => by simp [Value.ownBlock] at hx; exact .inl hx.symm) (o1.below hE).isCells; have k3 : w1.cell? ⟨w.heap.size, 3, none⟩ = some (.slice (some ⟨d, 0, none⟩) m m) := (hF1.cell (p := ⟨w.heap.size, 3, none⟩) (by simp) (by simp; omega)).trans (by go_simp); have k2 : w1.cell? ⟨w.heap.size, 2, none⟩ = some (.slice (some ⟨b, 0, none⟩) n n) := (hF1.cell (p := ⟨w.heap.size, 2, none⟩) (by simp) (by simp; omega)).trans (by go_simp))
    | (go_at_call 33; refine (markPairS_from _ (by omega) (by omega) 0 _ m _ Q _ ((o2.below hE).kept hg1 (.inr (by simp [Value.ownBlock]; omega))) (by omega)).mono ?_; rintro e w2 ⟨rfl, ho2, hg2⟩))
  go_ret
  exact ⟨rfl, ((Fr.of_below hE).trans hF1).trans (Fr.grown hg2 (fun x hx => by simp [Value.ownBlock] at hx; exact .inr hx.symm) ((o2.below hE).kept hg1 (.inr (by simp [Value.ownBlock]; omega))).isCells)⟩
theorem markInt1 {w wr : World} {base g n c j : Nat} {U : Nat → Int} (hlt : j < n) (ho : OwnL wr base 3 1 (.slice (some ⟨g, 0, none⟩) n c) n (mixU (j) U)) (hg : w.grownBy wr (Value.slice (some ⟨g, 0, none⟩) n c).ownBlock) :
    OwnL (wr.setCell ⟨g, j, none⟩ (.int .i64 (1 + (j : Int)))) base 3 1 (.slice (some ⟨g, 0, none⟩) n c) n (mixU (j + 1) U) ∧
    w.grownBy (wr.setCell ⟨g, j, none⟩ (.int .i64 (1 + (j : Int)))) (Value.slice (some ⟨g, 0, none⟩) n c).ownBlock := by
  have q1 := ho.mark (by omega) (x := 1 + (j : Int)) (by omega)
  refine ⟨?_, ?_⟩
  · exact q1.congr fun q _ => by rw [show j + 1 = (j + 1) from by omega]
  · have h0 : w.grownBy wr (some g) := hg
    exact (grown_trans h0 (grown_setG _ _ _ _))
theorem Lv.fr {X : Nat → Prop} {w w' : World} {lo hi t k : Nat} {a : Option Addr} {n c : Nat} {U : Nat → Int} (h : Lv w lo hi t k a n c U) (hs : Fr X w w') (hX : ∀ b, X b → b < lo ∨ hi ≤ b) : Lv w' lo hi t k a n c U :=
  ⟨h.own.frame hs (fun b e x => by have := (h.own.lt b e).1; have := h.top b e; rcases hX b x with q | q <;> omega), h.top, Nat.le_trans h.le hs.size⟩
end Go.Proofs.Ythekeeagjokpeaa
