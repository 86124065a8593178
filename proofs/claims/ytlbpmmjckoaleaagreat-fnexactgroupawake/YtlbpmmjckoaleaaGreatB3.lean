/- A body's numbers by its handle, at any row. What lies where behind a call: a block's cells, whether it is frozen, that it is there still. Whether a body is ok, at any row: what rests. Whether a body is ok, at any row: the test of nine limbs, where one of the first is not met. -/
import Derived.Test.YtlbpmmjckoaleaaGreatB1
import Derived.Test.YtlbpmmjckoaleaaGreatB2
import Derived.Deep.RegionHeld3
import Derived.Deep.DeepCutAuto
namespace Go.Proofs.YtlbpmmjckoaleaaGreat
open Go.RowKit
set_option linter.unusedVariables false
set_option linter.unusedSimpArgs false

structure HAt (w : World) (cb n k : Nat) (V : Nat → Int) (G : Nat → Nat) : Prop where
  col : ∀ i, i < 12 → ∃ c, Cell1 w cb n i k (V i) (G i) c
  cbl : cb < w.heap.size
  kn : k < n
  nl : n ≤ 1048576
theorem HAt.below {w w' : World} {cb n k : Nat} {V : Nat → Int} {G : Nat → Nat} (h : HAt w cb n k V G) (hb : Below w.heap.size w w') : HAt w' cb n k V G :=
  ⟨fun i hi => by
    obtain ⟨c, h1, h2, h3, h4, h5⟩ := h.col i hi
    exact ⟨c, (hb.cell (p := ⟨cb, i, none⟩) h.cbl).trans h1, (hb.cell (p := ⟨G i, k, none⟩) h4).trans h2, (hb.frozen (p := ⟨G i, k, none⟩) h4).trans h3, Nat.lt_of_lt_of_le h4 hb.size, h5⟩, Nat.lt_of_lt_of_le h.cbl hb.size, h.kn, h.nl⟩
/-- a handle's own block of each column -/
def gOf (S : Nat → Value) (i : Nat) : Nat := ((S i).ownBlock).getD 0
theorem Cs.hat {w : World} {cb n k : Nat} {C : Nat → Nat → Int} {S : Nat → Value} (h : Cs w cb n C S) (hk : k < n) (hn : n ≤ 1048576) : HAt w cb n k (fun i => C i k) (gOf S) :=
  ⟨fun i hi => by
    obtain ⟨g, c, e, hc⟩ := h.at hi hk
    refine ⟨c, ?_⟩
    rw [show gOf S i = g from by unfold gOf; rw [e]; rfl]
    exact hc, h.lt, hk, hn⟩
theorem upTo_any (n l : Int) (w : World) :
    Calls Tryz.prog 64 #[.int .i64 n, .int .i64 l] w fun e w' => e = .returned (.bool (decide (0 ≤ n ∧ n ≤ l))) ∧ w' = w := by
  go_enter Tryz.func64, Tryz.ntmps64
  go_wp2
  all_goals
    go_ret
    refine ⟨ret_bool ?_, rfl⟩
    first | (simp [*]; done) | (simp at *; omega) | (simp [*]; omega)

set_option maxHeartbeats 4000000 in
theorem kMass {cb n k : Nat} {V : Nat → Int} {G : Nat → Nat} {w : World} (h : HAt w cb n k V G) :
    Calls Tryz.prog 70 #[hdk cb k] w fun e w' => e = .returned (.int .i64 (V 8)) ∧ Below w.heap.size w w' := by
  have hset := cset_map
  have l1 := h.cbl
  have hkn := h.kn
  have hnl := h.nl
  obtain ⟨c8, hc8, hv8, _, l8g, lc8⟩ := h.col 8 (by omega)
  generalize G 8 = g8 at hc8 hv8 l8g lc8
  clear h
  go_enter Tryz.func70, Tryz.ntmps70
  go_upto_region 1 with fail
  refine wp_region_held_drew (S := fun w' => w'.cell? ⟨w.heap.size, 0, none⟩ = some (.int .i64 (k : Int)) ∧ w'.cell? ⟨w.heap.size, 1, none⟩ = some (.pointer (some ⟨cb, 0, none⟩)) ∧ w'.cell? ⟨cb, 8, none⟩ = some (.slice (some ⟨g8, 0, none⟩) n c8) ∧ w'.cell? ⟨g8, k, none⟩ = some (.int .i64 (V 8))) (by kernel_rfl) ?_ (fun hHeld => ?_)
  · (try dsimp only)
    (first | (go_simp; done) | (go_keep; done))
  refine tq 0 hHeld ?_
  refine tq 1 hHeld ?_
  refine tq 2 hHeld ?_
  refine tq 3 hHeld ?_
  refine tq 4 hHeld ?_
  refine tq 5 hHeld ?_
  refine tq 6 hHeld ?_
  refine tq 7 hHeld ?_
  refine tq 8 hHeld ?_
  refine tq 9 hHeld ?_
  refine wpAnyH_done (by kernel_rfl) ?_ _
  go_wp2_with fail
  go_ret
  exact ⟨rfl, bel_a⟩

set_option maxHeartbeats 4000000 in
theorem kBounce {cb n k : Nat} {V : Nat → Int} {G : Nat → Nat} {w : World} (h : HAt w cb n k V G) :
    Calls Tryz.prog 71 #[hdk cb k] w fun e w' => e = .returned (.int .i64 (V 9)) ∧ Below w.heap.size w w' := by
  have hset := cset_map
  have l1 := h.cbl
  have hkn := h.kn
  have hnl := h.nl
  obtain ⟨c9, hc9, hv9, _, l9g, lc9⟩ := h.col 9 (by omega)
  generalize G 9 = g9 at hc9 hv9 l9g lc9
  clear h
  go_enter Tryz.func71, Tryz.ntmps71
  go_upto_region 1 with fail
  refine wp_region_held_drew (S := fun w' => w'.cell? ⟨w.heap.size, 0, none⟩ = some (.int .i64 (k : Int)) ∧ w'.cell? ⟨w.heap.size, 1, none⟩ = some (.pointer (some ⟨cb, 0, none⟩)) ∧ w'.cell? ⟨cb, 9, none⟩ = some (.slice (some ⟨g9, 0, none⟩) n c9) ∧ w'.cell? ⟨g9, k, none⟩ = some (.int .i64 (V 9))) (by kernel_rfl) ?_ (fun hHeld => ?_)
  · (try dsimp only)
    (first | (go_simp; done) | (go_keep; done))
  refine tq 0 hHeld ?_
  refine tq 1 hHeld ?_
  refine tq 2 hHeld ?_
  refine tq 3 hHeld ?_
  refine tq 4 hHeld ?_
  refine tq 5 hHeld ?_
  refine tq 6 hHeld ?_
  refine tq 7 hHeld ?_
  refine tq 8 hHeld ?_
  refine tq 9 hHeld ?_
  refine wpAnyH_done (by kernel_rfl) ?_ _
  go_wp2_with fail
  go_ret
  exact ⟨rfl, bel_a⟩

set_option maxHeartbeats 4000000 in
theorem kRub {cb n k : Nat} {V : Nat → Int} {G : Nat → Nat} {w : World} (h : HAt w cb n k V G) :
    Calls Tryz.prog 72 #[hdk cb k] w fun e w' => e = .returned (.int .i64 (V 10)) ∧ Below w.heap.size w w' := by
  have hset := cset_map
  have l1 := h.cbl
  have hkn := h.kn
  have hnl := h.nl
  obtain ⟨c10, hc10, hv10, _, l10g, lc10⟩ := h.col 10 (by omega)
  generalize G 10 = g10 at hc10 hv10 l10g lc10
  clear h
  go_enter Tryz.func72, Tryz.ntmps72
  go_upto_region 1 with fail
  refine wp_region_held_drew (S := fun w' => w'.cell? ⟨w.heap.size, 0, none⟩ = some (.int .i64 (k : Int)) ∧ w'.cell? ⟨w.heap.size, 1, none⟩ = some (.pointer (some ⟨cb, 0, none⟩)) ∧ w'.cell? ⟨cb, 10, none⟩ = some (.slice (some ⟨g10, 0, none⟩) n c10) ∧ w'.cell? ⟨g10, k, none⟩ = some (.int .i64 (V 10))) (by kernel_rfl) ?_ (fun hHeld => ?_)
  · (try dsimp only)
    (first | (go_simp; done) | (go_keep; done))
  refine tq 0 hHeld ?_
  refine tq 1 hHeld ?_
  refine tq 2 hHeld ?_
  refine tq 3 hHeld ?_
  refine tq 4 hHeld ?_
  refine tq 5 hHeld ?_
  refine tq 6 hHeld ?_
  refine tq 7 hHeld ?_
  refine tq 8 hHeld ?_
  refine tq 9 hHeld ?_
  refine wpAnyH_done (by kernel_rfl) ?_ _
  go_wp2_with fail
  go_ret
  exact ⟨rfl, bel_a⟩

set_option maxHeartbeats 4000000 in
theorem kQuiet {cb n k : Nat} {V : Nat → Int} {G : Nat → Nat} {w : World} (h : HAt w cb n k V G) :
    Calls Tryz.prog 73 #[hdk cb k] w fun e w' => e = .returned (.int .i64 (V 11)) ∧ Below w.heap.size w w' := by
  have hset := cset_map
  have l1 := h.cbl
  have hkn := h.kn
  have hnl := h.nl
  obtain ⟨c11, hc11, hv11, _, l11g, lc11⟩ := h.col 11 (by omega)
  generalize G 11 = g11 at hc11 hv11 l11g lc11
  clear h
  go_enter Tryz.func73, Tryz.ntmps73
  go_upto_region 1 with fail
  refine wp_region_held_drew (S := fun w' => w'.cell? ⟨w.heap.size, 0, none⟩ = some (.int .i64 (k : Int)) ∧ w'.cell? ⟨w.heap.size, 1, none⟩ = some (.pointer (some ⟨cb, 0, none⟩)) ∧ w'.cell? ⟨cb, 11, none⟩ = some (.slice (some ⟨g11, 0, none⟩) n c11) ∧ w'.cell? ⟨g11, k, none⟩ = some (.int .i64 (V 11))) (by kernel_rfl) ?_ (fun hHeld => ?_)
  · (try dsimp only)
    (first | (go_simp; done) | (go_keep; done))
  refine tq 0 hHeld ?_
  refine tq 1 hHeld ?_
  refine tq 2 hHeld ?_
  refine tq 3 hHeld ?_
  refine tq 4 hHeld ?_
  refine tq 5 hHeld ?_
  refine tq 6 hHeld ?_
  refine tq 7 hHeld ?_
  refine tq 8 hHeld ?_
  refine tq 9 hHeld ?_
  refine wpAnyH_done (by kernel_rfl) ?_ _
  go_wp2_with fail
  go_ret
  exact ⟨rfl, bel_a⟩

set_option maxHeartbeats 4000000 in
theorem kAt {cb n k : Nat} {V : Nat → Int} {G : Nat → Nat} {w : World} (h : HAt w cb n k V G) :
    Calls Tryz.prog 67 #[hdk cb k] w fun e w' => e = .returned (vv (V 4) (V 5)) ∧ Below w.heap.size w w' := by
  have hset := cset_map
  have l1 := h.cbl
  have hkn := h.kn
  have hnl := h.nl
  obtain ⟨c4, hc4, hv4, _, l4g, lc4⟩ := h.col 4 (by omega)
  generalize G 4 = g4 at hc4 hv4 l4g lc4
  obtain ⟨c5, hc5, hv5, _, l5g, lc5⟩ := h.col 5 (by omega)
  generalize G 5 = g5 at hc5 hv5 l5g lc5
  clear h
  go_enter Tryz.func67, Tryz.ntmps67
  go_upto_region 1 with fail
  refine wp_region_held_drew (S := fun w' => w'.cell? ⟨w.heap.size, 0, none⟩ = some (.int .i64 (k : Int)) ∧ w'.cell? ⟨w.heap.size, 1, none⟩ = some (.pointer (some ⟨cb, 0, none⟩)) ∧ w'.cell? ⟨cb, 4, none⟩ = some (.slice (some ⟨g4, 0, none⟩) n c4) ∧ w'.cell? ⟨g4, k, none⟩ = some (.int .i64 (V 4)) ∧ w'.cell? ⟨cb, 5, none⟩ = some (.slice (some ⟨g5, 0, none⟩) n c5) ∧ w'.cell? ⟨g5, k, none⟩ = some (.int .i64 (V 5))) (by kernel_rfl) ?_ (fun hHeld => ?_)
  · (try dsimp only)
    (first | (go_simp; done) | (go_keep; done))
  refine tq 0 hHeld ?_
  refine tq 1 hHeld ?_
  refine tq 2 hHeld ?_
  refine tq 3 hHeld ?_
  refine tq 4 hHeld ?_
  refine tq 5 hHeld ?_
  refine tq 6 hHeld ?_
  refine tq 7 hHeld ?_
  refine tq 8 hHeld ?_
  refine tq 9 hHeld ?_
  refine tq 10 hHeld ?_
  refine tq 11 hHeld ?_
  refine tq 12 hHeld ?_
  refine tq 13 hHeld ?_
  refine tq 14 hHeld ?_
  refine tq 15 hHeld ?_
  refine tq 16 hHeld ?_
  refine tq 17 hHeld ?_
  refine tq 18 hHeld ?_
  (refine tc 19 fun K hK => ?_; go_simp; refine tr hK (fun hHeld => ?_); clear hK K)
  refine wpAnyH_done (by kernel_rfl) ?_ _
  go_wp2_with fail
  exact bodyPost_ret (v := vv (V 4) (V 5)) (by simp [results, Tryz.results67, go_sem, *]) rfl ⟨rfl, bel_a⟩

set_option maxHeartbeats 4000000 in
theorem kDrive {cb n k : Nat} {V : Nat → Int} {G : Nat → Nat} {w : World} (h : HAt w cb n k V G) :
    Calls Tryz.prog 69 #[hdk cb k] w fun e w' => e = .returned (vv (V 6) (V 7)) ∧ Below w.heap.size w w' := by
  have hset := cset_map
  have l1 := h.cbl
  have hkn := h.kn
  have hnl := h.nl
  obtain ⟨c6, hc6, hv6, _, l6g, lc6⟩ := h.col 6 (by omega)
  generalize G 6 = g6 at hc6 hv6 l6g lc6
  obtain ⟨c7, hc7, hv7, _, l7g, lc7⟩ := h.col 7 (by omega)
  generalize G 7 = g7 at hc7 hv7 l7g lc7
  clear h
  go_enter Tryz.func69, Tryz.ntmps69
  go_upto_region 1 with fail
  refine wp_region_held_drew (S := fun w' => w'.cell? ⟨w.heap.size, 0, none⟩ = some (.int .i64 (k : Int)) ∧ w'.cell? ⟨w.heap.size, 1, none⟩ = some (.pointer (some ⟨cb, 0, none⟩)) ∧ w'.cell? ⟨cb, 6, none⟩ = some (.slice (some ⟨g6, 0, none⟩) n c6) ∧ w'.cell? ⟨g6, k, none⟩ = some (.int .i64 (V 6)) ∧ w'.cell? ⟨cb, 7, none⟩ = some (.slice (some ⟨g7, 0, none⟩) n c7) ∧ w'.cell? ⟨g7, k, none⟩ = some (.int .i64 (V 7))) (by kernel_rfl) ?_ (fun hHeld => ?_)
  · (try dsimp only)
    (first | (go_simp; done) | (go_keep; done))
  refine tq 0 hHeld ?_
  refine tq 1 hHeld ?_
  refine tq 2 hHeld ?_
  refine tq 3 hHeld ?_
  refine tq 4 hHeld ?_
  refine tq 5 hHeld ?_
  refine tq 6 hHeld ?_
  refine tq 7 hHeld ?_
  refine tq 8 hHeld ?_
  refine tq 9 hHeld ?_
  refine tq 10 hHeld ?_
  refine tq 11 hHeld ?_
  refine tq 12 hHeld ?_
  refine tq 13 hHeld ?_
  refine tq 14 hHeld ?_
  refine tq 15 hHeld ?_
  refine tq 16 hHeld ?_
  refine tq 17 hHeld ?_
  refine tq 18 hHeld ?_
  (refine tc 19 fun K hK => ?_; go_simp; refine tr hK (fun hHeld => ?_); clear hK K)
  refine wpAnyH_done (by kernel_rfl) ?_ _
  go_wp2_with fail
  exact bodyPost_ret (v := vv (V 6) (V 7)) (by simp [results, Tryz.results69, go_sem, *]) rfl ⟨rfl, bel_a⟩

set_option maxHeartbeats 4000000 in
theorem kShape {cb n k : Nat} {V : Nat → Int} {G : Nat → Nat} {w : World} (h : HAt w cb n k V G) :
    Calls Tryz.prog 66 #[hdk cb k] w fun e w' => e = .returned (s3 (V 1) (V 2) (V 3)) ∧ Below w.heap.size w w' := by
  have hset := cset_map
  have l1 := h.cbl
  have hkn := h.kn
  have hnl := h.nl
  obtain ⟨c1, hc1, hv1, _, l1g, lc1⟩ := h.col 1 (by omega)
  generalize G 1 = g1 at hc1 hv1 l1g lc1
  obtain ⟨c2, hc2, hv2, _, l2g, lc2⟩ := h.col 2 (by omega)
  generalize G 2 = g2 at hc2 hv2 l2g lc2
  obtain ⟨c3, hc3, hv3, _, l3g, lc3⟩ := h.col 3 (by omega)
  generalize G 3 = g3 at hc3 hv3 l3g lc3
  clear h
  go_enter Tryz.func66, Tryz.ntmps66
  go_upto_region 1 with fail
  refine wp_region_held_drew (S := fun w' => w'.cell? ⟨w.heap.size, 0, none⟩ = some (.int .i64 (k : Int)) ∧ w'.cell? ⟨w.heap.size, 1, none⟩ = some (.pointer (some ⟨cb, 0, none⟩)) ∧ w'.cell? ⟨cb, 1, none⟩ = some (.slice (some ⟨g1, 0, none⟩) n c1) ∧ w'.cell? ⟨g1, k, none⟩ = some (.int .i64 (V 1)) ∧ w'.cell? ⟨cb, 2, none⟩ = some (.slice (some ⟨g2, 0, none⟩) n c2) ∧ w'.cell? ⟨g2, k, none⟩ = some (.int .i64 (V 2)) ∧ w'.cell? ⟨cb, 3, none⟩ = some (.slice (some ⟨g3, 0, none⟩) n c3) ∧ w'.cell? ⟨g3, k, none⟩ = some (.int .i64 (V 3))) (by kernel_rfl) ?_ (fun hHeld => ?_)
  · (try dsimp only)
    (first | (go_simp; done) | (go_keep; done))
  refine tq 0 hHeld ?_
  refine tq 1 hHeld ?_
  refine tq 2 hHeld ?_
  refine tq 3 hHeld ?_
  refine tq 4 hHeld ?_
  refine tq 5 hHeld ?_
  refine tq 6 hHeld ?_
  refine tq 7 hHeld ?_
  refine tq 8 hHeld ?_
  refine tq 9 hHeld ?_
  refine tq 10 hHeld ?_
  refine tq 11 hHeld ?_
  refine tq 12 hHeld ?_
  refine tq 13 hHeld ?_
  refine tq 14 hHeld ?_
  refine tq 15 hHeld ?_
  refine tq 16 hHeld ?_
  refine tq 17 hHeld ?_
  refine tq 18 hHeld ?_
  refine tq 19 hHeld ?_
  refine tq 20 hHeld ?_
  refine tq 21 hHeld ?_
  refine tq 22 hHeld ?_
  refine tq 23 hHeld ?_
  refine tq 24 hHeld ?_
  refine tq 25 hHeld ?_
  refine tq 26 hHeld ?_
  refine tq 27 hHeld ?_
  (refine tc 28 fun K hK => ?_; go_simp; refine tr hK (fun hHeld => ?_); clear hK K)
  refine wpAnyH_done (by kernel_rfl) ?_ _
  go_wp2_with fail
  exact bodyPost_ret (v := s3 (V 1) (V 2) (V 3)) (by simp [results, Tryz.results66, go_sem, *]) rfl ⟨rfl, bel_a⟩

set_option maxHeartbeats 4000000 in
theorem kFixed {cb n k : Nat} {V : Nat → Int} {G : Nat → Nat} {w : World} (h : HAt w cb n k V G) :
    Calls Tryz.prog 48 #[hdk cb k] w fun e w' => e = .returned (.bool (decide (V 8 = 0))) ∧ Below w.heap.size w w' := by
  have hset := cset_map
  have h' : HAt (w.alloc (.cells #[.int .i64 (k : Int), .pointer (some ⟨cb, 0, none⟩)] 80)) cb n k V G := h.below (bel_a)
  go_enter Tryz.func48, Tryz.ntmps48
  go_wp2_with (go_at_call 70; refine (kMass h').mono ?_; rintro e w1 ⟨rfl, hb1⟩; obtain ⟨hc1, hf1⟩ := bcell hb1; have hz1 := hb1.size; (try simp only [World.size_drew, World.size_alloc, World.size_setCell] at hc1 hf1 hz1); have hk1x0 := fun o => hc1 (w.heap.size) o (by omega); have hj1x0 := fun o => hf1 (w.heap.size) o (by omega); have hq1x0 : w.heap.size < w1.heap.size := (by omega); clear hc1 hf1)
  go_ret
  exact ⟨rfl, bel_a⟩

set_option maxHeartbeats 4000000 in
theorem kSleeps {cb n k : Nat} {V : Nat → Int} {G : Nat → Nat} {w : World} (h : HAt w cb n k V G) :
    Calls Tryz.prog 50 #[hdk cb k] w fun e w' => e = .returned (.bool (decide (V 11 = 8))) ∧ Below w.heap.size w w' := by
  have hset := cset_map
  have h' : HAt (w.alloc (.cells #[.int .i64 (k : Int), .pointer (some ⟨cb, 0, none⟩)] 80)) cb n k V G := h.below (bel_a)
  go_enter Tryz.func50, Tryz.ntmps50
  go_wp2_with (go_at_call 73; refine (kQuiet h').mono ?_; rintro e w1 ⟨rfl, hb1⟩; obtain ⟨hc1, hf1⟩ := bcell hb1; have hz1 := hb1.size; (try simp only [World.size_drew, World.size_alloc, World.size_setCell] at hc1 hf1 hz1); have hk1x0 := fun o => hc1 (w.heap.size) o (by omega); have hj1x0 := fun o => hf1 (w.heap.size) o (by omega); have hq1x0 : w.heap.size < w1.heap.size := (by omega); clear hc1 hf1)
  go_ret
  exact ⟨rfl, bel_a⟩
end Go.Proofs.YtlbpmmjckoaleaaGreat
namespace Go.Proofs.YtlbpmmjckoaleaaGreat
open Go.RowKit
set_option linter.unusedVariables false
theorem kfa {W w1 : World} (hb : Below W.heap.size W w1) (b : Nat) (h : b < W.heap.size := by ((try simp only [World.size_drew, World.size_alloc, World.size_setCell]); omega)) :
    (∀ o, w1.cell? ⟨b, o, none⟩ = W.cell? ⟨b, o, none⟩) ∧ (∀ o, w1.frozen? ⟨b, o, none⟩ = W.frozen? ⟨b, o, none⟩) ∧ b < w1.heap.size :=
  ⟨fun o => hb.cell (p := ⟨b, o, none⟩) h, fun o => hb.frozen (p := ⟨b, o, none⟩) h, Nat.lt_of_lt_of_le h hb.size⟩
end Go.Proofs.YtlbpmmjckoaleaaGreat
namespace Go.Proofs.YtlbpmmjckoaleaaGreat
open Go.RowKit
set_option linter.unusedVariables false
set_option linter.unusedSimpArgs false
def restB (V : Nat → Int) : Bool := decide ((V 8 = 0 → V 11 = 0) ∧ ((V 8 ≠ 0 ∧ V 11 ≠ 8) ∨ (V 6 = 0 ∧ V 7 = 0)))
def bodyB (V : Nat → Int) : Bool := (decide (0 ≤ V 0 ∧ V 0 ≤ 999999999) && (shB (V 1) (V 2) (V 3) && (inB 2560000 (V 4) (V 5) && (inB 20000000 (V 6) (V 7) && (decide (0 ≤ V 8 ∧ V 8 ≤ 1000) && (decide (0 ≤ V 9 ∧ V 9 ≤ 256) && (decide (0 ≤ V 10 ∧ V 10 ≤ 256) && (decide (0 ≤ V 11 ∧ V 11 ≤ 8) && restB V))))))))
theorem upTo_q (n l : Int) (b : Bool) (w : World) (e : decide (0 ≤ n ∧ n ≤ l) = b) :
    Calls Tryz.prog 64 #[.int .i64 n, .int .i64 l] w fun e w' => e = .returned (.bool b) ∧ Below w.heap.size w w' := by
  subst e; exact (upTo_any n l w).mono fun e w' ⟨a, b⟩ => ⟨a, b ▸ Below.refl _ _⟩
theorem shapeOk_q (k wd h : Int) (b : Bool) (w : World) (e : shB k wd h = b) :
    Calls Tryz.prog 65 #[s3 k wd h] w fun e w' => e = .returned (.bool b) ∧ Below w.heap.size w w' := by
  subst e; exact shapeOk_any k wd h w
theorem within2_q (x y l : Int) (b : Bool) (w : World) (h0 : 0 ≤ l) (h1 : l ≤ 4000000000) (e : inB l x y = b) :
    Calls Tryz.prog 68 #[vv x y, .int .i64 l] w fun e w' => e = .returned (.bool b) ∧ Below w.heap.size w w' := by
  subst e; exact within2_any x y l w h0 h1

theorem run_eq_way (n d : Nat) (hn : n = d + 1) (a b x y : Int) (w : World) : (Op.equalIn (n + 1) 110 (vv a b) (vv x y)).run Tryz.prog w = .ok (a == x && b == y) w := by
  have hu : Tryz.prog.underlying 110 = some (.array 2 82) := by kernel_rfl
  have hi : Tryz.prog.underlying 82 = some (.int .i64) := by kernel_rfl
  have hz : ∀ w, (sizeOf 82).run Tryz.prog w = .ok 1 w := fun w => by kernel_rfl
  have p0 : ∀ (a b : Int) w, (part 82 #[.int .i64 a, .int .i64 b] (0 * 1)).run Tryz.prog w = .ok (.int .i64 a) w := fun a b w => by kernel_rfl
  have p1 : ∀ (a b : Int) w, (part 82 #[.int .i64 a, .int .i64 b] (1 * 1)).run Tryz.prog w = .ok (.int .i64 b) w := fun a b w => by kernel_rfl
  simp only [Op.equalIn, Sem.run_bind, run_underlying hu, Result.andThen_ok, hz]
  subst hn
  have h0 : ∀ w, (Op.equalIn (d + 1) 82 (.int .i64 a) (.int .i64 x)).run Tryz.prog w = .ok (a == x) w := fun w => run_equalIn_int w d 82 .i64 .i64 a x hi
  have h1 : ∀ w, (Op.equalIn (d + 1) 82 (.int .i64 b) (.int .i64 y)).run Tryz.prog w = .ok (b == y) w := fun w => run_equalIn_int w d 82 .i64 .i64 b y hi
  simp only [Std.Legacy.Range.forIn_eq_forIn_range', Std.Legacy.Range.size, List.range', List.forIn_cons, List.forIn_nil, Sem.run_bind, p0, h0, Result.andThen_ok, Sem.run_ite, Sem.run_pure]
  cases hx : (a == x) <;> cases hy : (b == y) <;> simp [Sem.run_bind, p1, h0, h1, Sem.run_ite, hx, hy]
theorem eq_way0 (a b x y : Int) (w : World) : (Op.equalIn 10000 110 (.agg #[.int .i64 a, .int .i64 b]) (.agg #[.int .i64 x, .int .i64 y])).run Tryz.prog w = .ok (a == x && b == y) w := run_eq_way 9999 9998 rfl a b x y w


set_option maxRecDepth 20000 in
set_option maxHeartbeats 4000000 in
theorem kRestOk {cb n k : Nat} {V : Nat → Int} {G : Nat → Nat} {w : World} (h : HAt w cb n k V G) (b : Bool) (eb : restB V = b) :
    Calls Tryz.prog 74 #[hdk cb k] w fun e w' => e = .returned (.bool b) ∧ Below w.heap.size w w' := by
  have hset := cset_map
  have heq := eq_way0
  subst eb
  unfold restB
  by_cases f8 : V 8 = 0 <;> by_cases f11 : V 11 = 0 <;> by_cases f88 : V 11 = 8 <;> by_cases f6 : V 6 = 0 <;> by_cases f7 : V 7 = 0
  all_goals (try (exfalso; omega))
  all_goals
    go_enter Tryz.func74, Tryz.ntmps74
    go_wp2_with (first
        | (go_at_call 48; refine (kFixed (HAt.below h (bel_a))).mono ?_; rintro e w1 ⟨rfl, hb1⟩; obtain ⟨hc1, hf1⟩ := bcell hb1; have hz1 := hb1.size; (try simp only [World.size_drew, World.size_alloc, World.size_setCell] at hc1 hf1 hz1); have hk1x0 := fun o => hc1 (w.heap.size) o (by omega); have hj1x0 := fun o => hf1 (w.heap.size) o (by omega); have hq1x0 : w.heap.size < w1.heap.size := (by omega); clear hc1 hf1)
        | (go_at_call 73; refine (kQuiet (HAt.below h (bel_a))).mono ?_; rintro e w2 ⟨rfl, hb2⟩; obtain ⟨hc2, hf2⟩ := bcell hb2; have hz2 := hb2.size; (try simp only [World.size_drew, World.size_alloc, World.size_setCell] at hc2 hf2 hz2); have hk2x0 := fun o => hc2 (w.heap.size) o (by omega); have hj2x0 := fun o => hf2 (w.heap.size) o (by omega); have hq2x0 : w.heap.size < w2.heap.size := (by omega); clear hc2 hf2)
        | (go_at_call 50; refine (kSleeps (HAt.below h (bel_a))).mono ?_; rintro e w3 ⟨rfl, hb3⟩; obtain ⟨hc3, hf3⟩ := bcell hb3; have hz3 := hb3.size; (try simp only [World.size_drew, World.size_alloc, World.size_setCell] at hc3 hf3 hz3); have hk3x0 := fun o => hc3 (w.heap.size) o (by omega); have hj3x0 := fun o => hf3 (w.heap.size) o (by omega); have hq3x0 : w.heap.size < w3.heap.size := (by omega); clear hc3 hf3)
        | (go_at_call 69; refine (kDrive (HAt.below h (bel_a))).mono ?_; rintro e w4 ⟨rfl, hb4⟩; obtain ⟨hc4, hf4⟩ := bcell hb4; have hz4 := hb4.size; (try simp only [World.size_drew, World.size_alloc, World.size_setCell] at hc4 hf4 hz4); have hk4x0 := fun o => hc4 (w.heap.size) o (by omega); have hj4x0 := fun o => hf4 (w.heap.size) o (by omega); have hq4x0 : w.heap.size < w4.heap.size := (by omega); clear hc4 hf4))
    all_goals
      go_ret
      exact ⟨ret_bool (by simp [*]), bel_a⟩
end Go.Proofs.YtlbpmmjckoaleaaGreat
namespace Go.Proofs.YtlbpmmjckoaleaaGreat
open Go.RowKit
set_option linter.unusedVariables false
set_option linter.unusedSimpArgs false

set_option maxHeartbeats 8000000 in
theorem kOk_0 {cb n k : Nat} {V : Nat → Int} {G : Nat → Nat} {w : World} (h : HAt w cb n k V G) (k0 : decide (0 ≤ V 0 ∧ V 0 ≤ 999999999) = false) :
    Calls Tryz.prog 43 #[hdk cb k] w fun e w' => e = .returned (.bool false) ∧ Below w.heap.size w w' := by
  have hset := cset_map
  have l1 := h.cbl
  have hkn := h.kn
  have hnl := h.nl
  obtain ⟨c0, hc0, hv0, _, l0g, lc0⟩ := h.col 0 (by omega)
  generalize hG0 : G 0 = g0 at hc0 hv0 l0g lc0
  clear hG0
  go_enter Tryz.func43, Tryz.ntmps43
  go_upto_region 1 with fail
  refine wp_region_held_drew (S := fun w' => w'.cell? ⟨w.heap.size, 0, none⟩ = some (.int .i64 (k : Int)) ∧ w'.cell? ⟨w.heap.size, 1, none⟩ = some (.pointer (some ⟨cb, 0, none⟩)) ∧ w'.cell? ⟨cb, 0, none⟩ = some (.slice (some ⟨g0, 0, none⟩) n c0) ∧ w'.cell? ⟨g0, k, none⟩ = some (.int .i64 (V 0))) (by kernel_rfl) ?_ (fun hHeld => ?_)
  · (try dsimp only)
    (first | (go_simp; done) | (go_keep; done))
  refine tq 0 hHeld ?_
  refine tq 1 hHeld ?_
  refine tq 2 hHeld ?_
  refine tq 3 hHeld ?_
  refine tq 4 hHeld ?_
  refine tq 5 hHeld ?_
  refine tq 6 hHeld ?_
  refine tq 7 hHeld ?_
  refine tq 8 hHeld ?_
  (refine tc 9 fun K hK => ?_; go_simp; (go_at_call 64; refine (upTo_q _ _ _ _ (by with_reducible assumption)).mono ?_; rintro e w1 ⟨rfl, hb1⟩; obtain ⟨hc1, hf1⟩ := bcell hb1; have hz1 := hb1.size; (try simp only [World.size_drew, World.size_alloc, World.size_setCell] at hc1 hf1 hz1); obtain ⟨hk1x0, hj1x0, hq1x0⟩ := kfa hb1 (w.heap.size); obtain ⟨hk1x1, hj1x1, hq1x1⟩ := kfa hb1 (cb); obtain ⟨hk1x2, hj1x2, hq1x2⟩ := kfa hb1 (g0); clear hc1 hf1); (try go_wp2_with fail); refine tr hK (fun hHeld => ?_); clear hK K)
  refine tq 10 hHeld ?_
  refine tn 11 hHeld ?_
  refine tn 12 hHeld ?_
  refine tn 13 hHeld ?_
  refine tq 14 hHeld ?_
  refine tq 15 hHeld ?_
  refine tn 16 hHeld ?_
  refine tn 17 hHeld ?_
  refine tn 18 hHeld ?_
  refine tq 19 hHeld ?_
  refine tq 20 hHeld ?_
  refine tn 21 hHeld ?_
  refine tn 22 hHeld ?_
  refine tn 23 hHeld ?_
  refine tq 24 hHeld ?_
  refine tq 25 hHeld ?_
  refine tn 26 hHeld ?_
  refine tn 27 hHeld ?_
  refine tn 28 hHeld ?_
  refine tq 29 hHeld ?_
  refine tq 30 hHeld ?_
  refine tn 31 hHeld ?_
  refine tn 32 hHeld ?_
  refine tn 33 hHeld ?_
  refine tq 34 hHeld ?_
  refine tq 35 hHeld ?_
  refine tn 36 hHeld ?_
  refine tn 37 hHeld ?_
  refine tn 38 hHeld ?_
  refine tq 39 hHeld ?_
  refine tq 40 hHeld ?_
  refine tn 41 hHeld ?_
  refine tn 42 hHeld ?_
  refine tn 43 hHeld ?_
  refine tq 44 hHeld ?_
  refine tq 45 hHeld ?_
  refine tn 46 hHeld ?_
  refine tn 47 hHeld ?_
  refine tq 48 hHeld ?_
  refine tq 49 hHeld ?_
  refine wpAnyH_done (by kernel_rfl) ?_ _
  go_wp2_with fail
  go_ret
  exact ⟨rfl, bel_a⟩

set_option maxHeartbeats 8000000 in
theorem kOk_1 {cb n k : Nat} {V : Nat → Int} {G : Nat → Nat} {w : World} (h : HAt w cb n k V G) (k0 : decide (0 ≤ V 0 ∧ V 0 ≤ 999999999) = true) (k1 : shB (V 1) (V 2) (V 3) = false) :
    Calls Tryz.prog 43 #[hdk cb k] w fun e w' => e = .returned (.bool false) ∧ Below w.heap.size w w' := by
  have hset := cset_map
  have l1 := h.cbl
  have hkn := h.kn
  have hnl := h.nl
  obtain ⟨c0, hc0, hv0, _, l0g, lc0⟩ := h.col 0 (by omega)
  generalize hG0 : G 0 = g0 at hc0 hv0 l0g lc0
  clear hG0
  go_enter Tryz.func43, Tryz.ntmps43
  go_upto_region 1 with fail
  refine wp_region_held_drew (S := fun w' => w'.cell? ⟨w.heap.size, 0, none⟩ = some (.int .i64 (k : Int)) ∧ w'.cell? ⟨w.heap.size, 1, none⟩ = some (.pointer (some ⟨cb, 0, none⟩)) ∧ w'.cell? ⟨cb, 0, none⟩ = some (.slice (some ⟨g0, 0, none⟩) n c0) ∧ w'.cell? ⟨g0, k, none⟩ = some (.int .i64 (V 0))) (by kernel_rfl) ?_ (fun hHeld => ?_)
  · (try dsimp only)
    (first | (go_simp; done) | (go_keep; done))
  refine tq 0 hHeld ?_
  refine tq 1 hHeld ?_
  refine tq 2 hHeld ?_
  refine tq 3 hHeld ?_
  refine tq 4 hHeld ?_
  refine tq 5 hHeld ?_
  refine tq 6 hHeld ?_
  refine tq 7 hHeld ?_
  refine tq 8 hHeld ?_
  (refine tc 9 fun K hK => ?_; go_simp; (go_at_call 64; refine (upTo_q _ _ _ _ (by with_reducible assumption)).mono ?_; rintro e w1 ⟨rfl, hb1⟩; obtain ⟨hc1, hf1⟩ := bcell hb1; have hz1 := hb1.size; (try simp only [World.size_drew, World.size_alloc, World.size_setCell] at hc1 hf1 hz1); obtain ⟨hk1x0, hj1x0, hq1x0⟩ := kfa hb1 (w.heap.size); obtain ⟨hk1x1, hj1x1, hq1x1⟩ := kfa hb1 (cb); obtain ⟨hk1x2, hj1x2, hq1x2⟩ := kfa hb1 (g0); clear hc1 hf1); (try go_wp2_with fail); refine tr hK (fun hHeld => ?_); clear hK K)
  refine tq 10 hHeld ?_
  refine tq 11 hHeld ?_
  (refine tc 12 fun K hK => ?_; go_simp; (go_at_call 66; refine (kShape (HAt.below h (bel_a))).mono ?_; rintro e w2 ⟨rfl, hb2⟩; obtain ⟨hc2, hf2⟩ := bcell hb2; have hz2 := hb2.size; (try simp only [World.size_drew, World.size_alloc, World.size_setCell] at hc2 hf2 hz2); obtain ⟨hk2x0, hj2x0, hq2x0⟩ := kfa hb2 (w.heap.size); obtain ⟨hk2x1, hj2x1, hq2x1⟩ := kfa hb2 (cb); obtain ⟨hk2x2, hj2x2, hq2x2⟩ := kfa hb2 (g0); clear hc2 hf2); (try go_wp2_with fail); refine tr hK (fun hHeld => ?_); clear hK K)
  (refine tc 13 fun K hK => ?_; go_simp; (go_at_call 65; refine (shapeOk_q _ _ _ _ _ (by with_reducible assumption)).mono ?_; rintro e w3 ⟨rfl, hb3⟩; obtain ⟨hc3, hf3⟩ := bcell hb3; have hz3 := hb3.size; (try simp only [World.size_drew, World.size_alloc, World.size_setCell] at hc3 hf3 hz3); obtain ⟨hk3x0, hj3x0, hq3x0⟩ := kfa hb3 (w.heap.size); obtain ⟨hk3x1, hj3x1, hq3x1⟩ := kfa hb3 (cb); obtain ⟨hk3x2, hj3x2, hq3x2⟩ := kfa hb3 (g0); clear hc3 hf3); (try go_wp2_with fail); refine tr hK (fun hHeld => ?_); clear hK K)
  refine tq 14 hHeld ?_
  refine tq 15 hHeld ?_
  refine tn 16 hHeld ?_
  refine tn 17 hHeld ?_
  refine tn 18 hHeld ?_
  refine tq 19 hHeld ?_
  refine tq 20 hHeld ?_
  refine tn 21 hHeld ?_
  refine tn 22 hHeld ?_
  refine tn 23 hHeld ?_
  refine tq 24 hHeld ?_
  refine tq 25 hHeld ?_
  refine tn 26 hHeld ?_
  refine tn 27 hHeld ?_
  refine tn 28 hHeld ?_
  refine tq 29 hHeld ?_
  refine tq 30 hHeld ?_
  refine tn 31 hHeld ?_
  refine tn 32 hHeld ?_
  refine tn 33 hHeld ?_
  refine tq 34 hHeld ?_
  refine tq 35 hHeld ?_
  refine tn 36 hHeld ?_
  refine tn 37 hHeld ?_
  refine tn 38 hHeld ?_
  refine tq 39 hHeld ?_
  refine tq 40 hHeld ?_
  refine tn 41 hHeld ?_
  refine tn 42 hHeld ?_
  refine tn 43 hHeld ?_
  refine tq 44 hHeld ?_
  refine tq 45 hHeld ?_
  refine tn 46 hHeld ?_
  refine tn 47 hHeld ?_
  refine tq 48 hHeld ?_
  refine tq 49 hHeld ?_
  refine wpAnyH_done (by kernel_rfl) ?_ _
  go_wp2_with fail
  go_ret
  exact ⟨rfl, bel_a⟩

set_option maxHeartbeats 8000000 in
theorem kOk_2 {cb n k : Nat} {V : Nat → Int} {G : Nat → Nat} {w : World} (h : HAt w cb n k V G) (k0 : decide (0 ≤ V 0 ∧ V 0 ≤ 999999999) = true) (k1 : shB (V 1) (V 2) (V 3) = true) (k2 : inB 2560000 (V 4) (V 5) = false) :
    Calls Tryz.prog 43 #[hdk cb k] w fun e w' => e = .returned (.bool false) ∧ Below w.heap.size w w' := by
  have hset := cset_map
  have l1 := h.cbl
  have hkn := h.kn
  have hnl := h.nl
  obtain ⟨c0, hc0, hv0, _, l0g, lc0⟩ := h.col 0 (by omega)
  generalize hG0 : G 0 = g0 at hc0 hv0 l0g lc0
  clear hG0
  go_enter Tryz.func43, Tryz.ntmps43
  go_upto_region 1 with fail
  refine wp_region_held_drew (S := fun w' => w'.cell? ⟨w.heap.size, 0, none⟩ = some (.int .i64 (k : Int)) ∧ w'.cell? ⟨w.heap.size, 1, none⟩ = some (.pointer (some ⟨cb, 0, none⟩)) ∧ w'.cell? ⟨cb, 0, none⟩ = some (.slice (some ⟨g0, 0, none⟩) n c0) ∧ w'.cell? ⟨g0, k, none⟩ = some (.int .i64 (V 0))) (by kernel_rfl) ?_ (fun hHeld => ?_)
  · (try dsimp only)
    (first | (go_simp; done) | (go_keep; done))
  refine tq 0 hHeld ?_
  refine tq 1 hHeld ?_
  refine tq 2 hHeld ?_
  refine tq 3 hHeld ?_
  refine tq 4 hHeld ?_
  refine tq 5 hHeld ?_
  refine tq 6 hHeld ?_
  refine tq 7 hHeld ?_
  refine tq 8 hHeld ?_
  (refine tc 9 fun K hK => ?_; go_simp; (go_at_call 64; refine (upTo_q _ _ _ _ (by with_reducible assumption)).mono ?_; rintro e w1 ⟨rfl, hb1⟩; obtain ⟨hc1, hf1⟩ := bcell hb1; have hz1 := hb1.size; (try simp only [World.size_drew, World.size_alloc, World.size_setCell] at hc1 hf1 hz1); obtain ⟨hk1x0, hj1x0, hq1x0⟩ := kfa hb1 (w.heap.size); obtain ⟨hk1x1, hj1x1, hq1x1⟩ := kfa hb1 (cb); obtain ⟨hk1x2, hj1x2, hq1x2⟩ := kfa hb1 (g0); clear hc1 hf1); (try go_wp2_with fail); refine tr hK (fun hHeld => ?_); clear hK K)
  refine tq 10 hHeld ?_
  refine tq 11 hHeld ?_
  (refine tc 12 fun K hK => ?_; go_simp; (go_at_call 66; refine (kShape (HAt.below h (bel_a))).mono ?_; rintro e w2 ⟨rfl, hb2⟩; obtain ⟨hc2, hf2⟩ := bcell hb2; have hz2 := hb2.size; (try simp only [World.size_drew, World.size_alloc, World.size_setCell] at hc2 hf2 hz2); obtain ⟨hk2x0, hj2x0, hq2x0⟩ := kfa hb2 (w.heap.size); obtain ⟨hk2x1, hj2x1, hq2x1⟩ := kfa hb2 (cb); obtain ⟨hk2x2, hj2x2, hq2x2⟩ := kfa hb2 (g0); clear hc2 hf2); (try go_wp2_with fail); refine tr hK (fun hHeld => ?_); clear hK K)
  (refine tc 13 fun K hK => ?_; go_simp; (go_at_call 65; refine (shapeOk_q _ _ _ _ _ (by with_reducible assumption)).mono ?_; rintro e w3 ⟨rfl, hb3⟩; obtain ⟨hc3, hf3⟩ := bcell hb3; have hz3 := hb3.size; (try simp only [World.size_drew, World.size_alloc, World.size_setCell] at hc3 hf3 hz3); obtain ⟨hk3x0, hj3x0, hq3x0⟩ := kfa hb3 (w.heap.size); obtain ⟨hk3x1, hj3x1, hq3x1⟩ := kfa hb3 (cb); obtain ⟨hk3x2, hj3x2, hq3x2⟩ := kfa hb3 (g0); clear hc3 hf3); (try go_wp2_with fail); refine tr hK (fun hHeld => ?_); clear hK K)
  refine tq 14 hHeld ?_
  refine tq 15 hHeld ?_
  refine tq 16 hHeld ?_
  (refine tc 17 fun K hK => ?_; go_simp; (go_at_call 67; refine (kAt (HAt.below h (bel_a))).mono ?_; rintro e w4 ⟨rfl, hb4⟩; obtain ⟨hc4, hf4⟩ := bcell hb4; have hz4 := hb4.size; (try simp only [World.size_drew, World.size_alloc, World.size_setCell] at hc4 hf4 hz4); obtain ⟨hk4x0, hj4x0, hq4x0⟩ := kfa hb4 (w.heap.size); obtain ⟨hk4x1, hj4x1, hq4x1⟩ := kfa hb4 (cb); obtain ⟨hk4x2, hj4x2, hq4x2⟩ := kfa hb4 (g0); clear hc4 hf4); (try go_wp2_with fail); refine tr hK (fun hHeld => ?_); clear hK K)
  (refine tc 18 fun K hK => ?_; go_simp; (go_at_call 68; refine (within2_q _ _ _ _ _ (by omega) (by omega) (by with_reducible assumption)).mono ?_; rintro e w5 ⟨rfl, hb5⟩; obtain ⟨hc5, hf5⟩ := bcell hb5; have hz5 := hb5.size; (try simp only [World.size_drew, World.size_alloc, World.size_setCell] at hc5 hf5 hz5); obtain ⟨hk5x0, hj5x0, hq5x0⟩ := kfa hb5 (w.heap.size); obtain ⟨hk5x1, hj5x1, hq5x1⟩ := kfa hb5 (cb); obtain ⟨hk5x2, hj5x2, hq5x2⟩ := kfa hb5 (g0); clear hc5 hf5); (try go_wp2_with fail); refine tr hK (fun hHeld => ?_); clear hK K)
  refine tq 19 hHeld ?_
  refine tq 20 hHeld ?_
  refine tn 21 hHeld ?_
  refine tn 22 hHeld ?_
  refine tn 23 hHeld ?_
  refine tq 24 hHeld ?_
  refine tq 25 hHeld ?_
  refine tn 26 hHeld ?_
  refine tn 27 hHeld ?_
  refine tn 28 hHeld ?_
  refine tq 29 hHeld ?_
  refine tq 30 hHeld ?_
  refine tn 31 hHeld ?_
  refine tn 32 hHeld ?_
  refine tn 33 hHeld ?_
  refine tq 34 hHeld ?_
  refine tq 35 hHeld ?_
  refine tn 36 hHeld ?_
  refine tn 37 hHeld ?_
  refine tn 38 hHeld ?_
  refine tq 39 hHeld ?_
  refine tq 40 hHeld ?_
  refine tn 41 hHeld ?_
  refine tn 42 hHeld ?_
  refine tn 43 hHeld ?_
  refine tq 44 hHeld ?_
  refine tq 45 hHeld ?_
  refine tn 46 hHeld ?_
  refine tn 47 hHeld ?_
  refine tq 48 hHeld ?_
  refine tq 49 hHeld ?_
  refine wpAnyH_done (by kernel_rfl) ?_ _
  go_wp2_with fail
  go_ret
  exact ⟨rfl, bel_a⟩

set_option maxHeartbeats 8000000 in
theorem kOk_3 {cb n k : Nat} {V : Nat → Int} {G : Nat → Nat} {w : World} (h : HAt w cb n k V G) (k0 : decide (0 ≤ V 0 ∧ V 0 ≤ 999999999) = true) (k1 : shB (V 1) (V 2) (V 3) = true) (k2 : inB 2560000 (V 4) (V 5) = true) (k3 : inB 20000000 (V 6) (V 7) = false) :
    Calls Tryz.prog 43 #[hdk cb k] w fun e w' => e = .returned (.bool false) ∧ Below w.heap.size w w' := by
  have hset := cset_map
  have l1 := h.cbl
  have hkn := h.kn
  have hnl := h.nl
  obtain ⟨c0, hc0, hv0, _, l0g, lc0⟩ := h.col 0 (by omega)
  generalize hG0 : G 0 = g0 at hc0 hv0 l0g lc0
  clear hG0
  go_enter Tryz.func43, Tryz.ntmps43
  go_upto_region 1 with fail
  refine wp_region_held_drew (S := fun w' => w'.cell? ⟨w.heap.size, 0, none⟩ = some (.int .i64 (k : Int)) ∧ w'.cell? ⟨w.heap.size, 1, none⟩ = some (.pointer (some ⟨cb, 0, none⟩)) ∧ w'.cell? ⟨cb, 0, none⟩ = some (.slice (some ⟨g0, 0, none⟩) n c0) ∧ w'.cell? ⟨g0, k, none⟩ = some (.int .i64 (V 0))) (by kernel_rfl) ?_ (fun hHeld => ?_)
  · (try dsimp only)
    (first | (go_simp; done) | (go_keep; done))
  refine tq 0 hHeld ?_
  refine tq 1 hHeld ?_
  refine tq 2 hHeld ?_
  refine tq 3 hHeld ?_
  refine tq 4 hHeld ?_
  refine tq 5 hHeld ?_
  refine tq 6 hHeld ?_
  refine tq 7 hHeld ?_
  refine tq 8 hHeld ?_
  (refine tc 9 fun K hK => ?_; go_simp; (go_at_call 64; refine (upTo_q _ _ _ _ (by with_reducible assumption)).mono ?_; rintro e w1 ⟨rfl, hb1⟩; obtain ⟨hc1, hf1⟩ := bcell hb1; have hz1 := hb1.size; (try simp only [World.size_drew, World.size_alloc, World.size_setCell] at hc1 hf1 hz1); obtain ⟨hk1x0, hj1x0, hq1x0⟩ := kfa hb1 (w.heap.size); obtain ⟨hk1x1, hj1x1, hq1x1⟩ := kfa hb1 (cb); obtain ⟨hk1x2, hj1x2, hq1x2⟩ := kfa hb1 (g0); clear hc1 hf1); (try go_wp2_with fail); refine tr hK (fun hHeld => ?_); clear hK K)
  refine tq 10 hHeld ?_
  refine tq 11 hHeld ?_
  (refine tc 12 fun K hK => ?_; go_simp; (go_at_call 66; refine (kShape (HAt.below h (bel_a))).mono ?_; rintro e w2 ⟨rfl, hb2⟩; obtain ⟨hc2, hf2⟩ := bcell hb2; have hz2 := hb2.size; (try simp only [World.size_drew, World.size_alloc, World.size_setCell] at hc2 hf2 hz2); obtain ⟨hk2x0, hj2x0, hq2x0⟩ := kfa hb2 (w.heap.size); obtain ⟨hk2x1, hj2x1, hq2x1⟩ := kfa hb2 (cb); obtain ⟨hk2x2, hj2x2, hq2x2⟩ := kfa hb2 (g0); clear hc2 hf2); (try go_wp2_with fail); refine tr hK (fun hHeld => ?_); clear hK K)
  (refine tc 13 fun K hK => ?_; go_simp; (go_at_call 65; refine (shapeOk_q _ _ _ _ _ (by with_reducible assumption)).mono ?_; rintro e w3 ⟨rfl, hb3⟩; obtain ⟨hc3, hf3⟩ := bcell hb3; have hz3 := hb3.size; (try simp only [World.size_drew, World.size_alloc, World.size_setCell] at hc3 hf3 hz3); obtain ⟨hk3x0, hj3x0, hq3x0⟩ := kfa hb3 (w.heap.size); obtain ⟨hk3x1, hj3x1, hq3x1⟩ := kfa hb3 (cb); obtain ⟨hk3x2, hj3x2, hq3x2⟩ := kfa hb3 (g0); clear hc3 hf3); (try go_wp2_with fail); refine tr hK (fun hHeld => ?_); clear hK K)
  refine tq 14 hHeld ?_
  refine tq 15 hHeld ?_
  refine tq 16 hHeld ?_
  (refine tc 17 fun K hK => ?_; go_simp; (go_at_call 67; refine (kAt (HAt.below h (bel_a))).mono ?_; rintro e w4 ⟨rfl, hb4⟩; obtain ⟨hc4, hf4⟩ := bcell hb4; have hz4 := hb4.size; (try simp only [World.size_drew, World.size_alloc, World.size_setCell] at hc4 hf4 hz4); obtain ⟨hk4x0, hj4x0, hq4x0⟩ := kfa hb4 (w.heap.size); obtain ⟨hk4x1, hj4x1, hq4x1⟩ := kfa hb4 (cb); obtain ⟨hk4x2, hj4x2, hq4x2⟩ := kfa hb4 (g0); clear hc4 hf4); (try go_wp2_with fail); refine tr hK (fun hHeld => ?_); clear hK K)
  (refine tc 18 fun K hK => ?_; go_simp; (go_at_call 68; refine (within2_q _ _ _ _ _ (by omega) (by omega) (by with_reducible assumption)).mono ?_; rintro e w5 ⟨rfl, hb5⟩; obtain ⟨hc5, hf5⟩ := bcell hb5; have hz5 := hb5.size; (try simp only [World.size_drew, World.size_alloc, World.size_setCell] at hc5 hf5 hz5); obtain ⟨hk5x0, hj5x0, hq5x0⟩ := kfa hb5 (w.heap.size); obtain ⟨hk5x1, hj5x1, hq5x1⟩ := kfa hb5 (cb); obtain ⟨hk5x2, hj5x2, hq5x2⟩ := kfa hb5 (g0); clear hc5 hf5); (try go_wp2_with fail); refine tr hK (fun hHeld => ?_); clear hK K)
  refine tq 19 hHeld ?_
  refine tq 20 hHeld ?_
  refine tq 21 hHeld ?_
  (refine tc 22 fun K hK => ?_; go_simp; (go_at_call 69; refine (kDrive (HAt.below h (bel_a))).mono ?_; rintro e w6 ⟨rfl, hb6⟩; obtain ⟨hc6, hf6⟩ := bcell hb6; have hz6 := hb6.size; (try simp only [World.size_drew, World.size_alloc, World.size_setCell] at hc6 hf6 hz6); obtain ⟨hk6x0, hj6x0, hq6x0⟩ := kfa hb6 (w.heap.size); obtain ⟨hk6x1, hj6x1, hq6x1⟩ := kfa hb6 (cb); obtain ⟨hk6x2, hj6x2, hq6x2⟩ := kfa hb6 (g0); clear hc6 hf6); (try go_wp2_with fail); refine tr hK (fun hHeld => ?_); clear hK K)
  (refine tc 23 fun K hK => ?_; go_simp; (go_at_call 68; refine (within2_q _ _ _ _ _ (by omega) (by omega) (by with_reducible assumption)).mono ?_; rintro e w7 ⟨rfl, hb7⟩; obtain ⟨hc7, hf7⟩ := bcell hb7; have hz7 := hb7.size; (try simp only [World.size_drew, World.size_alloc, World.size_setCell] at hc7 hf7 hz7); obtain ⟨hk7x0, hj7x0, hq7x0⟩ := kfa hb7 (w.heap.size); obtain ⟨hk7x1, hj7x1, hq7x1⟩ := kfa hb7 (cb); obtain ⟨hk7x2, hj7x2, hq7x2⟩ := kfa hb7 (g0); clear hc7 hf7); (try go_wp2_with fail); refine tr hK (fun hHeld => ?_); clear hK K)
  refine tq 24 hHeld ?_
  refine tq 25 hHeld ?_
  refine tn 26 hHeld ?_
  refine tn 27 hHeld ?_
  refine tn 28 hHeld ?_
  refine tq 29 hHeld ?_
  refine tq 30 hHeld ?_
  refine tn 31 hHeld ?_
  refine tn 32 hHeld ?_
  refine tn 33 hHeld ?_
  refine tq 34 hHeld ?_
  refine tq 35 hHeld ?_
  refine tn 36 hHeld ?_
  refine tn 37 hHeld ?_
  refine tn 38 hHeld ?_
  refine tq 39 hHeld ?_
  refine tq 40 hHeld ?_
  refine tn 41 hHeld ?_
  refine tn 42 hHeld ?_
  refine tn 43 hHeld ?_
  refine tq 44 hHeld ?_
  refine tq 45 hHeld ?_
  refine tn 46 hHeld ?_
  refine tn 47 hHeld ?_
  refine tq 48 hHeld ?_
  refine tq 49 hHeld ?_
  refine wpAnyH_done (by kernel_rfl) ?_ _
  go_wp2_with fail
  go_ret
  exact ⟨rfl, bel_a⟩

set_option maxHeartbeats 8000000 in
theorem kOk_4 {cb n k : Nat} {V : Nat → Int} {G : Nat → Nat} {w : World} (h : HAt w cb n k V G) (k0 : decide (0 ≤ V 0 ∧ V 0 ≤ 999999999) = true) (k1 : shB (V 1) (V 2) (V 3) = true) (k2 : inB 2560000 (V 4) (V 5) = true) (k3 : inB 20000000 (V 6) (V 7) = true) (k4 : decide (0 ≤ V 8 ∧ V 8 ≤ 1000) = false) :
    Calls Tryz.prog 43 #[hdk cb k] w fun e w' => e = .returned (.bool false) ∧ Below w.heap.size w w' := by
  have hset := cset_map
  have l1 := h.cbl
  have hkn := h.kn
  have hnl := h.nl
  obtain ⟨c0, hc0, hv0, _, l0g, lc0⟩ := h.col 0 (by omega)
  generalize hG0 : G 0 = g0 at hc0 hv0 l0g lc0
  clear hG0
  go_enter Tryz.func43, Tryz.ntmps43
  go_upto_region 1 with fail
  refine wp_region_held_drew (S := fun w' => w'.cell? ⟨w.heap.size, 0, none⟩ = some (.int .i64 (k : Int)) ∧ w'.cell? ⟨w.heap.size, 1, none⟩ = some (.pointer (some ⟨cb, 0, none⟩)) ∧ w'.cell? ⟨cb, 0, none⟩ = some (.slice (some ⟨g0, 0, none⟩) n c0) ∧ w'.cell? ⟨g0, k, none⟩ = some (.int .i64 (V 0))) (by kernel_rfl) ?_ (fun hHeld => ?_)
  · (try dsimp only)
    (first | (go_simp; done) | (go_keep; done))
  refine tq 0 hHeld ?_
  refine tq 1 hHeld ?_
  refine tq 2 hHeld ?_
  refine tq 3 hHeld ?_
  refine tq 4 hHeld ?_
  refine tq 5 hHeld ?_
  refine tq 6 hHeld ?_
  refine tq 7 hHeld ?_
  refine tq 8 hHeld ?_
  (refine tc 9 fun K hK => ?_; go_simp; (go_at_call 64; refine (upTo_q _ _ _ _ (by with_reducible assumption)).mono ?_; rintro e w1 ⟨rfl, hb1⟩; obtain ⟨hc1, hf1⟩ := bcell hb1; have hz1 := hb1.size; (try simp only [World.size_drew, World.size_alloc, World.size_setCell] at hc1 hf1 hz1); obtain ⟨hk1x0, hj1x0, hq1x0⟩ := kfa hb1 (w.heap.size); obtain ⟨hk1x1, hj1x1, hq1x1⟩ := kfa hb1 (cb); obtain ⟨hk1x2, hj1x2, hq1x2⟩ := kfa hb1 (g0); clear hc1 hf1); (try go_wp2_with fail); refine tr hK (fun hHeld => ?_); clear hK K)
  refine tq 10 hHeld ?_
  refine tq 11 hHeld ?_
  (refine tc 12 fun K hK => ?_; go_simp; (go_at_call 66; refine (kShape (HAt.below h (bel_a))).mono ?_; rintro e w2 ⟨rfl, hb2⟩; obtain ⟨hc2, hf2⟩ := bcell hb2; have hz2 := hb2.size; (try simp only [World.size_drew, World.size_alloc, World.size_setCell] at hc2 hf2 hz2); obtain ⟨hk2x0, hj2x0, hq2x0⟩ := kfa hb2 (w.heap.size); obtain ⟨hk2x1, hj2x1, hq2x1⟩ := kfa hb2 (cb); obtain ⟨hk2x2, hj2x2, hq2x2⟩ := kfa hb2 (g0); clear hc2 hf2); (try go_wp2_with fail); refine tr hK (fun hHeld => ?_); clear hK K)
  (refine tc 13 fun K hK => ?_; go_simp; (go_at_call 65; refine (shapeOk_q _ _ _ _ _ (by with_reducible assumption)).mono ?_; rintro e w3 ⟨rfl, hb3⟩; obtain ⟨hc3, hf3⟩ := bcell hb3; have hz3 := hb3.size; (try simp only [World.size_drew, World.size_alloc, World.size_setCell] at hc3 hf3 hz3); obtain ⟨hk3x0, hj3x0, hq3x0⟩ := kfa hb3 (w.heap.size); obtain ⟨hk3x1, hj3x1, hq3x1⟩ := kfa hb3 (cb); obtain ⟨hk3x2, hj3x2, hq3x2⟩ := kfa hb3 (g0); clear hc3 hf3); (try go_wp2_with fail); refine tr hK (fun hHeld => ?_); clear hK K)
  refine tq 14 hHeld ?_
  refine tq 15 hHeld ?_
  refine tq 16 hHeld ?_
  (refine tc 17 fun K hK => ?_; go_simp; (go_at_call 67; refine (kAt (HAt.below h (bel_a))).mono ?_; rintro e w4 ⟨rfl, hb4⟩; obtain ⟨hc4, hf4⟩ := bcell hb4; have hz4 := hb4.size; (try simp only [World.size_drew, World.size_alloc, World.size_setCell] at hc4 hf4 hz4); obtain ⟨hk4x0, hj4x0, hq4x0⟩ := kfa hb4 (w.heap.size); obtain ⟨hk4x1, hj4x1, hq4x1⟩ := kfa hb4 (cb); obtain ⟨hk4x2, hj4x2, hq4x2⟩ := kfa hb4 (g0); clear hc4 hf4); (try go_wp2_with fail); refine tr hK (fun hHeld => ?_); clear hK K)
  (refine tc 18 fun K hK => ?_; go_simp; (go_at_call 68; refine (within2_q _ _ _ _ _ (by omega) (by omega) (by with_reducible assumption)).mono ?_; rintro e w5 ⟨rfl, hb5⟩; obtain ⟨hc5, hf5⟩ := bcell hb5; have hz5 := hb5.size; (try simp only [World.size_drew, World.size_alloc, World.size_setCell] at hc5 hf5 hz5); obtain ⟨hk5x0, hj5x0, hq5x0⟩ := kfa hb5 (w.heap.size); obtain ⟨hk5x1, hj5x1, hq5x1⟩ := kfa hb5 (cb); obtain ⟨hk5x2, hj5x2, hq5x2⟩ := kfa hb5 (g0); clear hc5 hf5); (try go_wp2_with fail); refine tr hK (fun hHeld => ?_); clear hK K)
  refine tq 19 hHeld ?_
  refine tq 20 hHeld ?_
  refine tq 21 hHeld ?_
  (refine tc 22 fun K hK => ?_; go_simp; (go_at_call 69; refine (kDrive (HAt.below h (bel_a))).mono ?_; rintro e w6 ⟨rfl, hb6⟩; obtain ⟨hc6, hf6⟩ := bcell hb6; have hz6 := hb6.size; (try simp only [World.size_drew, World.size_alloc, World.size_setCell] at hc6 hf6 hz6); obtain ⟨hk6x0, hj6x0, hq6x0⟩ := kfa hb6 (w.heap.size); obtain ⟨hk6x1, hj6x1, hq6x1⟩ := kfa hb6 (cb); obtain ⟨hk6x2, hj6x2, hq6x2⟩ := kfa hb6 (g0); clear hc6 hf6); (try go_wp2_with fail); refine tr hK (fun hHeld => ?_); clear hK K)
  (refine tc 23 fun K hK => ?_; go_simp; (go_at_call 68; refine (within2_q _ _ _ _ _ (by omega) (by omega) (by with_reducible assumption)).mono ?_; rintro e w7 ⟨rfl, hb7⟩; obtain ⟨hc7, hf7⟩ := bcell hb7; have hz7 := hb7.size; (try simp only [World.size_drew, World.size_alloc, World.size_setCell] at hc7 hf7 hz7); obtain ⟨hk7x0, hj7x0, hq7x0⟩ := kfa hb7 (w.heap.size); obtain ⟨hk7x1, hj7x1, hq7x1⟩ := kfa hb7 (cb); obtain ⟨hk7x2, hj7x2, hq7x2⟩ := kfa hb7 (g0); clear hc7 hf7); (try go_wp2_with fail); refine tr hK (fun hHeld => ?_); clear hK K)
  refine tq 24 hHeld ?_
  refine tq 25 hHeld ?_
  refine tq 26 hHeld ?_
  (refine tc 27 fun K hK => ?_; go_simp; (go_at_call 70; refine (kMass (HAt.below h (bel_a))).mono ?_; rintro e w8 ⟨rfl, hb8⟩; obtain ⟨hc8, hf8⟩ := bcell hb8; have hz8 := hb8.size; (try simp only [World.size_drew, World.size_alloc, World.size_setCell] at hc8 hf8 hz8); obtain ⟨hk8x0, hj8x0, hq8x0⟩ := kfa hb8 (w.heap.size); obtain ⟨hk8x1, hj8x1, hq8x1⟩ := kfa hb8 (cb); obtain ⟨hk8x2, hj8x2, hq8x2⟩ := kfa hb8 (g0); clear hc8 hf8); (try go_wp2_with fail); refine tr hK (fun hHeld => ?_); clear hK K)
  (refine tc 28 fun K hK => ?_; go_simp; (go_at_call 64; refine (upTo_q _ _ _ _ (by with_reducible assumption)).mono ?_; rintro e w9 ⟨rfl, hb9⟩; obtain ⟨hc9, hf9⟩ := bcell hb9; have hz9 := hb9.size; (try simp only [World.size_drew, World.size_alloc, World.size_setCell] at hc9 hf9 hz9); obtain ⟨hk9x0, hj9x0, hq9x0⟩ := kfa hb9 (w.heap.size); obtain ⟨hk9x1, hj9x1, hq9x1⟩ := kfa hb9 (cb); obtain ⟨hk9x2, hj9x2, hq9x2⟩ := kfa hb9 (g0); clear hc9 hf9); (try go_wp2_with fail); refine tr hK (fun hHeld => ?_); clear hK K)
  refine tq 29 hHeld ?_
  refine tq 30 hHeld ?_
  refine tn 31 hHeld ?_
  refine tn 32 hHeld ?_
  refine tn 33 hHeld ?_
  refine tq 34 hHeld ?_
  refine tq 35 hHeld ?_
  refine tn 36 hHeld ?_
  refine tn 37 hHeld ?_
  refine tn 38 hHeld ?_
  refine tq 39 hHeld ?_
  refine tq 40 hHeld ?_
  refine tn 41 hHeld ?_
  refine tn 42 hHeld ?_
  refine tn 43 hHeld ?_
  refine tq 44 hHeld ?_
  refine tq 45 hHeld ?_
  refine tn 46 hHeld ?_
  refine tn 47 hHeld ?_
  refine tq 48 hHeld ?_
  refine tq 49 hHeld ?_
  refine wpAnyH_done (by kernel_rfl) ?_ _
  go_wp2_with fail
  go_ret
  exact ⟨rfl, bel_a⟩

set_option maxHeartbeats 8000000 in
theorem kOk_5 {cb n k : Nat} {V : Nat → Int} {G : Nat → Nat} {w : World} (h : HAt w cb n k V G) (k0 : decide (0 ≤ V 0 ∧ V 0 ≤ 999999999) = true) (k1 : shB (V 1) (V 2) (V 3) = true) (k2 : inB 2560000 (V 4) (V 5) = true) (k3 : inB 20000000 (V 6) (V 7) = true) (k4 : decide (0 ≤ V 8 ∧ V 8 ≤ 1000) = true) (k5 : decide (0 ≤ V 9 ∧ V 9 ≤ 256) = false) :
    Calls Tryz.prog 43 #[hdk cb k] w fun e w' => e = .returned (.bool false) ∧ Below w.heap.size w w' := by
  have hset := cset_map
  have l1 := h.cbl
  have hkn := h.kn
  have hnl := h.nl
  obtain ⟨c0, hc0, hv0, _, l0g, lc0⟩ := h.col 0 (by omega)
  generalize hG0 : G 0 = g0 at hc0 hv0 l0g lc0
  clear hG0
  go_enter Tryz.func43, Tryz.ntmps43
  go_upto_region 1 with fail
  refine wp_region_held_drew (S := fun w' => w'.cell? ⟨w.heap.size, 0, none⟩ = some (.int .i64 (k : Int)) ∧ w'.cell? ⟨w.heap.size, 1, none⟩ = some (.pointer (some ⟨cb, 0, none⟩)) ∧ w'.cell? ⟨cb, 0, none⟩ = some (.slice (some ⟨g0, 0, none⟩) n c0) ∧ w'.cell? ⟨g0, k, none⟩ = some (.int .i64 (V 0))) (by kernel_rfl) ?_ (fun hHeld => ?_)
  · (try dsimp only)
    (first | (go_simp; done) | (go_keep; done))
  refine tq 0 hHeld ?_
  refine tq 1 hHeld ?_
  refine tq 2 hHeld ?_
  refine tq 3 hHeld ?_
  refine tq 4 hHeld ?_
  refine tq 5 hHeld ?_
  refine tq 6 hHeld ?_
  refine tq 7 hHeld ?_
  refine tq 8 hHeld ?_
  (refine tc 9 fun K hK => ?_; go_simp; (go_at_call 64; refine (upTo_q _ _ _ _ (by with_reducible assumption)).mono ?_; rintro e w1 ⟨rfl, hb1⟩; obtain ⟨hc1, hf1⟩ := bcell hb1; have hz1 := hb1.size; (try simp only [World.size_drew, World.size_alloc, World.size_setCell] at hc1 hf1 hz1); obtain ⟨hk1x0, hj1x0, hq1x0⟩ := kfa hb1 (w.heap.size); obtain ⟨hk1x1, hj1x1, hq1x1⟩ := kfa hb1 (cb); obtain ⟨hk1x2, hj1x2, hq1x2⟩ := kfa hb1 (g0); clear hc1 hf1); (try go_wp2_with fail); refine tr hK (fun hHeld => ?_); clear hK K)
  refine tq 10 hHeld ?_
  refine tq 11 hHeld ?_
  (refine tc 12 fun K hK => ?_; go_simp; (go_at_call 66; refine (kShape (HAt.below h (bel_a))).mono ?_; rintro e w2 ⟨rfl, hb2⟩; obtain ⟨hc2, hf2⟩ := bcell hb2; have hz2 := hb2.size; (try simp only [World.size_drew, World.size_alloc, World.size_setCell] at hc2 hf2 hz2); obtain ⟨hk2x0, hj2x0, hq2x0⟩ := kfa hb2 (w.heap.size); obtain ⟨hk2x1, hj2x1, hq2x1⟩ := kfa hb2 (cb); obtain ⟨hk2x2, hj2x2, hq2x2⟩ := kfa hb2 (g0); clear hc2 hf2); (try go_wp2_with fail); refine tr hK (fun hHeld => ?_); clear hK K)
  (refine tc 13 fun K hK => ?_; go_simp; (go_at_call 65; refine (shapeOk_q _ _ _ _ _ (by with_reducible assumption)).mono ?_; rintro e w3 ⟨rfl, hb3⟩; obtain ⟨hc3, hf3⟩ := bcell hb3; have hz3 := hb3.size; (try simp only [World.size_drew, World.size_alloc, World.size_setCell] at hc3 hf3 hz3); obtain ⟨hk3x0, hj3x0, hq3x0⟩ := kfa hb3 (w.heap.size); obtain ⟨hk3x1, hj3x1, hq3x1⟩ := kfa hb3 (cb); obtain ⟨hk3x2, hj3x2, hq3x2⟩ := kfa hb3 (g0); clear hc3 hf3); (try go_wp2_with fail); refine tr hK (fun hHeld => ?_); clear hK K)
  refine tq 14 hHeld ?_
  refine tq 15 hHeld ?_
  refine tq 16 hHeld ?_
  (refine tc 17 fun K hK => ?_; go_simp; (go_at_call 67; refine (kAt (HAt.below h (bel_a))).mono ?_; rintro e w4 ⟨rfl, hb4⟩; obtain ⟨hc4, hf4⟩ := bcell hb4; have hz4 := hb4.size; (try simp only [World.size_drew, World.size_alloc, World.size_setCell] at hc4 hf4 hz4); obtain ⟨hk4x0, hj4x0, hq4x0⟩ := kfa hb4 (w.heap.size); obtain ⟨hk4x1, hj4x1, hq4x1⟩ := kfa hb4 (cb); obtain ⟨hk4x2, hj4x2, hq4x2⟩ := kfa hb4 (g0); clear hc4 hf4); (try go_wp2_with fail); refine tr hK (fun hHeld => ?_); clear hK K)
  (refine tc 18 fun K hK => ?_; go_simp; (go_at_call 68; refine (within2_q _ _ _ _ _ (by omega) (by omega) (by with_reducible assumption)).mono ?_; rintro e w5 ⟨rfl, hb5⟩; obtain ⟨hc5, hf5⟩ := bcell hb5; have hz5 := hb5.size; (try simp only [World.size_drew, World.size_alloc, World.size_setCell] at hc5 hf5 hz5); obtain ⟨hk5x0, hj5x0, hq5x0⟩ := kfa hb5 (w.heap.size); obtain ⟨hk5x1, hj5x1, hq5x1⟩ := kfa hb5 (cb); obtain ⟨hk5x2, hj5x2, hq5x2⟩ := kfa hb5 (g0); clear hc5 hf5); (try go_wp2_with fail); refine tr hK (fun hHeld => ?_); clear hK K)
  refine tq 19 hHeld ?_
  refine tq 20 hHeld ?_
  refine tq 21 hHeld ?_
  (refine tc 22 fun K hK => ?_; go_simp; (go_at_call 69; refine (kDrive (HAt.below h (bel_a))).mono ?_; rintro e w6 ⟨rfl, hb6⟩; obtain ⟨hc6, hf6⟩ := bcell hb6; have hz6 := hb6.size; (try simp only [World.size_drew, World.size_alloc, World.size_setCell] at hc6 hf6 hz6); obtain ⟨hk6x0, hj6x0, hq6x0⟩ := kfa hb6 (w.heap.size); obtain ⟨hk6x1, hj6x1, hq6x1⟩ := kfa hb6 (cb); obtain ⟨hk6x2, hj6x2, hq6x2⟩ := kfa hb6 (g0); clear hc6 hf6); (try go_wp2_with fail); refine tr hK (fun hHeld => ?_); clear hK K)
  (refine tc 23 fun K hK => ?_; go_simp; (go_at_call 68; refine (within2_q _ _ _ _ _ (by omega) (by omega) (by with_reducible assumption)).mono ?_; rintro e w7 ⟨rfl, hb7⟩; obtain ⟨hc7, hf7⟩ := bcell hb7; have hz7 := hb7.size; (try simp only [World.size_drew, World.size_alloc, World.size_setCell] at hc7 hf7 hz7); obtain ⟨hk7x0, hj7x0, hq7x0⟩ := kfa hb7 (w.heap.size); obtain ⟨hk7x1, hj7x1, hq7x1⟩ := kfa hb7 (cb); obtain ⟨hk7x2, hj7x2, hq7x2⟩ := kfa hb7 (g0); clear hc7 hf7); (try go_wp2_with fail); refine tr hK (fun hHeld => ?_); clear hK K)
  refine tq 24 hHeld ?_
  refine tq 25 hHeld ?_
  refine tq 26 hHeld ?_
  (refine tc 27 fun K hK => ?_; go_simp; (go_at_call 70; refine (kMass (HAt.below h (bel_a))).mono ?_; rintro e w8 ⟨rfl, hb8⟩; obtain ⟨hc8, hf8⟩ := bcell hb8; have hz8 := hb8.size; (try simp only [World.size_drew, World.size_alloc, World.size_setCell] at hc8 hf8 hz8); obtain ⟨hk8x0, hj8x0, hq8x0⟩ := kfa hb8 (w.heap.size); obtain ⟨hk8x1, hj8x1, hq8x1⟩ := kfa hb8 (cb); obtain ⟨hk8x2, hj8x2, hq8x2⟩ := kfa hb8 (g0); clear hc8 hf8); (try go_wp2_with fail); refine tr hK (fun hHeld => ?_); clear hK K)
  (refine tc 28 fun K hK => ?_; go_simp; (go_at_call 64; refine (upTo_q _ _ _ _ (by with_reducible assumption)).mono ?_; rintro e w9 ⟨rfl, hb9⟩; obtain ⟨hc9, hf9⟩ := bcell hb9; have hz9 := hb9.size; (try simp only [World.size_drew, World.size_alloc, World.size_setCell] at hc9 hf9 hz9); obtain ⟨hk9x0, hj9x0, hq9x0⟩ := kfa hb9 (w.heap.size); obtain ⟨hk9x1, hj9x1, hq9x1⟩ := kfa hb9 (cb); obtain ⟨hk9x2, hj9x2, hq9x2⟩ := kfa hb9 (g0); clear hc9 hf9); (try go_wp2_with fail); refine tr hK (fun hHeld => ?_); clear hK K)
  refine tq 29 hHeld ?_
  refine tq 30 hHeld ?_
  refine tq 31 hHeld ?_
  (refine tc 32 fun K hK => ?_; go_simp; (go_at_call 71; refine (kBounce (HAt.below h (bel_a))).mono ?_; rintro e w10 ⟨rfl, hb10⟩; obtain ⟨hc10, hf10⟩ := bcell hb10; have hz10 := hb10.size; (try simp only [World.size_drew, World.size_alloc, World.size_setCell] at hc10 hf10 hz10); obtain ⟨hk10x0, hj10x0, hq10x0⟩ := kfa hb10 (w.heap.size); obtain ⟨hk10x1, hj10x1, hq10x1⟩ := kfa hb10 (cb); obtain ⟨hk10x2, hj10x2, hq10x2⟩ := kfa hb10 (g0); clear hc10 hf10); (try go_wp2_with fail); refine tr hK (fun hHeld => ?_); clear hK K)
  (refine tc 33 fun K hK => ?_; go_simp; (go_at_call 64; refine (upTo_q _ _ _ _ (by with_reducible assumption)).mono ?_; rintro e w11 ⟨rfl, hb11⟩; obtain ⟨hc11, hf11⟩ := bcell hb11; have hz11 := hb11.size; (try simp only [World.size_drew, World.size_alloc, World.size_setCell] at hc11 hf11 hz11); obtain ⟨hk11x0, hj11x0, hq11x0⟩ := kfa hb11 (w.heap.size); obtain ⟨hk11x1, hj11x1, hq11x1⟩ := kfa hb11 (cb); obtain ⟨hk11x2, hj11x2, hq11x2⟩ := kfa hb11 (g0); clear hc11 hf11); (try go_wp2_with fail); refine tr hK (fun hHeld => ?_); clear hK K)
  refine tq 34 hHeld ?_
  refine tq 35 hHeld ?_
  refine tn 36 hHeld ?_
  refine tn 37 hHeld ?_
  refine tn 38 hHeld ?_
  refine tq 39 hHeld ?_
  refine tq 40 hHeld ?_
  refine tn 41 hHeld ?_
  refine tn 42 hHeld ?_
  refine tn 43 hHeld ?_
  refine tq 44 hHeld ?_
  refine tq 45 hHeld ?_
  refine tn 46 hHeld ?_
  refine tn 47 hHeld ?_
  refine tq 48 hHeld ?_
  refine tq 49 hHeld ?_
  refine wpAnyH_done (by kernel_rfl) ?_ _
  go_wp2_with fail
  go_ret
  exact ⟨rfl, bel_a⟩
end Go.Proofs.YtlbpmmjckoaleaaGreat
