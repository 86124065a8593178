/- A body's numbers by its handle, at any row. -/
import Derived.Test.YtmbdleggcnfedaaCs
import Derived.Test.YtmbdleggcnfedaaEach
import Derived.Test.YtmbdleggcnfedaaShB
import Derived.Test.YtmbdleggcnfedaaTd
import Derived.Deep.RegionHeld3
import Derived.Deep.DeepCutAuto
namespace Go.Proofs.Ytmbdleggcnfedaa
open Go.RowKit
set_option linter.unusedVariables false
set_option linter.unusedSimpArgs false

structure HAt (w : World) (cb n k : Nat) (V : Nat → Int) (G : Nat → Nat) : Prop where
  col : ∀ i, i < 12 → ∃ c, Cell1 w cb n i k (V i) (G i) c
  cbl : cb < w.heap.size
  kn : k < n
  nl : n ≤ 1048576
theorem HAt.below {w w' : World} {cb n k : Nat} {V : Nat → Int} {G : Nat → Nat} (h : HAt w cb n k V G) (hb : Below w.heap.size w w') : HAt w' cb n k V G :=
  ⟨fun i hi => by
    obtain ⟨c, h1, h2, h3, h4, h5⟩ := h.col i hi
    exact ⟨c, (hb.cell (p := ⟨cb, i, none⟩) h.cbl).trans h1, (hb.cell (p := ⟨G i, k, none⟩) h4).trans h2, (hb.frozen (p := ⟨G i, k, none⟩) h4).trans h3, Nat.lt_of_lt_of_le h4 hb.size, h5⟩, Nat.lt_of_lt_of_le h.cbl hb.size, h.kn, h.nl⟩
/-- a handle's own block of each column -/
def gOf (S : Nat → Value) (i : Nat) : Nat := ((S i).ownBlock).getD 0
theorem Cs.hat {w : World} {cb n k : Nat} {C : Nat → Nat → Int} {S : Nat → Value} (h : Cs w cb n C S) (hk : k < n) (hn : n ≤ 1048576) : HAt w cb n k (fun i => C i k) (gOf S) :=
  ⟨fun i hi => by
    obtain ⟨g, c, e, hc⟩ := h.at hi hk
    refine ⟨c, ?_⟩
    rw [show gOf S i = g from by unfold gOf; rw [e]; rfl]
    exact hc, h.lt, hk, hn⟩
theorem upTo_any (n l : Int) (w : World) :
    Calls Try.prog 32 #[.int .i64 n, .int .i64 l] w fun e w' => e = .returned (.bool (decide (0 ≤ n ∧ n ≤ l))) ∧ w' = w := by
  go_enter Try.func32, Try.ntmps32
  go_wp2
  all_goals
    go_ret
    refine ⟨ret_bool ?_, rfl⟩
    first | (simp [*]; done) | (simp at *; omega) | (simp [*]; omega)

set_option maxHeartbeats 4000000 in
theorem kMass {cb n k : Nat} {V : Nat → Int} {G : Nat → Nat} {w : World} (h : HAt w cb n k V G) :
    Calls Try.prog 37 #[hdk cb k] w fun e w' => e = .returned (.int .i64 (V 8)) ∧ Below w.heap.size w w' := by
  have hset := cset_map
  have l1 := h.cbl
  have hkn := h.kn
  have hnl := h.nl
  obtain ⟨c8, hc8, hv8, _, l8g, lc8⟩ := h.col 8 (by omega)
  generalize G 8 = g8 at hc8 hv8 l8g lc8
  clear h
  go_enter Try.func37, Try.ntmps37
  go_upto_region 1 with fail
  refine wp_region_held_drew (S := fun w' => w'.cell? ⟨w.heap.size, 0, none⟩ = some (.int .i64 (k : Int)) ∧ w'.cell? ⟨w.heap.size, 1, none⟩ = some (.pointer (some ⟨cb, 0, none⟩)) ∧ w'.cell? ⟨cb, 8, none⟩ = some (.slice (some ⟨g8, 0, none⟩) n c8) ∧ w'.cell? ⟨g8, k, none⟩ = some (.int .i64 (V 8))) (by kernel_rfl) ?_ (fun hHeld => ?_)
  · (try dsimp only)
    (first | (go_simp; done) | (go_keep; done))
  refine tq 0 hHeld ?_
  refine tq 1 hHeld ?_
  refine tq 2 hHeld ?_
  refine tq 3 hHeld ?_
  refine tq 4 hHeld ?_
  refine tq 5 hHeld ?_
  refine tq 6 hHeld ?_
  refine tq 7 hHeld ?_
  refine tq 8 hHeld ?_
  refine tq 9 hHeld ?_
  refine wpAnyH_done (by kernel_rfl) ?_ _
  go_wp2_with fail
  go_ret
  exact ⟨rfl, by repeat (first | with_reducible apply Below.refl | (with_reducible apply Below.setCell; rotate_left; focus (first | omega | (simp; done) | (simp; omega))) | (with_reducible apply Below.alloc; rotate_left; focus (first | omega | (simp; done) | (simp; omega))) | with_reducible apply Below.drew | with_reducible apply belowDrewN | (with_reducible apply Below.trans; rotate_left; with_reducible apply Below.mono; with_reducible assumption; focus (first | omega | (simp; done) | (simp; omega))))⟩

set_option maxHeartbeats 4000000 in
theorem kBounce {cb n k : Nat} {V : Nat → Int} {G : Nat → Nat} {w : World} (h : HAt w cb n k V G) :
    Calls Try.prog 38 #[hdk cb k] w fun e w' => e = .returned (.int .i64 (V 9)) ∧ Below w.heap.size w w' := by
  have hset := cset_map
  have l1 := h.cbl
  have hkn := h.kn
  have hnl := h.nl
  obtain ⟨c9, hc9, hv9, _, l9g, lc9⟩ := h.col 9 (by omega)
  generalize G 9 = g9 at hc9 hv9 l9g lc9
  clear h
  go_enter Try.func38, Try.ntmps38
  go_upto_region 1 with fail
  refine wp_region_held_drew (S := fun w' => w'.cell? ⟨w.heap.size, 0, none⟩ = some (.int .i64 (k : Int)) ∧ w'.cell? ⟨w.heap.size, 1, none⟩ = some (.pointer (some ⟨cb, 0, none⟩)) ∧ w'.cell? ⟨cb, 9, none⟩ = some (.slice (some ⟨g9, 0, none⟩) n c9) ∧ w'.cell? ⟨g9, k, none⟩ = some (.int .i64 (V 9))) (by kernel_rfl) ?_ (fun hHeld => ?_)
  · (try dsimp only)
    (first | (go_simp; done) | (go_keep; done))
  refine tq 0 hHeld ?_
  refine tq 1 hHeld ?_
  refine tq 2 hHeld ?_
  refine tq 3 hHeld ?_
  refine tq 4 hHeld ?_
  refine tq 5 hHeld ?_
  refine tq 6 hHeld ?_
  refine tq 7 hHeld ?_
  refine tq 8 hHeld ?_
  refine tq 9 hHeld ?_
  refine wpAnyH_done (by kernel_rfl) ?_ _
  go_wp2_with fail
  go_ret
  exact ⟨rfl, by repeat (first | with_reducible apply Below.refl | (with_reducible apply Below.setCell; rotate_left; focus (first | omega | (simp; done) | (simp; omega))) | (with_reducible apply Below.alloc; rotate_left; focus (first | omega | (simp; done) | (simp; omega))) | with_reducible apply Below.drew | with_reducible apply belowDrewN | (with_reducible apply Below.trans; rotate_left; with_reducible apply Below.mono; with_reducible assumption; focus (first | omega | (simp; done) | (simp; omega))))⟩

set_option maxHeartbeats 4000000 in
theorem kRub {cb n k : Nat} {V : Nat → Int} {G : Nat → Nat} {w : World} (h : HAt w cb n k V G) :
    Calls Try.prog 39 #[hdk cb k] w fun e w' => e = .returned (.int .i64 (V 10)) ∧ Below w.heap.size w w' := by
  have hset := cset_map
  have l1 := h.cbl
  have hkn := h.kn
  have hnl := h.nl
  obtain ⟨c10, hc10, hv10, _, l10g, lc10⟩ := h.col 10 (by omega)
  generalize G 10 = g10 at hc10 hv10 l10g lc10
  clear h
  go_enter Try.func39, Try.ntmps39
  go_upto_region 1 with fail
  refine wp_region_held_drew (S := fun w' => w'.cell? ⟨w.heap.size, 0, none⟩ = some (.int .i64 (k : Int)) ∧ w'.cell? ⟨w.heap.size, 1, none⟩ = some (.pointer (some ⟨cb, 0, none⟩)) ∧ w'.cell? ⟨cb, 10, none⟩ = some (.slice (some ⟨g10, 0, none⟩) n c10) ∧ w'.cell? ⟨g10, k, none⟩ = some (.int .i64 (V 10))) (by kernel_rfl) ?_ (fun hHeld => ?_)
  · (try dsimp only)
    (first | (go_simp; done) | (go_keep; done))
  refine tq 0 hHeld ?_
  refine tq 1 hHeld ?_
  refine tq 2 hHeld ?_
  refine tq 3 hHeld ?_
  refine tq 4 hHeld ?_
  refine tq 5 hHeld ?_
  refine tq 6 hHeld ?_
  refine tq 7 hHeld ?_
  refine tq 8 hHeld ?_
  refine tq 9 hHeld ?_
  refine wpAnyH_done (by kernel_rfl) ?_ _
  go_wp2_with fail
  go_ret
  exact ⟨rfl, by repeat (first | with_reducible apply Below.refl | (with_reducible apply Below.setCell; rotate_left; focus (first | omega | (simp; done) | (simp; omega))) | (with_reducible apply Below.alloc; rotate_left; focus (first | omega | (simp; done) | (simp; omega))) | with_reducible apply Below.drew | with_reducible apply belowDrewN | (with_reducible apply Below.trans; rotate_left; with_reducible apply Below.mono; with_reducible assumption; focus (first | omega | (simp; done) | (simp; omega))))⟩

set_option maxHeartbeats 4000000 in
theorem kQuiet {cb n k : Nat} {V : Nat → Int} {G : Nat → Nat} {w : World} (h : HAt w cb n k V G) :
    Calls Try.prog 40 #[hdk cb k] w fun e w' => e = .returned (.int .i64 (V 11)) ∧ Below w.heap.size w w' := by
  have hset := cset_map
  have l1 := h.cbl
  have hkn := h.kn
  have hnl := h.nl
  obtain ⟨c11, hc11, hv11, _, l11g, lc11⟩ := h.col 11 (by omega)
  generalize G 11 = g11 at hc11 hv11 l11g lc11
  clear h
  go_enter Try.func40, Try.ntmps40
  go_upto_region 1 with fail
  refine wp_region_held_drew (S := fun w' => w'.cell? ⟨w.heap.size, 0, none⟩ = some (.int .i64 (k : Int)) ∧ w'.cell? ⟨w.heap.size, 1, none⟩ = some (.pointer (some ⟨cb, 0, none⟩)) ∧ w'.cell? ⟨cb, 11, none⟩ = some (.slice (some ⟨g11, 0, none⟩) n c11) ∧ w'.cell? ⟨g11, k, none⟩ = some (.int .i64 (V 11))) (by kernel_rfl) ?_ (fun hHeld => ?_)
  · (try dsimp only)
    (first | (go_simp; done) | (go_keep; done))
  refine tq 0 hHeld ?_
  refine tq 1 hHeld ?_
  refine tq 2 hHeld ?_
  refine tq 3 hHeld ?_
  refine tq 4 hHeld ?_
  refine tq 5 hHeld ?_
  refine tq 6 hHeld ?_
  refine tq 7 hHeld ?_
  refine tq 8 hHeld ?_
  refine tq 9 hHeld ?_
  refine wpAnyH_done (by kernel_rfl) ?_ _
  go_wp2_with fail
  go_ret
  exact ⟨rfl, by repeat (first | with_reducible apply Below.refl | (with_reducible apply Below.setCell; rotate_left; focus (first | omega | (simp; done) | (simp; omega))) | (with_reducible apply Below.alloc; rotate_left; focus (first | omega | (simp; done) | (simp; omega))) | with_reducible apply Below.drew | with_reducible apply belowDrewN | (with_reducible apply Below.trans; rotate_left; with_reducible apply Below.mono; with_reducible assumption; focus (first | omega | (simp; done) | (simp; omega))))⟩

set_option maxHeartbeats 4000000 in
theorem kAt {cb n k : Nat} {V : Nat → Int} {G : Nat → Nat} {w : World} (h : HAt w cb n k V G) :
    Calls Try.prog 35 #[hdk cb k] w fun e w' => e = .returned (vv (V 4) (V 5)) ∧ Below w.heap.size w w' := by
  have hset := cset_map
  have l1 := h.cbl
  have hkn := h.kn
  have hnl := h.nl
  obtain ⟨c4, hc4, hv4, _, l4g, lc4⟩ := h.col 4 (by omega)
  generalize G 4 = g4 at hc4 hv4 l4g lc4
  obtain ⟨c5, hc5, hv5, _, l5g, lc5⟩ := h.col 5 (by omega)
  generalize G 5 = g5 at hc5 hv5 l5g lc5
  clear h
  go_enter Try.func35, Try.ntmps35
  go_upto_region 1 with fail
  refine wp_region_held_drew (S := fun w' => w'.cell? ⟨w.heap.size, 0, none⟩ = some (.int .i64 (k : Int)) ∧ w'.cell? ⟨w.heap.size, 1, none⟩ = some (.pointer (some ⟨cb, 0, none⟩)) ∧ w'.cell? ⟨cb, 4, none⟩ = some (.slice (some ⟨g4, 0, none⟩) n c4) ∧ w'.cell? ⟨g4, k, none⟩ = some (.int .i64 (V 4)) ∧ w'.cell? ⟨cb, 5, none⟩ = some (.slice (some ⟨g5, 0, none⟩) n c5) ∧ w'.cell? ⟨g5, k, none⟩ = some (.int .i64 (V 5))) (by kernel_rfl) ?_ (fun hHeld => ?_)
  · (try dsimp only)
    (first | (go_simp; done) | (go_keep; done))
  refine tq 0 hHeld ?_
  refine tq 1 hHeld ?_
  refine tq 2 hHeld ?_
  refine tq 3 hHeld ?_
  refine tq 4 hHeld ?_
  refine tq 5 hHeld ?_
  refine tq 6 hHeld ?_
  refine tq 7 hHeld ?_
  refine tq 8 hHeld ?_
  refine tq 9 hHeld ?_
  refine tq 10 hHeld ?_
  refine tq 11 hHeld ?_
  refine tq 12 hHeld ?_
  refine tq 13 hHeld ?_
  refine tq 14 hHeld ?_
  refine tq 15 hHeld ?_
  refine tq 16 hHeld ?_
  refine tq 17 hHeld ?_
  refine tq 18 hHeld ?_
  (refine tc 19 fun K hK => ?_; go_simp; refine tr hK (fun hHeld => ?_); clear hK K)
  refine wpAnyH_done (by kernel_rfl) ?_ _
  go_wp2_with fail
  exact bodyPost_ret (v := vv (V 4) (V 5)) (by simp [results, Try.results35, go_sem, *]) rfl ⟨rfl, by repeat (first | with_reducible apply Below.refl | (with_reducible apply Below.setCell; rotate_left; focus (first | omega | (simp; done) | (simp; omega))) | (with_reducible apply Below.alloc; rotate_left; focus (first | omega | (simp; done) | (simp; omega))) | with_reducible apply Below.drew | with_reducible apply belowDrewN | (with_reducible apply Below.trans; rotate_left; with_reducible apply Below.mono; with_reducible assumption; focus (first | omega | (simp; done) | (simp; omega))))⟩

set_option maxHeartbeats 4000000 in
theorem kDrive {cb n k : Nat} {V : Nat → Int} {G : Nat → Nat} {w : World} (h : HAt w cb n k V G) :
    Calls Try.prog 19 #[hdk cb k] w fun e w' => e = .returned (vv (V 6) (V 7)) ∧ Below w.heap.size w w' := by
  have hset := cset_map
  have l1 := h.cbl
  have hkn := h.kn
  have hnl := h.nl
  obtain ⟨c6, hc6, hv6, _, l6g, lc6⟩ := h.col 6 (by omega)
  generalize G 6 = g6 at hc6 hv6 l6g lc6
  obtain ⟨c7, hc7, hv7, _, l7g, lc7⟩ := h.col 7 (by omega)
  generalize G 7 = g7 at hc7 hv7 l7g lc7
  clear h
  go_enter Try.func19, Try.ntmps19
  go_upto_region 1 with fail
  refine wp_region_held_drew (S := fun w' => w'.cell? ⟨w.heap.size, 0, none⟩ = some (.int .i64 (k : Int)) ∧ w'.cell? ⟨w.heap.size, 1, none⟩ = some (.pointer (some ⟨cb, 0, none⟩)) ∧ w'.cell? ⟨cb, 6, none⟩ = some (.slice (some ⟨g6, 0, none⟩) n c6) ∧ w'.cell? ⟨g6, k, none⟩ = some (.int .i64 (V 6)) ∧ w'.cell? ⟨cb, 7, none⟩ = some (.slice (some ⟨g7, 0, none⟩) n c7) ∧ w'.cell? ⟨g7, k, none⟩ = some (.int .i64 (V 7))) (by kernel_rfl) ?_ (fun hHeld => ?_)
  · (try dsimp only)
    (first | (go_simp; done) | (go_keep; done))
  refine tq 0 hHeld ?_
  refine tq 1 hHeld ?_
  refine tq 2 hHeld ?_
  refine tq 3 hHeld ?_
  refine tq 4 hHeld ?_
  refine tq 5 hHeld ?_
  refine tq 6 hHeld ?_
  refine tq 7 hHeld ?_
  refine tq 8 hHeld ?_
  refine tq 9 hHeld ?_
  refine tq 10 hHeld ?_
  refine tq 11 hHeld ?_
  refine tq 12 hHeld ?_
  refine tq 13 hHeld ?_
  refine tq 14 hHeld ?_
  refine tq 15 hHeld ?_
  refine tq 16 hHeld ?_
  refine tq 17 hHeld ?_
  refine tq 18 hHeld ?_
  (refine tc 19 fun K hK => ?_; go_simp; refine tr hK (fun hHeld => ?_); clear hK K)
  refine wpAnyH_done (by kernel_rfl) ?_ _
  go_wp2_with fail
  exact bodyPost_ret (v := vv (V 6) (V 7)) (by simp [results, Try.results19, go_sem, *]) rfl ⟨rfl, by repeat (first | with_reducible apply Below.refl | (with_reducible apply Below.setCell; rotate_left; focus (first | omega | (simp; done) | (simp; omega))) | (with_reducible apply Below.alloc; rotate_left; focus (first | omega | (simp; done) | (simp; omega))) | with_reducible apply Below.drew | with_reducible apply belowDrewN | (with_reducible apply Below.trans; rotate_left; with_reducible apply Below.mono; with_reducible assumption; focus (first | omega | (simp; done) | (simp; omega))))⟩

set_option maxHeartbeats 4000000 in
theorem kShape {cb n k : Nat} {V : Nat → Int} {G : Nat → Nat} {w : World} (h : HAt w cb n k V G) :
    Calls Try.prog 34 #[hdk cb k] w fun e w' => e = .returned (s3 (V 1) (V 2) (V 3)) ∧ Below w.heap.size w w' := by
  have hset := cset_map
  have l1 := h.cbl
  have hkn := h.kn
  have hnl := h.nl
  obtain ⟨c1, hc1, hv1, _, l1g, lc1⟩ := h.col 1 (by omega)
  generalize G 1 = g1 at hc1 hv1 l1g lc1
  obtain ⟨c2, hc2, hv2, _, l2g, lc2⟩ := h.col 2 (by omega)
  generalize G 2 = g2 at hc2 hv2 l2g lc2
  obtain ⟨c3, hc3, hv3, _, l3g, lc3⟩ := h.col 3 (by omega)
  generalize G 3 = g3 at hc3 hv3 l3g lc3
  clear h
  go_enter Try.func34, Try.ntmps34
  go_upto_region 1 with fail
  refine wp_region_held_drew (S := fun w' => w'.cell? ⟨w.heap.size, 0, none⟩ = some (.int .i64 (k : Int)) ∧ w'.cell? ⟨w.heap.size, 1, none⟩ = some (.pointer (some ⟨cb, 0, none⟩)) ∧ w'.cell? ⟨cb, 1, none⟩ = some (.slice (some ⟨g1, 0, none⟩) n c1) ∧ w'.cell? ⟨g1, k, none⟩ = some (.int .i64 (V 1)) ∧ w'.cell? ⟨cb, 2, none⟩ = some (.slice (some ⟨g2, 0, none⟩) n c2) ∧ w'.cell? ⟨g2, k, none⟩ = some (.int .i64 (V 2)) ∧ w'.cell? ⟨cb, 3, none⟩ = some (.slice (some ⟨g3, 0, none⟩) n c3) ∧ w'.cell? ⟨g3, k, none⟩ = some (.int .i64 (V 3))) (by kernel_rfl) ?_ (fun hHeld => ?_)
  · (try dsimp only)
    (first | (go_simp; done) | (go_keep; done))
  refine tq 0 hHeld ?_
  refine tq 1 hHeld ?_
  refine tq 2 hHeld ?_
  refine tq 3 hHeld ?_
  refine tq 4 hHeld ?_
  refine tq 5 hHeld ?_
  refine tq 6 hHeld ?_
  refine tq 7 hHeld ?_
  refine tq 8 hHeld ?_
  refine tq 9 hHeld ?_
  refine tq 10 hHeld ?_
  refine tq 11 hHeld ?_
  refine tq 12 hHeld ?_
  refine tq 13 hHeld ?_
  refine tq 14 hHeld ?_
  refine tq 15 hHeld ?_
  refine tq 16 hHeld ?_
  refine tq 17 hHeld ?_
  refine tq 18 hHeld ?_
  refine tq 19 hHeld ?_
  refine tq 20 hHeld ?_
  refine tq 21 hHeld ?_
  refine tq 22 hHeld ?_
  refine tq 23 hHeld ?_
  refine tq 24 hHeld ?_
  refine tq 25 hHeld ?_
  refine tq 26 hHeld ?_
  refine tq 27 hHeld ?_
  (refine tc 28 fun K hK => ?_; go_simp; refine tr hK (fun hHeld => ?_); clear hK K)
  refine wpAnyH_done (by kernel_rfl) ?_ _
  go_wp2_with fail
  exact bodyPost_ret (v := s3 (V 1) (V 2) (V 3)) (by simp [results, Try.results34, go_sem, *]) rfl ⟨rfl, by repeat (first | with_reducible apply Below.refl | (with_reducible apply Below.setCell; rotate_left; focus (first | omega | (simp; done) | (simp; omega))) | (with_reducible apply Below.alloc; rotate_left; focus (first | omega | (simp; done) | (simp; omega))) | with_reducible apply Below.drew | with_reducible apply belowDrewN | (with_reducible apply Below.trans; rotate_left; with_reducible apply Below.mono; with_reducible assumption; focus (first | omega | (simp; done) | (simp; omega))))⟩

set_option maxHeartbeats 4000000 in
theorem kFixed {cb n k : Nat} {V : Nat → Int} {G : Nat → Nat} {w : World} (h : HAt w cb n k V G) :
    Calls Try.prog 44 #[hdk cb k] w fun e w' => e = .returned (.bool (decide (V 8 = 0))) ∧ Below w.heap.size w w' := by
  have hset := cset_map
  have h' : HAt (w.alloc (.cells #[.int .i64 (k : Int), .pointer (some ⟨cb, 0, none⟩)] 53)) cb n k V G := h.below (by repeat (first | with_reducible apply Below.refl | (with_reducible apply Below.setCell; rotate_left; focus (first | omega | (simp; done) | (simp; omega))) | (with_reducible apply Below.alloc; rotate_left; focus (first | omega | (simp; done) | (simp; omega))) | with_reducible apply Below.drew | with_reducible apply belowDrewN | (with_reducible apply Below.trans; rotate_left; with_reducible apply Below.mono; with_reducible assumption; focus (first | omega | (simp; done) | (simp; omega)))))
  go_enter Try.func44, Try.ntmps44
  go_wp2_with (go_at_call 37; refine (kMass h').mono ?_; rintro e w1 ⟨rfl, hb1⟩; obtain ⟨hc1, hf1⟩ := bcell hb1; have hz1 := hb1.size; (try simp only [World.size_drew, World.size_alloc, World.size_setCell] at hc1 hf1 hz1); have hk1x0 := fun o => hc1 (w.heap.size) o (by omega); have hj1x0 := fun o => hf1 (w.heap.size) o (by omega); have hq1x0 : w.heap.size < w1.heap.size := (by omega); clear hc1 hf1)
  go_ret
  exact ⟨rfl, by repeat (first | with_reducible apply Below.refl | (with_reducible apply Below.setCell; rotate_left; focus (first | omega | (simp; done) | (simp; omega))) | (with_reducible apply Below.alloc; rotate_left; focus (first | omega | (simp; done) | (simp; omega))) | with_reducible apply Below.drew | with_reducible apply belowDrewN | (with_reducible apply Below.trans; rotate_left; with_reducible apply Below.mono; with_reducible assumption; focus (first | omega | (simp; done) | (simp; omega))))⟩

set_option maxHeartbeats 4000000 in
theorem kSleeps {cb n k : Nat} {V : Nat → Int} {G : Nat → Nat} {w : World} (h : HAt w cb n k V G) :
    Calls Try.prog 45 #[hdk cb k] w fun e w' => e = .returned (.bool (decide (V 11 = 8))) ∧ Below w.heap.size w w' := by
  have hset := cset_map
  have h' : HAt (w.alloc (.cells #[.int .i64 (k : Int), .pointer (some ⟨cb, 0, none⟩)] 53)) cb n k V G := h.below (by repeat (first | with_reducible apply Below.refl | (with_reducible apply Below.setCell; rotate_left; focus (first | omega | (simp; done) | (simp; omega))) | (with_reducible apply Below.alloc; rotate_left; focus (first | omega | (simp; done) | (simp; omega))) | with_reducible apply Below.drew | with_reducible apply belowDrewN | (with_reducible apply Below.trans; rotate_left; with_reducible apply Below.mono; with_reducible assumption; focus (first | omega | (simp; done) | (simp; omega)))))
  go_enter Try.func45, Try.ntmps45
  go_wp2_with (go_at_call 40; refine (kQuiet h').mono ?_; rintro e w1 ⟨rfl, hb1⟩; obtain ⟨hc1, hf1⟩ := bcell hb1; have hz1 := hb1.size; (try simp only [World.size_drew, World.size_alloc, World.size_setCell] at hc1 hf1 hz1); have hk1x0 := fun o => hc1 (w.heap.size) o (by omega); have hj1x0 := fun o => hf1 (w.heap.size) o (by omega); have hq1x0 : w.heap.size < w1.heap.size := (by omega); clear hc1 hf1)
  go_ret
  exact ⟨rfl, by repeat (first | with_reducible apply Below.refl | (with_reducible apply Below.setCell; rotate_left; focus (first | omega | (simp; done) | (simp; omega))) | (with_reducible apply Below.alloc; rotate_left; focus (first | omega | (simp; done) | (simp; omega))) | with_reducible apply Below.drew | with_reducible apply belowDrewN | (with_reducible apply Below.trans; rotate_left; with_reducible apply Below.mono; with_reducible assumption; focus (first | omega | (simp; done) | (simp; omega))))⟩
end Go.Proofs.Ytmbdleggcnfedaa
