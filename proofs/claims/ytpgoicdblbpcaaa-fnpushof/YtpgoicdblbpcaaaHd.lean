/- A body of one row, by its handle: its numbers. -/
import Derived.Test.YtpgoicdblbpcaaaCols
import Derived.Test.YtpgoicdblbpcaaaShB
import Derived.Deep.RegionHeld3
import Derived.Deep.DeepCutAuto
namespace Go.Proofs.Ytpgoicdblbpcaaa
open Go.RowKit
set_option linter.unusedVariables false
set_option linter.unusedSimpArgs false

abbrev hdl (cb : Nat) : Value := .agg #[.int .i64 0, .pointer (some ⟨cb, 0, none⟩)]
structure HRows (w : World) (cb : Nat) (V : Nat → Int) (G : Nat → Nat) : Prop where
  col : ∀ i, i < 12 → Col w cb i (G i) (V i)
  cbl : cb < w.heap.size
  gl : ∀ i, i < 12 → G i < w.heap.size
  asc : ∀ i j, i < j → j < 12 → G i < G j
  cbg : ∀ i, i < 12 → cb < G i
theorem HRows.below {w w' : World} {cb B : Nat} {V : Nat → Int} {G : Nat → Nat} (h : HRows w cb V G) (hb : Below B w w') (hB : w.heap.size ≤ B) : HRows w' cb V G :=
  ⟨fun i hi => Col.keep (h.col i hi) (hb.cell (by have := h.cbl; simp; omega)) (hb.cell (by have := h.gl i hi; simp; omega)) (hb.frozen (by have := h.gl i hi; simp; omega)), Nat.lt_of_lt_of_le h.cbl hb.size, fun i hi => Nat.lt_of_lt_of_le (h.gl i hi) hb.size, h.asc, h.cbg⟩
theorem AddSt.rows {w wx : World} {cb : Nat} {V : Nat → Int} {G : Nat → Nat} (h : AddSt w wx cb V 12 G) (hcb : cb < w.heap.size) : HRows wx cb V G :=
  ⟨h.did, Nat.lt_trans hcb h.big, fun i hi => (h.rng i hi).2, h.asc, fun i hi => Nat.lt_trans hcb (h.rng i hi).1⟩
theorem upTo_any (n l : Int) (w : World) :
    Calls Try.prog 71 #[.int .i64 n, .int .i64 l] w fun e w' => e = .returned (.bool (decide (0 ≤ n ∧ n ≤ l))) ∧ w' = w := by
  go_enter Try.func71, Try.ntmps71
  go_wp2
  all_goals
    go_ret
    refine ⟨ret_bool ?_, rfl⟩
    first | (simp [*]; done) | (simp at *; omega) | (simp [*]; omega)

set_option maxHeartbeats 4000000 in
theorem hMass (cb : Nat) (V : Nat → Int) (G : Nat → Nat) (w : World) (h : HRows w cb V G) :
    Calls Try.prog 64 #[hdl cb] w fun e w' => e = .returned (.int .i64 (V 8)) ∧ Below w.heap.size w w' := by
  have hset := cset_map
  have l1 := h.cbl
  obtain ⟨⟨c8, hc8⟩, hv8, _⟩ := h.col 8 (by omega)
  have l8g := h.gl 8 (by omega)
  generalize G 8 = g8 at hc8 hv8 l8g
  clear h
  go_enter Try.func64, Try.ntmps64
  go_upto_region 1 with fail
  refine wp_region_held_drew (S := fun w' => w'.cell? ⟨w.heap.size, 0, none⟩ = some (.int .i64 0) ∧ w'.cell? ⟨w.heap.size, 1, none⟩ = some (.pointer (some ⟨cb, 0, none⟩)) ∧ w'.cell? ⟨cb, 8, none⟩ = some (.slice (some ⟨g8, 0, none⟩) 1 c8) ∧ w'.cell? ⟨g8, 0, none⟩ = some (.int .i64 (V 8))) (by kernel_rfl) ?_ (fun hHeld => ?_)
  · (try dsimp only)
    (first | (go_simp; done) | (go_keep; done))
  (refine tk 0 ⟨_, _, _, _, _, _⟩ rfl (by kernel_rfl) (fun _ _ _ h => h) (by rfl) hHeld (by intro w s; (try dsimp only at s); go_simp; (try with_reducible rfl)) ?_; (try simp only [Act.put, List.setIfInBounds_toArray, List.set_cons_zero, List.set_cons_succ]))
  (refine tk 1 ⟨_, _, _, _, _, _⟩ rfl (by kernel_rfl) (fun _ _ _ h => h) (by rfl) hHeld (by intro w s; (try dsimp only at s); go_simp; (try with_reducible rfl)) ?_; (try simp only [Act.put, List.setIfInBounds_toArray, List.set_cons_zero, List.set_cons_succ]))
  (refine tk 2 ⟨_, _, _, _, _, _⟩ rfl (by kernel_rfl) (fun _ _ _ h => h) (by rfl) hHeld (by intro w s; (try dsimp only at s); go_simp; (try with_reducible rfl)) ?_; (try simp only [Act.put, List.setIfInBounds_toArray, List.set_cons_zero, List.set_cons_succ]))
  (refine tk 3 ⟨_, _, _, _, _, _⟩ rfl (by kernel_rfl) (fun _ _ _ h => h) (by rfl) hHeld (by intro w s; (try dsimp only at s); go_simp; (try with_reducible rfl)) ?_; (try simp only [Act.put, List.setIfInBounds_toArray, List.set_cons_zero, List.set_cons_succ]))
  (refine tk 4 ⟨_, _, _, _, _, _⟩ rfl (by kernel_rfl) (fun _ _ _ h => h) (by rfl) hHeld (by intro w s; (try dsimp only at s); go_simp; (try with_reducible rfl)) ?_; (try simp only [Act.put, List.setIfInBounds_toArray, List.set_cons_zero, List.set_cons_succ]))
  (refine tk 5 ⟨_, _, _, _, _, _⟩ rfl (by kernel_rfl) (fun _ _ _ h => h) (by rfl) hHeld (by intro w s; (try dsimp only at s); go_simp; (try with_reducible rfl)) ?_; (try simp only [Act.put, List.setIfInBounds_toArray, List.set_cons_zero, List.set_cons_succ]))
  (refine tk 6 ⟨_, _, _, _, _, _⟩ rfl (by kernel_rfl) (fun _ _ _ h => h) (by rfl) hHeld (by intro w s; (try dsimp only at s); go_simp; (try with_reducible rfl)) ?_; (try simp only [Act.put, List.setIfInBounds_toArray, List.set_cons_zero, List.set_cons_succ]))
  (refine tk 7 ⟨_, _, _, _, _, _⟩ rfl (by kernel_rfl) (fun _ _ _ h => h) (by rfl) hHeld (by intro w s; (try dsimp only at s); go_simp; (try with_reducible rfl)) ?_; (try simp only [Act.put, List.setIfInBounds_toArray, List.set_cons_zero, List.set_cons_succ]))
  (refine tk 8 ⟨_, _, _, _, _, _⟩ rfl (by kernel_rfl) (fun _ _ _ h => h) (by rfl) hHeld (by intro w s; (try dsimp only at s); go_simp; (try with_reducible rfl)) ?_; (try simp only [Act.put, List.setIfInBounds_toArray, List.set_cons_zero, List.set_cons_succ]))
  (refine tk 9 ⟨_, _, _, _, _, _⟩ rfl (by kernel_rfl) (fun _ _ _ h => h) (by rfl) hHeld (by intro w s; (try dsimp only at s); go_simp; (try with_reducible rfl)) ?_; (try simp only [Act.put, List.setIfInBounds_toArray, List.set_cons_zero, List.set_cons_succ]))
  refine wpAnyH_done (by kernel_rfl) ?_ _
  go_wp2_with fail
  go_ret
  exact ⟨rfl, by repeat (first | with_reducible apply Below.refl | (with_reducible apply Below.setCell; rotate_left; focus (first | omega | (simp; done) | (simp; omega))) | (with_reducible apply Below.alloc; rotate_left; focus (first | omega | (simp; done) | (simp; omega))) | with_reducible apply Below.drew | with_reducible apply belowDrewN | (with_reducible apply Below.trans; rotate_left; with_reducible apply Below.mono; with_reducible assumption; focus (first | omega | (simp; done) | (simp; omega))))⟩

set_option maxHeartbeats 4000000 in
theorem hBounce (cb : Nat) (V : Nat → Int) (G : Nat → Nat) (w : World) (h : HRows w cb V G) :
    Calls Try.prog 44 #[hdl cb] w fun e w' => e = .returned (.int .i64 (V 9)) ∧ Below w.heap.size w w' := by
  have hset := cset_map
  have l1 := h.cbl
  obtain ⟨⟨c9, hc9⟩, hv9, _⟩ := h.col 9 (by omega)
  have l9g := h.gl 9 (by omega)
  generalize G 9 = g9 at hc9 hv9 l9g
  clear h
  go_enter Try.func44, Try.ntmps44
  go_upto_region 1 with fail
  refine wp_region_held_drew (S := fun w' => w'.cell? ⟨w.heap.size, 0, none⟩ = some (.int .i64 0) ∧ w'.cell? ⟨w.heap.size, 1, none⟩ = some (.pointer (some ⟨cb, 0, none⟩)) ∧ w'.cell? ⟨cb, 9, none⟩ = some (.slice (some ⟨g9, 0, none⟩) 1 c9) ∧ w'.cell? ⟨g9, 0, none⟩ = some (.int .i64 (V 9))) (by kernel_rfl) ?_ (fun hHeld => ?_)
  · (try dsimp only)
    (first | (go_simp; done) | (go_keep; done))
  (refine tk 0 ⟨_, _, _, _, _, _⟩ rfl (by kernel_rfl) (fun _ _ _ h => h) (by rfl) hHeld (by intro w s; (try dsimp only at s); go_simp; (try with_reducible rfl)) ?_; (try simp only [Act.put, List.setIfInBounds_toArray, List.set_cons_zero, List.set_cons_succ]))
  (refine tk 1 ⟨_, _, _, _, _, _⟩ rfl (by kernel_rfl) (fun _ _ _ h => h) (by rfl) hHeld (by intro w s; (try dsimp only at s); go_simp; (try with_reducible rfl)) ?_; (try simp only [Act.put, List.setIfInBounds_toArray, List.set_cons_zero, List.set_cons_succ]))
  (refine tk 2 ⟨_, _, _, _, _, _⟩ rfl (by kernel_rfl) (fun _ _ _ h => h) (by rfl) hHeld (by intro w s; (try dsimp only at s); go_simp; (try with_reducible rfl)) ?_; (try simp only [Act.put, List.setIfInBounds_toArray, List.set_cons_zero, List.set_cons_succ]))
  (refine tk 3 ⟨_, _, _, _, _, _⟩ rfl (by kernel_rfl) (fun _ _ _ h => h) (by rfl) hHeld (by intro w s; (try dsimp only at s); go_simp; (try with_reducible rfl)) ?_; (try simp only [Act.put, List.setIfInBounds_toArray, List.set_cons_zero, List.set_cons_succ]))
  (refine tk 4 ⟨_, _, _, _, _, _⟩ rfl (by kernel_rfl) (fun _ _ _ h => h) (by rfl) hHeld (by intro w s; (try dsimp only at s); go_simp; (try with_reducible rfl)) ?_; (try simp only [Act.put, List.setIfInBounds_toArray, List.set_cons_zero, List.set_cons_succ]))
  (refine tk 5 ⟨_, _, _, _, _, _⟩ rfl (by kernel_rfl) (fun _ _ _ h => h) (by rfl) hHeld (by intro w s; (try dsimp only at s); go_simp; (try with_reducible rfl)) ?_; (try simp only [Act.put, List.setIfInBounds_toArray, List.set_cons_zero, List.set_cons_succ]))
  (refine tk 6 ⟨_, _, _, _, _, _⟩ rfl (by kernel_rfl) (fun _ _ _ h => h) (by rfl) hHeld (by intro w s; (try dsimp only at s); go_simp; (try with_reducible rfl)) ?_; (try simp only [Act.put, List.setIfInBounds_toArray, List.set_cons_zero, List.set_cons_succ]))
  (refine tk 7 ⟨_, _, _, _, _, _⟩ rfl (by kernel_rfl) (fun _ _ _ h => h) (by rfl) hHeld (by intro w s; (try dsimp only at s); go_simp; (try with_reducible rfl)) ?_; (try simp only [Act.put, List.setIfInBounds_toArray, List.set_cons_zero, List.set_cons_succ]))
  (refine tk 8 ⟨_, _, _, _, _, _⟩ rfl (by kernel_rfl) (fun _ _ _ h => h) (by rfl) hHeld (by intro w s; (try dsimp only at s); go_simp; (try with_reducible rfl)) ?_; (try simp only [Act.put, List.setIfInBounds_toArray, List.set_cons_zero, List.set_cons_succ]))
  (refine tk 9 ⟨_, _, _, _, _, _⟩ rfl (by kernel_rfl) (fun _ _ _ h => h) (by rfl) hHeld (by intro w s; (try dsimp only at s); go_simp; (try with_reducible rfl)) ?_; (try simp only [Act.put, List.setIfInBounds_toArray, List.set_cons_zero, List.set_cons_succ]))
  refine wpAnyH_done (by kernel_rfl) ?_ _
  go_wp2_with fail
  go_ret
  exact ⟨rfl, by repeat (first | with_reducible apply Below.refl | (with_reducible apply Below.setCell; rotate_left; focus (first | omega | (simp; done) | (simp; omega))) | (with_reducible apply Below.alloc; rotate_left; focus (first | omega | (simp; done) | (simp; omega))) | with_reducible apply Below.drew | with_reducible apply belowDrewN | (with_reducible apply Below.trans; rotate_left; with_reducible apply Below.mono; with_reducible assumption; focus (first | omega | (simp; done) | (simp; omega))))⟩

set_option maxHeartbeats 4000000 in
theorem hRub (cb : Nat) (V : Nat → Int) (G : Nat → Nat) (w : World) (h : HRows w cb V G) :
    Calls Try.prog 46 #[hdl cb] w fun e w' => e = .returned (.int .i64 (V 10)) ∧ Below w.heap.size w w' := by
  have hset := cset_map
  have l1 := h.cbl
  obtain ⟨⟨c10, hc10⟩, hv10, _⟩ := h.col 10 (by omega)
  have l10g := h.gl 10 (by omega)
  generalize G 10 = g10 at hc10 hv10 l10g
  clear h
  go_enter Try.func46, Try.ntmps46
  go_upto_region 1 with fail
  refine wp_region_held_drew (S := fun w' => w'.cell? ⟨w.heap.size, 0, none⟩ = some (.int .i64 0) ∧ w'.cell? ⟨w.heap.size, 1, none⟩ = some (.pointer (some ⟨cb, 0, none⟩)) ∧ w'.cell? ⟨cb, 10, none⟩ = some (.slice (some ⟨g10, 0, none⟩) 1 c10) ∧ w'.cell? ⟨g10, 0, none⟩ = some (.int .i64 (V 10))) (by kernel_rfl) ?_ (fun hHeld => ?_)
  · (try dsimp only)
    (first | (go_simp; done) | (go_keep; done))
  (refine tk 0 ⟨_, _, _, _, _, _⟩ rfl (by kernel_rfl) (fun _ _ _ h => h) (by rfl) hHeld (by intro w s; (try dsimp only at s); go_simp; (try with_reducible rfl)) ?_; (try simp only [Act.put, List.setIfInBounds_toArray, List.set_cons_zero, List.set_cons_succ]))
  (refine tk 1 ⟨_, _, _, _, _, _⟩ rfl (by kernel_rfl) (fun _ _ _ h => h) (by rfl) hHeld (by intro w s; (try dsimp only at s); go_simp; (try with_reducible rfl)) ?_; (try simp only [Act.put, List.setIfInBounds_toArray, List.set_cons_zero, List.set_cons_succ]))
  (refine tk 2 ⟨_, _, _, _, _, _⟩ rfl (by kernel_rfl) (fun _ _ _ h => h) (by rfl) hHeld (by intro w s; (try dsimp only at s); go_simp; (try with_reducible rfl)) ?_; (try simp only [Act.put, List.setIfInBounds_toArray, List.set_cons_zero, List.set_cons_succ]))
  (refine tk 3 ⟨_, _, _, _, _, _⟩ rfl (by kernel_rfl) (fun _ _ _ h => h) (by rfl) hHeld (by intro w s; (try dsimp only at s); go_simp; (try with_reducible rfl)) ?_; (try simp only [Act.put, List.setIfInBounds_toArray, List.set_cons_zero, List.set_cons_succ]))
  (refine tk 4 ⟨_, _, _, _, _, _⟩ rfl (by kernel_rfl) (fun _ _ _ h => h) (by rfl) hHeld (by intro w s; (try dsimp only at s); go_simp; (try with_reducible rfl)) ?_; (try simp only [Act.put, List.setIfInBounds_toArray, List.set_cons_zero, List.set_cons_succ]))
  (refine tk 5 ⟨_, _, _, _, _, _⟩ rfl (by kernel_rfl) (fun _ _ _ h => h) (by rfl) hHeld (by intro w s; (try dsimp only at s); go_simp; (try with_reducible rfl)) ?_; (try simp only [Act.put, List.setIfInBounds_toArray, List.set_cons_zero, List.set_cons_succ]))
  (refine tk 6 ⟨_, _, _, _, _, _⟩ rfl (by kernel_rfl) (fun _ _ _ h => h) (by rfl) hHeld (by intro w s; (try dsimp only at s); go_simp; (try with_reducible rfl)) ?_; (try simp only [Act.put, List.setIfInBounds_toArray, List.set_cons_zero, List.set_cons_succ]))
  (refine tk 7 ⟨_, _, _, _, _, _⟩ rfl (by kernel_rfl) (fun _ _ _ h => h) (by rfl) hHeld (by intro w s; (try dsimp only at s); go_simp; (try with_reducible rfl)) ?_; (try simp only [Act.put, List.setIfInBounds_toArray, List.set_cons_zero, List.set_cons_succ]))
  (refine tk 8 ⟨_, _, _, _, _, _⟩ rfl (by kernel_rfl) (fun _ _ _ h => h) (by rfl) hHeld (by intro w s; (try dsimp only at s); go_simp; (try with_reducible rfl)) ?_; (try simp only [Act.put, List.setIfInBounds_toArray, List.set_cons_zero, List.set_cons_succ]))
  (refine tk 9 ⟨_, _, _, _, _, _⟩ rfl (by kernel_rfl) (fun _ _ _ h => h) (by rfl) hHeld (by intro w s; (try dsimp only at s); go_simp; (try with_reducible rfl)) ?_; (try simp only [Act.put, List.setIfInBounds_toArray, List.set_cons_zero, List.set_cons_succ]))
  refine wpAnyH_done (by kernel_rfl) ?_ _
  go_wp2_with fail
  go_ret
  exact ⟨rfl, by repeat (first | with_reducible apply Below.refl | (with_reducible apply Below.setCell; rotate_left; focus (first | omega | (simp; done) | (simp; omega))) | (with_reducible apply Below.alloc; rotate_left; focus (first | omega | (simp; done) | (simp; omega))) | with_reducible apply Below.drew | with_reducible apply belowDrewN | (with_reducible apply Below.trans; rotate_left; with_reducible apply Below.mono; with_reducible assumption; focus (first | omega | (simp; done) | (simp; omega))))⟩

set_option maxHeartbeats 4000000 in
theorem hQuiet (cb : Nat) (V : Nat → Int) (G : Nat → Nat) (w : World) (h : HRows w cb V G) :
    Calls Try.prog 65 #[hdl cb] w fun e w' => e = .returned (.int .i64 (V 11)) ∧ Below w.heap.size w w' := by
  have hset := cset_map
  have l1 := h.cbl
  obtain ⟨⟨c11, hc11⟩, hv11, _⟩ := h.col 11 (by omega)
  have l11g := h.gl 11 (by omega)
  generalize G 11 = g11 at hc11 hv11 l11g
  clear h
  go_enter Try.func65, Try.ntmps65
  go_upto_region 1 with fail
  refine wp_region_held_drew (S := fun w' => w'.cell? ⟨w.heap.size, 0, none⟩ = some (.int .i64 0) ∧ w'.cell? ⟨w.heap.size, 1, none⟩ = some (.pointer (some ⟨cb, 0, none⟩)) ∧ w'.cell? ⟨cb, 11, none⟩ = some (.slice (some ⟨g11, 0, none⟩) 1 c11) ∧ w'.cell? ⟨g11, 0, none⟩ = some (.int .i64 (V 11))) (by kernel_rfl) ?_ (fun hHeld => ?_)
  · (try dsimp only)
    (first | (go_simp; done) | (go_keep; done))
  (refine tk 0 ⟨_, _, _, _, _, _⟩ rfl (by kernel_rfl) (fun _ _ _ h => h) (by rfl) hHeld (by intro w s; (try dsimp only at s); go_simp; (try with_reducible rfl)) ?_; (try simp only [Act.put, List.setIfInBounds_toArray, List.set_cons_zero, List.set_cons_succ]))
  (refine tk 1 ⟨_, _, _, _, _, _⟩ rfl (by kernel_rfl) (fun _ _ _ h => h) (by rfl) hHeld (by intro w s; (try dsimp only at s); go_simp; (try with_reducible rfl)) ?_; (try simp only [Act.put, List.setIfInBounds_toArray, List.set_cons_zero, List.set_cons_succ]))
  (refine tk 2 ⟨_, _, _, _, _, _⟩ rfl (by kernel_rfl) (fun _ _ _ h => h) (by rfl) hHeld (by intro w s; (try dsimp only at s); go_simp; (try with_reducible rfl)) ?_; (try simp only [Act.put, List.setIfInBounds_toArray, List.set_cons_zero, List.set_cons_succ]))
  (refine tk 3 ⟨_, _, _, _, _, _⟩ rfl (by kernel_rfl) (fun _ _ _ h => h) (by rfl) hHeld (by intro w s; (try dsimp only at s); go_simp; (try with_reducible rfl)) ?_; (try simp only [Act.put, List.setIfInBounds_toArray, List.set_cons_zero, List.set_cons_succ]))
  (refine tk 4 ⟨_, _, _, _, _, _⟩ rfl (by kernel_rfl) (fun _ _ _ h => h) (by rfl) hHeld (by intro w s; (try dsimp only at s); go_simp; (try with_reducible rfl)) ?_; (try simp only [Act.put, List.setIfInBounds_toArray, List.set_cons_zero, List.set_cons_succ]))
  (refine tk 5 ⟨_, _, _, _, _, _⟩ rfl (by kernel_rfl) (fun _ _ _ h => h) (by rfl) hHeld (by intro w s; (try dsimp only at s); go_simp; (try with_reducible rfl)) ?_; (try simp only [Act.put, List.setIfInBounds_toArray, List.set_cons_zero, List.set_cons_succ]))
  (refine tk 6 ⟨_, _, _, _, _, _⟩ rfl (by kernel_rfl) (fun _ _ _ h => h) (by rfl) hHeld (by intro w s; (try dsimp only at s); go_simp; (try with_reducible rfl)) ?_; (try simp only [Act.put, List.setIfInBounds_toArray, List.set_cons_zero, List.set_cons_succ]))
  (refine tk 7 ⟨_, _, _, _, _, _⟩ rfl (by kernel_rfl) (fun _ _ _ h => h) (by rfl) hHeld (by intro w s; (try dsimp only at s); go_simp; (try with_reducible rfl)) ?_; (try simp only [Act.put, List.setIfInBounds_toArray, List.set_cons_zero, List.set_cons_succ]))
  (refine tk 8 ⟨_, _, _, _, _, _⟩ rfl (by kernel_rfl) (fun _ _ _ h => h) (by rfl) hHeld (by intro w s; (try dsimp only at s); go_simp; (try with_reducible rfl)) ?_; (try simp only [Act.put, List.setIfInBounds_toArray, List.set_cons_zero, List.set_cons_succ]))
  (refine tk 9 ⟨_, _, _, _, _, _⟩ rfl (by kernel_rfl) (fun _ _ _ h => h) (by rfl) hHeld (by intro w s; (try dsimp only at s); go_simp; (try with_reducible rfl)) ?_; (try simp only [Act.put, List.setIfInBounds_toArray, List.set_cons_zero, List.set_cons_succ]))
  refine wpAnyH_done (by kernel_rfl) ?_ _
  go_wp2_with fail
  go_ret
  exact ⟨rfl, by repeat (first | with_reducible apply Below.refl | (with_reducible apply Below.setCell; rotate_left; focus (first | omega | (simp; done) | (simp; omega))) | (with_reducible apply Below.alloc; rotate_left; focus (first | omega | (simp; done) | (simp; omega))) | with_reducible apply Below.drew | with_reducible apply belowDrewN | (with_reducible apply Below.trans; rotate_left; with_reducible apply Below.mono; with_reducible assumption; focus (first | omega | (simp; done) | (simp; omega))))⟩

set_option maxHeartbeats 4000000 in
theorem hAt (cb : Nat) (V : Nat → Int) (G : Nat → Nat) (w : World) (h : HRows w cb V G) :
    Calls Try.prog 63 #[hdl cb] w fun e w' => e = .returned (vv (V 4) (V 5)) ∧ Below w.heap.size w w' := by
  have hset := cset_map
  have l1 := h.cbl
  obtain ⟨⟨c4, hc4⟩, hv4, _⟩ := h.col 4 (by omega)
  have l4g := h.gl 4 (by omega)
  generalize G 4 = g4 at hc4 hv4 l4g
  obtain ⟨⟨c5, hc5⟩, hv5, _⟩ := h.col 5 (by omega)
  have l5g := h.gl 5 (by omega)
  generalize G 5 = g5 at hc5 hv5 l5g
  clear h
  go_enter Try.func63, Try.ntmps63
  go_upto_region 1 with fail
  refine wp_region_held_drew (S := fun w' => w'.cell? ⟨w.heap.size, 0, none⟩ = some (.int .i64 0) ∧ w'.cell? ⟨w.heap.size, 1, none⟩ = some (.pointer (some ⟨cb, 0, none⟩)) ∧ w'.cell? ⟨cb, 4, none⟩ = some (.slice (some ⟨g4, 0, none⟩) 1 c4) ∧ w'.cell? ⟨g4, 0, none⟩ = some (.int .i64 (V 4)) ∧ w'.cell? ⟨cb, 5, none⟩ = some (.slice (some ⟨g5, 0, none⟩) 1 c5) ∧ w'.cell? ⟨g5, 0, none⟩ = some (.int .i64 (V 5))) (by kernel_rfl) ?_ (fun hHeld => ?_)
  · (try dsimp only)
    (first | (go_simp; done) | (go_keep; done))
  (refine tk 0 ⟨_, _, _, _, _, _⟩ rfl (by kernel_rfl) (fun _ _ _ h => h) (by rfl) hHeld (by intro w s; (try dsimp only at s); go_simp; (try with_reducible rfl)) ?_; (try simp only [Act.put, List.setIfInBounds_toArray, List.set_cons_zero, List.set_cons_succ]))
  (refine tk 1 ⟨_, _, _, _, _, _⟩ rfl (by kernel_rfl) (fun _ _ _ h => h) (by rfl) hHeld (by intro w s; (try dsimp only at s); go_simp; (try with_reducible rfl)) ?_; (try simp only [Act.put, List.setIfInBounds_toArray, List.set_cons_zero, List.set_cons_succ]))
  (refine tk 2 ⟨_, _, _, _, _, _⟩ rfl (by kernel_rfl) (fun _ _ _ h => h) (by rfl) hHeld (by intro w s; (try dsimp only at s); go_simp; (try with_reducible rfl)) ?_; (try simp only [Act.put, List.setIfInBounds_toArray, List.set_cons_zero, List.set_cons_succ]))
  (refine tk 3 ⟨_, _, _, _, _, _⟩ rfl (by kernel_rfl) (fun _ _ _ h => h) (by rfl) hHeld (by intro w s; (try dsimp only at s); go_simp; (try with_reducible rfl)) ?_; (try simp only [Act.put, List.setIfInBounds_toArray, List.set_cons_zero, List.set_cons_succ]))
  (refine tk 4 ⟨_, _, _, _, _, _⟩ rfl (by kernel_rfl) (fun _ _ _ h => h) (by rfl) hHeld (by intro w s; (try dsimp only at s); go_simp; (try with_reducible rfl)) ?_; (try simp only [Act.put, List.setIfInBounds_toArray, List.set_cons_zero, List.set_cons_succ]))
  (refine tk 5 ⟨_, _, _, _, _, _⟩ rfl (by kernel_rfl) (fun _ _ _ h => h) (by rfl) hHeld (by intro w s; (try dsimp only at s); go_simp; (try with_reducible rfl)) ?_; (try simp only [Act.put, List.setIfInBounds_toArray, List.set_cons_zero, List.set_cons_succ]))
  (refine tk 6 ⟨_, _, _, _, _, _⟩ rfl (by kernel_rfl) (fun _ _ _ h => h) (by rfl) hHeld (by intro w s; (try dsimp only at s); go_simp; (try with_reducible rfl)) ?_; (try simp only [Act.put, List.setIfInBounds_toArray, List.set_cons_zero, List.set_cons_succ]))
  (refine tk 7 ⟨_, _, _, _, _, _⟩ rfl (by kernel_rfl) (fun _ _ _ h => h) (by rfl) hHeld (by intro w s; (try dsimp only at s); go_simp; (try with_reducible rfl)) ?_; (try simp only [Act.put, List.setIfInBounds_toArray, List.set_cons_zero, List.set_cons_succ]))
  (refine tk 8 ⟨_, _, _, _, _, _⟩ rfl (by kernel_rfl) (fun _ _ _ h => h) (by rfl) hHeld (by intro w s; (try dsimp only at s); go_simp; (try with_reducible rfl)) ?_; (try simp only [Act.put, List.setIfInBounds_toArray, List.set_cons_zero, List.set_cons_succ]))
  (refine tk 9 ⟨_, _, _, _, _, _⟩ rfl (by kernel_rfl) (fun _ _ _ h => h) (by rfl) hHeld (by intro w s; (try dsimp only at s); go_simp; (try with_reducible rfl)) ?_; (try simp only [Act.put, List.setIfInBounds_toArray, List.set_cons_zero, List.set_cons_succ]))
  (refine tk 10 ⟨_, _, _, _, _, _⟩ rfl (by kernel_rfl) (fun _ _ _ h => h) (by rfl) hHeld (by intro w s; (try dsimp only at s); go_simp; (try with_reducible rfl)) ?_; (try simp only [Act.put, List.setIfInBounds_toArray, List.set_cons_zero, List.set_cons_succ]))
  (refine tk 11 ⟨_, _, _, _, _, _⟩ rfl (by kernel_rfl) (fun _ _ _ h => h) (by rfl) hHeld (by intro w s; (try dsimp only at s); go_simp; (try with_reducible rfl)) ?_; (try simp only [Act.put, List.setIfInBounds_toArray, List.set_cons_zero, List.set_cons_succ]))
  (refine tk 12 ⟨_, _, _, _, _, _⟩ rfl (by kernel_rfl) (fun _ _ _ h => h) (by rfl) hHeld (by intro w s; (try dsimp only at s); go_simp; (try with_reducible rfl)) ?_; (try simp only [Act.put, List.setIfInBounds_toArray, List.set_cons_zero, List.set_cons_succ]))
  (refine tk 13 ⟨_, _, _, _, _, _⟩ rfl (by kernel_rfl) (fun _ _ _ h => h) (by rfl) hHeld (by intro w s; (try dsimp only at s); go_simp; (try with_reducible rfl)) ?_; (try simp only [Act.put, List.setIfInBounds_toArray, List.set_cons_zero, List.set_cons_succ]))
  (refine tk 14 ⟨_, _, _, _, _, _⟩ rfl (by kernel_rfl) (fun _ _ _ h => h) (by rfl) hHeld (by intro w s; (try dsimp only at s); go_simp; (try with_reducible rfl)) ?_; (try simp only [Act.put, List.setIfInBounds_toArray, List.set_cons_zero, List.set_cons_succ]))
  (refine tk 15 ⟨_, _, _, _, _, _⟩ rfl (by kernel_rfl) (fun _ _ _ h => h) (by rfl) hHeld (by intro w s; (try dsimp only at s); go_simp; (try with_reducible rfl)) ?_; (try simp only [Act.put, List.setIfInBounds_toArray, List.set_cons_zero, List.set_cons_succ]))
  (refine tk 16 ⟨_, _, _, _, _, _⟩ rfl (by kernel_rfl) (fun _ _ _ h => h) (by rfl) hHeld (by intro w s; (try dsimp only at s); go_simp; (try with_reducible rfl)) ?_; (try simp only [Act.put, List.setIfInBounds_toArray, List.set_cons_zero, List.set_cons_succ]))
  (refine tk 17 ⟨_, _, _, _, _, _⟩ rfl (by kernel_rfl) (fun _ _ _ h => h) (by rfl) hHeld (by intro w s; (try dsimp only at s); go_simp; (try with_reducible rfl)) ?_; (try simp only [Act.put, List.setIfInBounds_toArray, List.set_cons_zero, List.set_cons_succ]))
  (refine tk 18 ⟨_, _, _, _, _, _⟩ rfl (by kernel_rfl) (fun _ _ _ h => h) (by rfl) hHeld (by intro w s; (try dsimp only at s); go_simp; (try with_reducible rfl)) ?_; (try simp only [Act.put, List.setIfInBounds_toArray, List.set_cons_zero, List.set_cons_succ]))
  (refine wpAnyH_ready (rs := [19]) (by kernel_rfl) (by simp) ?_; refine AllReadyH.cons (o := ⟨_, _, _, _, _, _⟩) rfl (fun K hK => ?_) AllReadyH.nil; go_simp; refine hK.out _ _ ?_ (fun hHeld => ?_); (focus ((try dsimp only); (first | (go_simp; done) | (go_keep; done)))); clear hK K; (try simp only [Act.put, List.setIfInBounds_toArray, List.set_cons_zero, List.set_cons_succ]))
  refine wpAnyH_done (by kernel_rfl) ?_ _
  go_wp2_with fail
  exact bodyPost_ret (v := vv (V 4) (V 5)) (by simp [results, Try.results63, go_sem, *]) rfl ⟨rfl, by repeat (first | with_reducible apply Below.refl | (with_reducible apply Below.setCell; rotate_left; focus (first | omega | (simp; done) | (simp; omega))) | (with_reducible apply Below.alloc; rotate_left; focus (first | omega | (simp; done) | (simp; omega))) | with_reducible apply Below.drew | with_reducible apply belowDrewN | (with_reducible apply Below.trans; rotate_left; with_reducible apply Below.mono; with_reducible assumption; focus (first | omega | (simp; done) | (simp; omega))))⟩

set_option maxHeartbeats 4000000 in
theorem hDrive (cb : Nat) (V : Nat → Int) (G : Nat → Nat) (w : World) (h : HRows w cb V G) :
    Calls Try.prog 59 #[hdl cb] w fun e w' => e = .returned (vv (V 6) (V 7)) ∧ Below w.heap.size w w' := by
  have hset := cset_map
  have l1 := h.cbl
  obtain ⟨⟨c6, hc6⟩, hv6, _⟩ := h.col 6 (by omega)
  have l6g := h.gl 6 (by omega)
  generalize G 6 = g6 at hc6 hv6 l6g
  obtain ⟨⟨c7, hc7⟩, hv7, _⟩ := h.col 7 (by omega)
  have l7g := h.gl 7 (by omega)
  generalize G 7 = g7 at hc7 hv7 l7g
  clear h
  go_enter Try.func59, Try.ntmps59
  go_upto_region 1 with fail
  refine wp_region_held_drew (S := fun w' => w'.cell? ⟨w.heap.size, 0, none⟩ = some (.int .i64 0) ∧ w'.cell? ⟨w.heap.size, 1, none⟩ = some (.pointer (some ⟨cb, 0, none⟩)) ∧ w'.cell? ⟨cb, 6, none⟩ = some (.slice (some ⟨g6, 0, none⟩) 1 c6) ∧ w'.cell? ⟨g6, 0, none⟩ = some (.int .i64 (V 6)) ∧ w'.cell? ⟨cb, 7, none⟩ = some (.slice (some ⟨g7, 0, none⟩) 1 c7) ∧ w'.cell? ⟨g7, 0, none⟩ = some (.int .i64 (V 7))) (by kernel_rfl) ?_ (fun hHeld => ?_)
  · (try dsimp only)
    (first | (go_simp; done) | (go_keep; done))
  (refine tk 0 ⟨_, _, _, _, _, _⟩ rfl (by kernel_rfl) (fun _ _ _ h => h) (by rfl) hHeld (by intro w s; (try dsimp only at s); go_simp; (try with_reducible rfl)) ?_; (try simp only [Act.put, List.setIfInBounds_toArray, List.set_cons_zero, List.set_cons_succ]))
  (refine tk 1 ⟨_, _, _, _, _, _⟩ rfl (by kernel_rfl) (fun _ _ _ h => h) (by rfl) hHeld (by intro w s; (try dsimp only at s); go_simp; (try with_reducible rfl)) ?_; (try simp only [Act.put, List.setIfInBounds_toArray, List.set_cons_zero, List.set_cons_succ]))
  (refine tk 2 ⟨_, _, _, _, _, _⟩ rfl (by kernel_rfl) (fun _ _ _ h => h) (by rfl) hHeld (by intro w s; (try dsimp only at s); go_simp; (try with_reducible rfl)) ?_; (try simp only [Act.put, List.setIfInBounds_toArray, List.set_cons_zero, List.set_cons_succ]))
  (refine tk 3 ⟨_, _, _, _, _, _⟩ rfl (by kernel_rfl) (fun _ _ _ h => h) (by rfl) hHeld (by intro w s; (try dsimp only at s); go_simp; (try with_reducible rfl)) ?_; (try simp only [Act.put, List.setIfInBounds_toArray, List.set_cons_zero, List.set_cons_succ]))
  (refine tk 4 ⟨_, _, _, _, _, _⟩ rfl (by kernel_rfl) (fun _ _ _ h => h) (by rfl) hHeld (by intro w s; (try dsimp only at s); go_simp; (try with_reducible rfl)) ?_; (try simp only [Act.put, List.setIfInBounds_toArray, List.set_cons_zero, List.set_cons_succ]))
  (refine tk 5 ⟨_, _, _, _, _, _⟩ rfl (by kernel_rfl) (fun _ _ _ h => h) (by rfl) hHeld (by intro w s; (try dsimp only at s); go_simp; (try with_reducible rfl)) ?_; (try simp only [Act.put, List.setIfInBounds_toArray, List.set_cons_zero, List.set_cons_succ]))
  (refine tk 6 ⟨_, _, _, _, _, _⟩ rfl (by kernel_rfl) (fun _ _ _ h => h) (by rfl) hHeld (by intro w s; (try dsimp only at s); go_simp; (try with_reducible rfl)) ?_; (try simp only [Act.put, List.setIfInBounds_toArray, List.set_cons_zero, List.set_cons_succ]))
  (refine tk 7 ⟨_, _, _, _, _, _⟩ rfl (by kernel_rfl) (fun _ _ _ h => h) (by rfl) hHeld (by intro w s; (try dsimp only at s); go_simp; (try with_reducible rfl)) ?_; (try simp only [Act.put, List.setIfInBounds_toArray, List.set_cons_zero, List.set_cons_succ]))
  (refine tk 8 ⟨_, _, _, _, _, _⟩ rfl (by kernel_rfl) (fun _ _ _ h => h) (by rfl) hHeld (by intro w s; (try dsimp only at s); go_simp; (try with_reducible rfl)) ?_; (try simp only [Act.put, List.setIfInBounds_toArray, List.set_cons_zero, List.set_cons_succ]))
  (refine tk 9 ⟨_, _, _, _, _, _⟩ rfl (by kernel_rfl) (fun _ _ _ h => h) (by rfl) hHeld (by intro w s; (try dsimp only at s); go_simp; (try with_reducible rfl)) ?_; (try simp only [Act.put, List.setIfInBounds_toArray, List.set_cons_zero, List.set_cons_succ]))
  (refine tk 10 ⟨_, _, _, _, _, _⟩ rfl (by kernel_rfl) (fun _ _ _ h => h) (by rfl) hHeld (by intro w s; (try dsimp only at s); go_simp; (try with_reducible rfl)) ?_; (try simp only [Act.put, List.setIfInBounds_toArray, List.set_cons_zero, List.set_cons_succ]))
  (refine tk 11 ⟨_, _, _, _, _, _⟩ rfl (by kernel_rfl) (fun _ _ _ h => h) (by rfl) hHeld (by intro w s; (try dsimp only at s); go_simp; (try with_reducible rfl)) ?_; (try simp only [Act.put, List.setIfInBounds_toArray, List.set_cons_zero, List.set_cons_succ]))
  (refine tk 12 ⟨_, _, _, _, _, _⟩ rfl (by kernel_rfl) (fun _ _ _ h => h) (by rfl) hHeld (by intro w s; (try dsimp only at s); go_simp; (try with_reducible rfl)) ?_; (try simp only [Act.put, List.setIfInBounds_toArray, List.set_cons_zero, List.set_cons_succ]))
  (refine tk 13 ⟨_, _, _, _, _, _⟩ rfl (by kernel_rfl) (fun _ _ _ h => h) (by rfl) hHeld (by intro w s; (try dsimp only at s); go_simp; (try with_reducible rfl)) ?_; (try simp only [Act.put, List.setIfInBounds_toArray, List.set_cons_zero, List.set_cons_succ]))
  (refine tk 14 ⟨_, _, _, _, _, _⟩ rfl (by kernel_rfl) (fun _ _ _ h => h) (by rfl) hHeld (by intro w s; (try dsimp only at s); go_simp; (try with_reducible rfl)) ?_; (try simp only [Act.put, List.setIfInBounds_toArray, List.set_cons_zero, List.set_cons_succ]))
  (refine tk 15 ⟨_, _, _, _, _, _⟩ rfl (by kernel_rfl) (fun _ _ _ h => h) (by rfl) hHeld (by intro w s; (try dsimp only at s); go_simp; (try with_reducible rfl)) ?_; (try simp only [Act.put, List.setIfInBounds_toArray, List.set_cons_zero, List.set_cons_succ]))
  (refine tk 16 ⟨_, _, _, _, _, _⟩ rfl (by kernel_rfl) (fun _ _ _ h => h) (by rfl) hHeld (by intro w s; (try dsimp only at s); go_simp; (try with_reducible rfl)) ?_; (try simp only [Act.put, List.setIfInBounds_toArray, List.set_cons_zero, List.set_cons_succ]))
  (refine tk 17 ⟨_, _, _, _, _, _⟩ rfl (by kernel_rfl) (fun _ _ _ h => h) (by rfl) hHeld (by intro w s; (try dsimp only at s); go_simp; (try with_reducible rfl)) ?_; (try simp only [Act.put, List.setIfInBounds_toArray, List.set_cons_zero, List.set_cons_succ]))
  (refine tk 18 ⟨_, _, _, _, _, _⟩ rfl (by kernel_rfl) (fun _ _ _ h => h) (by rfl) hHeld (by intro w s; (try dsimp only at s); go_simp; (try with_reducible rfl)) ?_; (try simp only [Act.put, List.setIfInBounds_toArray, List.set_cons_zero, List.set_cons_succ]))
  (refine wpAnyH_ready (rs := [19]) (by kernel_rfl) (by simp) ?_; refine AllReadyH.cons (o := ⟨_, _, _, _, _, _⟩) rfl (fun K hK => ?_) AllReadyH.nil; go_simp; refine hK.out _ _ ?_ (fun hHeld => ?_); (focus ((try dsimp only); (first | (go_simp; done) | (go_keep; done)))); clear hK K; (try simp only [Act.put, List.setIfInBounds_toArray, List.set_cons_zero, List.set_cons_succ]))
  refine wpAnyH_done (by kernel_rfl) ?_ _
  go_wp2_with fail
  exact bodyPost_ret (v := vv (V 6) (V 7)) (by simp [results, Try.results59, go_sem, *]) rfl ⟨rfl, by repeat (first | with_reducible apply Below.refl | (with_reducible apply Below.setCell; rotate_left; focus (first | omega | (simp; done) | (simp; omega))) | (with_reducible apply Below.alloc; rotate_left; focus (first | omega | (simp; done) | (simp; omega))) | with_reducible apply Below.drew | with_reducible apply belowDrewN | (with_reducible apply Below.trans; rotate_left; with_reducible apply Below.mono; with_reducible assumption; focus (first | omega | (simp; done) | (simp; omega))))⟩

set_option maxHeartbeats 4000000 in
theorem hShape (cb : Nat) (V : Nat → Int) (G : Nat → Nat) (w : World) (h : HRows w cb V G) :
    Calls Try.prog 62 #[hdl cb] w fun e w' => e = .returned (s3 (V 1) (V 2) (V 3)) ∧ Below w.heap.size w w' := by
  have hset := cset_map
  have l1 := h.cbl
  obtain ⟨⟨c1, hc1⟩, hv1, _⟩ := h.col 1 (by omega)
  have l1g := h.gl 1 (by omega)
  generalize G 1 = g1 at hc1 hv1 l1g
  obtain ⟨⟨c2, hc2⟩, hv2, _⟩ := h.col 2 (by omega)
  have l2g := h.gl 2 (by omega)
  generalize G 2 = g2 at hc2 hv2 l2g
  obtain ⟨⟨c3, hc3⟩, hv3, _⟩ := h.col 3 (by omega)
  have l3g := h.gl 3 (by omega)
  generalize G 3 = g3 at hc3 hv3 l3g
  clear h
  go_enter Try.func62, Try.ntmps62
  go_upto_region 1 with fail
  refine wp_region_held_drew (S := fun w' => w'.cell? ⟨w.heap.size, 0, none⟩ = some (.int .i64 0) ∧ w'.cell? ⟨w.heap.size, 1, none⟩ = some (.pointer (some ⟨cb, 0, none⟩)) ∧ w'.cell? ⟨cb, 1, none⟩ = some (.slice (some ⟨g1, 0, none⟩) 1 c1) ∧ w'.cell? ⟨g1, 0, none⟩ = some (.int .i64 (V 1)) ∧ w'.cell? ⟨cb, 2, none⟩ = some (.slice (some ⟨g2, 0, none⟩) 1 c2) ∧ w'.cell? ⟨g2, 0, none⟩ = some (.int .i64 (V 2)) ∧ w'.cell? ⟨cb, 3, none⟩ = some (.slice (some ⟨g3, 0, none⟩) 1 c3) ∧ w'.cell? ⟨g3, 0, none⟩ = some (.int .i64 (V 3))) (by kernel_rfl) ?_ (fun hHeld => ?_)
  · (try dsimp only)
    (first | (go_simp; done) | (go_keep; done))
  (refine tk 0 ⟨_, _, _, _, _, _⟩ rfl (by kernel_rfl) (fun _ _ _ h => h) (by rfl) hHeld (by intro w s; (try dsimp only at s); go_simp; (try with_reducible rfl)) ?_; (try simp only [Act.put, List.setIfInBounds_toArray, List.set_cons_zero, List.set_cons_succ]))
  (refine tk 1 ⟨_, _, _, _, _, _⟩ rfl (by kernel_rfl) (fun _ _ _ h => h) (by rfl) hHeld (by intro w s; (try dsimp only at s); go_simp; (try with_reducible rfl)) ?_; (try simp only [Act.put, List.setIfInBounds_toArray, List.set_cons_zero, List.set_cons_succ]))
  (refine tk 2 ⟨_, _, _, _, _, _⟩ rfl (by kernel_rfl) (fun _ _ _ h => h) (by rfl) hHeld (by intro w s; (try dsimp only at s); go_simp; (try with_reducible rfl)) ?_; (try simp only [Act.put, List.setIfInBounds_toArray, List.set_cons_zero, List.set_cons_succ]))
  (refine tk 3 ⟨_, _, _, _, _, _⟩ rfl (by kernel_rfl) (fun _ _ _ h => h) (by rfl) hHeld (by intro w s; (try dsimp only at s); go_simp; (try with_reducible rfl)) ?_; (try simp only [Act.put, List.setIfInBounds_toArray, List.set_cons_zero, List.set_cons_succ]))
  (refine tk 4 ⟨_, _, _, _, _, _⟩ rfl (by kernel_rfl) (fun _ _ _ h => h) (by rfl) hHeld (by intro w s; (try dsimp only at s); go_simp; (try with_reducible rfl)) ?_; (try simp only [Act.put, List.setIfInBounds_toArray, List.set_cons_zero, List.set_cons_succ]))
  (refine tk 5 ⟨_, _, _, _, _, _⟩ rfl (by kernel_rfl) (fun _ _ _ h => h) (by rfl) hHeld (by intro w s; (try dsimp only at s); go_simp; (try with_reducible rfl)) ?_; (try simp only [Act.put, List.setIfInBounds_toArray, List.set_cons_zero, List.set_cons_succ]))
  (refine tk 6 ⟨_, _, _, _, _, _⟩ rfl (by kernel_rfl) (fun _ _ _ h => h) (by rfl) hHeld (by intro w s; (try dsimp only at s); go_simp; (try with_reducible rfl)) ?_; (try simp only [Act.put, List.setIfInBounds_toArray, List.set_cons_zero, List.set_cons_succ]))
  (refine tk 7 ⟨_, _, _, _, _, _⟩ rfl (by kernel_rfl) (fun _ _ _ h => h) (by rfl) hHeld (by intro w s; (try dsimp only at s); go_simp; (try with_reducible rfl)) ?_; (try simp only [Act.put, List.setIfInBounds_toArray, List.set_cons_zero, List.set_cons_succ]))
  (refine tk 8 ⟨_, _, _, _, _, _⟩ rfl (by kernel_rfl) (fun _ _ _ h => h) (by rfl) hHeld (by intro w s; (try dsimp only at s); go_simp; (try with_reducible rfl)) ?_; (try simp only [Act.put, List.setIfInBounds_toArray, List.set_cons_zero, List.set_cons_succ]))
  (refine tk 9 ⟨_, _, _, _, _, _⟩ rfl (by kernel_rfl) (fun _ _ _ h => h) (by rfl) hHeld (by intro w s; (try dsimp only at s); go_simp; (try with_reducible rfl)) ?_; (try simp only [Act.put, List.setIfInBounds_toArray, List.set_cons_zero, List.set_cons_succ]))
  (refine tk 10 ⟨_, _, _, _, _, _⟩ rfl (by kernel_rfl) (fun _ _ _ h => h) (by rfl) hHeld (by intro w s; (try dsimp only at s); go_simp; (try with_reducible rfl)) ?_; (try simp only [Act.put, List.setIfInBounds_toArray, List.set_cons_zero, List.set_cons_succ]))
  (refine tk 11 ⟨_, _, _, _, _, _⟩ rfl (by kernel_rfl) (fun _ _ _ h => h) (by rfl) hHeld (by intro w s; (try dsimp only at s); go_simp; (try with_reducible rfl)) ?_; (try simp only [Act.put, List.setIfInBounds_toArray, List.set_cons_zero, List.set_cons_succ]))
  (refine tk 12 ⟨_, _, _, _, _, _⟩ rfl (by kernel_rfl) (fun _ _ _ h => h) (by rfl) hHeld (by intro w s; (try dsimp only at s); go_simp; (try with_reducible rfl)) ?_; (try simp only [Act.put, List.setIfInBounds_toArray, List.set_cons_zero, List.set_cons_succ]))
  (refine tk 13 ⟨_, _, _, _, _, _⟩ rfl (by kernel_rfl) (fun _ _ _ h => h) (by rfl) hHeld (by intro w s; (try dsimp only at s); go_simp; (try with_reducible rfl)) ?_; (try simp only [Act.put, List.setIfInBounds_toArray, List.set_cons_zero, List.set_cons_succ]))
  (refine tk 14 ⟨_, _, _, _, _, _⟩ rfl (by kernel_rfl) (fun _ _ _ h => h) (by rfl) hHeld (by intro w s; (try dsimp only at s); go_simp; (try with_reducible rfl)) ?_; (try simp only [Act.put, List.setIfInBounds_toArray, List.set_cons_zero, List.set_cons_succ]))
  (refine tk 15 ⟨_, _, _, _, _, _⟩ rfl (by kernel_rfl) (fun _ _ _ h => h) (by rfl) hHeld (by intro w s; (try dsimp only at s); go_simp; (try with_reducible rfl)) ?_; (try simp only [Act.put, List.setIfInBounds_toArray, List.set_cons_zero, List.set_cons_succ]))
  (refine tk 16 ⟨_, _, _, _, _, _⟩ rfl (by kernel_rfl) (fun _ _ _ h => h) (by rfl) hHeld (by intro w s; (try dsimp only at s); go_simp; (try with_reducible rfl)) ?_; (try simp only [Act.put, List.setIfInBounds_toArray, List.set_cons_zero, List.set_cons_succ]))
  (refine tk 17 ⟨_, _, _, _, _, _⟩ rfl (by kernel_rfl) (fun _ _ _ h => h) (by rfl) hHeld (by intro w s; (try dsimp only at s); go_simp; (try with_reducible rfl)) ?_; (try simp only [Act.put, List.setIfInBounds_toArray, List.set_cons_zero, List.set_cons_succ]))
  (refine tk 18 ⟨_, _, _, _, _, _⟩ rfl (by kernel_rfl) (fun _ _ _ h => h) (by rfl) hHeld (by intro w s; (try dsimp only at s); go_simp; (try with_reducible rfl)) ?_; (try simp only [Act.put, List.setIfInBounds_toArray, List.set_cons_zero, List.set_cons_succ]))
  (refine tk 19 ⟨_, _, _, _, _, _⟩ rfl (by kernel_rfl) (fun _ _ _ h => h) (by rfl) hHeld (by intro w s; (try dsimp only at s); go_simp; (try with_reducible rfl)) ?_; (try simp only [Act.put, List.setIfInBounds_toArray, List.set_cons_zero, List.set_cons_succ]))
  (refine tk 20 ⟨_, _, _, _, _, _⟩ rfl (by kernel_rfl) (fun _ _ _ h => h) (by rfl) hHeld (by intro w s; (try dsimp only at s); go_simp; (try with_reducible rfl)) ?_; (try simp only [Act.put, List.setIfInBounds_toArray, List.set_cons_zero, List.set_cons_succ]))
  (refine tk 21 ⟨_, _, _, _, _, _⟩ rfl (by kernel_rfl) (fun _ _ _ h => h) (by rfl) hHeld (by intro w s; (try dsimp only at s); go_simp; (try with_reducible rfl)) ?_; (try simp only [Act.put, List.setIfInBounds_toArray, List.set_cons_zero, List.set_cons_succ]))
  (refine tk 22 ⟨_, _, _, _, _, _⟩ rfl (by kernel_rfl) (fun _ _ _ h => h) (by rfl) hHeld (by intro w s; (try dsimp only at s); go_simp; (try with_reducible rfl)) ?_; (try simp only [Act.put, List.setIfInBounds_toArray, List.set_cons_zero, List.set_cons_succ]))
  (refine tk 23 ⟨_, _, _, _, _, _⟩ rfl (by kernel_rfl) (fun _ _ _ h => h) (by rfl) hHeld (by intro w s; (try dsimp only at s); go_simp; (try with_reducible rfl)) ?_; (try simp only [Act.put, List.setIfInBounds_toArray, List.set_cons_zero, List.set_cons_succ]))
  (refine tk 24 ⟨_, _, _, _, _, _⟩ rfl (by kernel_rfl) (fun _ _ _ h => h) (by rfl) hHeld (by intro w s; (try dsimp only at s); go_simp; (try with_reducible rfl)) ?_; (try simp only [Act.put, List.setIfInBounds_toArray, List.set_cons_zero, List.set_cons_succ]))
  (refine tk 25 ⟨_, _, _, _, _, _⟩ rfl (by kernel_rfl) (fun _ _ _ h => h) (by rfl) hHeld (by intro w s; (try dsimp only at s); go_simp; (try with_reducible rfl)) ?_; (try simp only [Act.put, List.setIfInBounds_toArray, List.set_cons_zero, List.set_cons_succ]))
  (refine tk 26 ⟨_, _, _, _, _, _⟩ rfl (by kernel_rfl) (fun _ _ _ h => h) (by rfl) hHeld (by intro w s; (try dsimp only at s); go_simp; (try with_reducible rfl)) ?_; (try simp only [Act.put, List.setIfInBounds_toArray, List.set_cons_zero, List.set_cons_succ]))
  (refine tk 27 ⟨_, _, _, _, _, _⟩ rfl (by kernel_rfl) (fun _ _ _ h => h) (by rfl) hHeld (by intro w s; (try dsimp only at s); go_simp; (try with_reducible rfl)) ?_; (try simp only [Act.put, List.setIfInBounds_toArray, List.set_cons_zero, List.set_cons_succ]))
  (refine wpAnyH_ready (rs := [28]) (by kernel_rfl) (by simp) ?_; refine AllReadyH.cons (o := ⟨_, _, _, _, _, _⟩) rfl (fun K hK => ?_) AllReadyH.nil; go_simp; refine hK.out _ _ ?_ (fun hHeld => ?_); (focus ((try dsimp only); (first | (go_simp; done) | (go_keep; done)))); clear hK K; (try simp only [Act.put, List.setIfInBounds_toArray, List.set_cons_zero, List.set_cons_succ]))
  refine wpAnyH_done (by kernel_rfl) ?_ _
  go_wp2_with fail
  exact bodyPost_ret (v := s3 (V 1) (V 2) (V 3)) (by simp [results, Try.results62, go_sem, *]) rfl ⟨rfl, by repeat (first | with_reducible apply Below.refl | (with_reducible apply Below.setCell; rotate_left; focus (first | omega | (simp; done) | (simp; omega))) | (with_reducible apply Below.alloc; rotate_left; focus (first | omega | (simp; done) | (simp; omega))) | with_reducible apply Below.drew | with_reducible apply belowDrewN | (with_reducible apply Below.trans; rotate_left; with_reducible apply Below.mono; with_reducible assumption; focus (first | omega | (simp; done) | (simp; omega))))⟩

set_option maxHeartbeats 4000000 in
theorem hFixed (cb : Nat) (V : Nat → Int) (G : Nat → Nat) (w : World) (h : HRows w cb V G) :
    Calls Try.prog 57 #[hdl cb] w fun e w' => e = .returned (.bool (decide (V 8 = 0))) ∧ Below w.heap.size w w' := by
  have hset := cset_map
  have h' : HRows (w.alloc (.cells #[.int .i64 0, .pointer (some ⟨cb, 0, none⟩)] 52)) cb V G := h.below (by repeat (first | with_reducible apply Below.refl | (with_reducible apply Below.setCell; rotate_left; focus (first | omega | (simp; done) | (simp; omega))) | (with_reducible apply Below.alloc; rotate_left; focus (first | omega | (simp; done) | (simp; omega))) | with_reducible apply Below.drew | with_reducible apply belowDrewN | (with_reducible apply Below.trans; rotate_left; with_reducible apply Below.mono; with_reducible assumption; focus (first | omega | (simp; done) | (simp; omega))))) (Nat.le_refl _)
  go_enter Try.func57, Try.ntmps57
  go_wp2_with (go_at_call 64; refine (hMass cb V G _ h').mono ?_; rintro e w1 ⟨rfl, hb1⟩; obtain ⟨hc1, hf1⟩ := bcell hb1; have hz1 := hb1.size; (try simp only [World.size_drew, World.size_alloc, World.size_setCell] at hc1 hf1 hz1); have hk1x0 := fun o => hc1 (w.heap.size) o (by omega); have hj1x0 := fun o => hf1 (w.heap.size) o (by omega); have hq1x0 : w.heap.size < w1.heap.size := (by omega); clear hc1 hf1)
  go_ret
  exact ⟨rfl, by repeat (first | with_reducible apply Below.refl | (with_reducible apply Below.setCell; rotate_left; focus (first | omega | (simp; done) | (simp; omega))) | (with_reducible apply Below.alloc; rotate_left; focus (first | omega | (simp; done) | (simp; omega))) | with_reducible apply Below.drew | with_reducible apply belowDrewN | (with_reducible apply Below.trans; rotate_left; with_reducible apply Below.mono; with_reducible assumption; focus (first | omega | (simp; done) | (simp; omega))))⟩

set_option maxHeartbeats 4000000 in
theorem hSleeps (cb : Nat) (V : Nat → Int) (G : Nat → Nat) (w : World) (h : HRows w cb V G) :
    Calls Try.prog 91 #[hdl cb] w fun e w' => e = .returned (.bool (decide (V 11 = 8))) ∧ Below w.heap.size w w' := by
  have hset := cset_map
  have h' : HRows (w.alloc (.cells #[.int .i64 0, .pointer (some ⟨cb, 0, none⟩)] 52)) cb V G := h.below (by repeat (first | with_reducible apply Below.refl | (with_reducible apply Below.setCell; rotate_left; focus (first | omega | (simp; done) | (simp; omega))) | (with_reducible apply Below.alloc; rotate_left; focus (first | omega | (simp; done) | (simp; omega))) | with_reducible apply Below.drew | with_reducible apply belowDrewN | (with_reducible apply Below.trans; rotate_left; with_reducible apply Below.mono; with_reducible assumption; focus (first | omega | (simp; done) | (simp; omega))))) (Nat.le_refl _)
  go_enter Try.func91, Try.ntmps91
  go_wp2_with (go_at_call 65; refine (hQuiet cb V G _ h').mono ?_; rintro e w1 ⟨rfl, hb1⟩; obtain ⟨hc1, hf1⟩ := bcell hb1; have hz1 := hb1.size; (try simp only [World.size_drew, World.size_alloc, World.size_setCell] at hc1 hf1 hz1); have hk1x0 := fun o => hc1 (w.heap.size) o (by omega); have hj1x0 := fun o => hf1 (w.heap.size) o (by omega); have hq1x0 : w.heap.size < w1.heap.size := (by omega); clear hc1 hf1)
  go_ret
  exact ⟨rfl, by repeat (first | with_reducible apply Below.refl | (with_reducible apply Below.setCell; rotate_left; focus (first | omega | (simp; done) | (simp; omega))) | (with_reducible apply Below.alloc; rotate_left; focus (first | omega | (simp; done) | (simp; omega))) | with_reducible apply Below.drew | with_reducible apply belowDrewN | (with_reducible apply Below.trans; rotate_left; with_reducible apply Below.mono; with_reducible assumption; focus (first | omega | (simp; done) | (simp; omega))))⟩
end Go.Proofs.Ytpgoicdblbpcaaa
