/- One body, as it was given, in columns of one row: its handle. -/
import Derived.Test.YtpgoicdblbpcaaaColAdd
import Derived.Test.YtpgoicdblbpcaaaHdOk
import Derived.Handy
import Derived.Deep.RegionHeld3
import Derived.Deep.DeepCutAuto
namespace Go.Proofs.Ytpgoicdblbpcaaa
open Go.RowKit
set_option linter.unusedVariables false
set_option linter.unusedSimpArgs false

theorem HRows.set {w : World} {cb b o : Nat} {V : Nat → Int} {G : Nat → Nat} (h : HRows w cb V G) (hb : b < cb) (v : Value) : HRows (w.setCell ⟨b, o, none⟩ v) cb V G :=
  ⟨fun i hi => by
    have q := h.cbg i hi
    exact Col.keep (h.col i hi) (cset_far (by simp; omega)) (cset_far (by simp; omega)) (by rw [World.frozen?_setCell]), by simpa using h.cbl, fun i hi => by simpa using h.gl i hi, h.asc, h.cbg⟩
set_option maxHeartbeats 4000000 in
theorem rowsOf_one (B : Nat) (V : Nat → Int) (w : World) (hB : B < w.heap.size) (hc : ∀ j, j < 12 → w.cell? ⟨B, j, none⟩ = some (.int .i64 (V j))) :
    Calls Try.prog 53 #[.slice (some ⟨B, 0, none⟩) 1 1] w fun e w' => ∃ cb G, e = .returned (.pointer (some ⟨cb, 0, none⟩)) ∧ w.heap.size ≤ cb ∧ HRows w' cb V G ∧ Below w.heap.size w w' := by
  have hset := cset_map
  have b0 := hc 0 (by omega)
  have b1 := hc 1 (by omega)
  have b2 := hc 2 (by omega)
  have b3 := hc 3 (by omega)
  have b4 := hc 4 (by omega)
  have b5 := hc 5 (by omega)
  have b6 := hc 6 (by omega)
  have b7 := hc 7 (by omega)
  have b8 := hc 8 (by omega)
  have b9 := hc 9 (by omega)
  have b10 := hc 10 (by omega)
  have b11 := hc 11 (by omega)
  clear hc
  go_enter Try.func53, Try.ntmps53
  go_wp2_with fail
  refine wp_loop_rounds 2 ?_
  rw [rounds_succ]
  go_wp2_with (go_at_call 77; refine (add_any w.heap.size V _ (by simp; omega) (by intro i hi; rcases (show i = 0 ∨ i = 1 ∨ i = 2 ∨ i = 3 ∨ i = 4 ∨ i = 5 ∨ i = 6 ∨ i = 7 ∨ i = 8 ∨ i = 9 ∨ i = 10 ∨ i = 11 by omega) with rfl | rfl | rfl | rfl | rfl | rfl | rfl | rfl | rfl | rfl | rfl | rfl <;> (first | (go_simp; done) | (simp; done))) (by intro i hi; rcases (show i = 0 ∨ i = 1 ∨ i = 2 ∨ i = 3 ∨ i = 4 ∨ i = 5 ∨ i = 6 ∨ i = 7 ∨ i = 8 ∨ i = 9 ∨ i = 10 ∨ i = 11 by omega) with rfl | rfl | rfl | rfl | rfl | rfl | rfl | rfl | rfl | rfl | rfl | rfl <;> (first | (go_simp; done) | (simp; done)))).mono ?_; rintro e w1 ⟨rfl, G, hst⟩)
  have hrows := hst.rows (by simp; omega)
  have hbel : Below w.heap.size w w1 := (by repeat (first | with_reducible apply Below.refl | (with_reducible apply Below.setCell; rotate_left; focus (first | omega | (simp; done) | (simp; omega))) | (with_reducible apply Below.alloc; rotate_left; focus (first | omega | (simp; done) | (simp; omega))) | with_reducible apply Below.drew | with_reducible apply belowDrewN | (with_reducible apply Below.trans; rotate_left; with_reducible apply Below.mono; with_reducible assumption; focus (first | omega | (simp; done) | (simp; omega)))) : Below w.heap.size w _).trans (hst.but.below (Nat.le_refl _) (by simp; omega))
  clear hst
  rw [rounds_succ]
  go_wp2_with fail
  go_ret
  exact ⟨_, _, rfl, Nat.le_refl _, hrows, hbel⟩
set_option maxHeartbeats 2000000 in
theorem handle_any (cb : Nat) (w : World) :
    Calls Try.prog 54 #[.pointer (some ⟨cb, 0, none⟩), .int .i64 0] w fun e w' => e = .returned (hdl cb) ∧ Below w.heap.size w w' := by
  have hset := cset_map
  go_enter Try.func54, Try.ntmps54
  go_wp2_with fail
  exact bodyPost_ret (v := hdl cb) (by simp [results, Try.results54, go_sem, *]) rfl ⟨rfl, by repeat (first | with_reducible apply Below.refl | (with_reducible apply Below.setCell; rotate_left; focus (first | omega | (simp; done) | (simp; omega))) | (with_reducible apply Below.alloc; rotate_left; focus (first | omega | (simp; done) | (simp; omega))) | with_reducible apply Below.drew | with_reducible apply belowDrewN | (with_reducible apply Below.trans; rotate_left; with_reducible apply Below.mono; with_reducible assumption; focus (first | omega | (simp; done) | (simp; omega))))⟩

set_option maxHeartbeats 4000000 in
theorem handleOf_any (V : Nat → Int) (w : World) (K : Bool) (eK : bodyB V = K) :
    Calls Try.prog 29 #[bodyV V] w fun e w' => ∃ cb G, e = .returned (.tuple #[hdl cb, .bool K]) ∧ w.heap.size ≤ cb ∧ HRows w' cb V G ∧ Below w.heap.size w w' := by
  have hset := cset_map
  go_enter Try.func29, Try.ntmps29
  go_upto_region 2 with (first
    | (go_at_call 54; refine (handle_any _ _).mono ?_; rintro e w2 ⟨rfl, hb2⟩; obtain ⟨hc2, hf2⟩ := bcell hb2; have hz2 := hb2.size; (try simp only [World.size_drew, World.size_alloc, World.size_setCell] at hc2 hf2 hz2); have hk2x0 := fun o => hc2 (w.heap.size + 1) o (by omega); have hj2x0 := fun o => hf2 (w.heap.size + 1) o (by omega); have hq2x0 : w.heap.size + 1 < w2.heap.size := (by omega); have hk2x1 := fun o => hc2 (cb) o (by omega); have hj2x1 := fun o => hf2 (cb) o (by omega); have hq2x1 : cb < w2.heap.size := (by omega); clear hc2 hf2)
    | (go_at_call 53; refine (rowsOf_one (w.heap.size + 1 + 1) V _ (by simp) (by intro i hi; rcases (show i = 0 ∨ i = 1 ∨ i = 2 ∨ i = 3 ∨ i = 4 ∨ i = 5 ∨ i = 6 ∨ i = 7 ∨ i = 8 ∨ i = 9 ∨ i = 10 ∨ i = 11 by omega) with rfl | rfl | rfl | rfl | rfl | rfl | rfl | rfl | rfl | rfl | rfl | rfl <;> (first | (go_simp; done) | (simp; done)))).mono ?_; rintro e w1 ⟨cb, G, rfl, hcb, hrows, hb1⟩; obtain ⟨hc1, hf1⟩ := bcell hb1; have hz1 := hb1.size; (try simp only [World.size_drew, World.size_alloc, World.size_setCell] at hc1 hf1 hz1 hcb); have hk1x0 := fun o => hc1 (w.heap.size + 1) o (by omega); have hj1x0 := fun o => hf1 (w.heap.size + 1) o (by omega); have hq1x0 : w.heap.size + 1 < w1.heap.size := (by omega); have hq1x1 : cb < w1.heap.size := hrows.cbl; clear hc1 hf1))
  refine wp_region_held_drew (S := fun w' => w'.cell? ⟨w2.heap.size, 0, none⟩ = some (.int .i64 0) ∧ w'.cell? ⟨w2.heap.size, 1, none⟩ = some (.pointer (some ⟨cb, 0, none⟩))) (by kernel_rfl) ?_ (fun hHeld => ?_)
  · (try dsimp only)
    (first | (go_simp; done) | (go_keep; done))
  (refine tk 0 ⟨_, _, _, _, _, _⟩ rfl (by kernel_rfl) (fun _ _ _ h => h) (by rfl) hHeld (by intro w s; (try dsimp only at s); go_simp; (try with_reducible rfl)) ?_; (try simp only [Act.put, List.setIfInBounds_toArray, List.set_cons_zero, List.set_cons_succ]))
  (refine tk 1 ⟨_, _, _, _, _, _⟩ rfl (by kernel_rfl) (fun _ _ _ h => h) (by rfl) hHeld (by intro w s; (try dsimp only at s); go_simp; (try with_reducible rfl)) ?_; (try simp only [Act.put, List.setIfInBounds_toArray, List.set_cons_zero, List.set_cons_succ]))
  (refine wpAnyH_ready (rs := [2]) (by kernel_rfl) (by simp) ?_; refine AllReadyH.cons (o := ⟨_, _, _, _, _, _⟩) rfl (fun K hK => ?_) AllReadyH.nil; go_simp; (go_at_call 55; refine (hOk_q cb V G _ _ (hrows.below (B := w1.heap.size) (by repeat (first | with_reducible apply Below.refl | (with_reducible apply Below.setCell; rotate_left; focus (first | omega | (simp; done) | (simp; omega))) | (with_reducible apply Below.alloc; rotate_left; focus (first | omega | (simp; done) | (simp; omega))) | with_reducible apply Below.drew | with_reducible apply belowDrewN | (with_reducible apply Below.trans; rotate_left; with_reducible apply Below.mono; with_reducible assumption; focus (first | omega | (simp; done) | (simp; omega))))) (Nat.le_refl _)) (by with_reducible assumption)).mono ?_; rintro e w3 ⟨rfl, hb3⟩; obtain ⟨hc3, hf3⟩ := bcell hb3; have hz3 := hb3.size; (try simp only [World.size_drew, World.size_alloc, World.size_setCell] at hc3 hf3 hz3); have hk3x0 := fun o => hc3 (w.heap.size + 1) o (by omega); have hj3x0 := fun o => hf3 (w.heap.size + 1) o (by omega); have hq3x0 : w.heap.size + 1 < w3.heap.size := (by omega); have hk3x1 := fun o => hc3 (w2.heap.size) o (by omega); have hj3x1 := fun o => hf3 (w2.heap.size) o (by omega); have hq3x1 : w2.heap.size < w3.heap.size := (by omega); clear hc3 hf3); (try go_wp2_with fail); refine hK.out _ _ ?_ (fun hHeld => ?_); (focus ((try dsimp only); (first | (go_simp; done) | (go_keep; done)))); clear hK K; (try simp only [Act.put, List.setIfInBounds_toArray, List.set_cons_zero, List.set_cons_succ]))
  (refine wpAnyH_ready (rs := [3]) (by kernel_rfl) (by simp) ?_; refine AllReadyH.cons (o := ⟨_, _, _, _, _, _⟩) rfl (fun K hK => ?_) AllReadyH.nil; go_simp; refine hK.out _ _ ?_ (fun hHeld => ?_); (focus ((try dsimp only); (first | (go_simp; done) | (go_keep; done)))); clear hK K; (try simp only [Act.put, List.setIfInBounds_toArray, List.set_cons_zero, List.set_cons_succ]))
  (refine tk 4 ⟨_, _, _, _, _, _⟩ rfl (by kernel_rfl) (fun _ _ _ h => h) (by rfl) hHeld (by intro w s; (try dsimp only at s); go_simp; (try with_reducible rfl)) ?_; (try simp only [Act.put, List.setIfInBounds_toArray, List.set_cons_zero, List.set_cons_succ]))
  refine wpAnyH_done (by kernel_rfl) ?_ _
  go_wp2_with fail
  exact bodyPost_ret (v := .tuple #[hdl cb, .bool K]) (by simp [results, Try.results29, go_sem, *]) rfl ⟨cb, G, rfl, by omega, ((hrows.below (B := w1.heap.size) (by repeat (first | with_reducible apply Below.refl | (with_reducible apply Below.setCell; rotate_left; focus (first | omega | (simp; done) | (simp; omega))) | (with_reducible apply Below.alloc; rotate_left; focus (first | omega | (simp; done) | (simp; omega))) | with_reducible apply Below.drew | with_reducible apply belowDrewN | (with_reducible apply Below.trans; rotate_left; with_reducible apply Below.mono; with_reducible assumption; focus (first | omega | (simp; done) | (simp; omega))))) (Nat.le_refl _)).set (by omega) _).set (by omega) _, by repeat (first | with_reducible apply Below.refl | (with_reducible apply Below.setCell; rotate_left; focus (first | omega | (simp; done) | (simp; omega))) | (with_reducible apply Below.alloc; rotate_left; focus (first | omega | (simp; done) | (simp; omega))) | with_reducible apply Below.drew | with_reducible apply belowDrewN | (with_reducible apply Below.trans; rotate_left; with_reducible apply Below.mono; with_reducible assumption; focus (first | omega | (simp; done) | (simp; omega))))⟩
end Go.Proofs.Ytpgoicdblbpcaaa
