/- The draw of any list of boxes. -/
import Derived.Test.YtbngdlbecdloiaaDrawBd
import Derived.Test.YtbngdlbecdloiaaB25
import Derived.Deep.RegionHeld3
import Derived.Deep.DeepCutAuto
set_option maxHeartbeats 16000000
set_option maxRecDepth 20000
namespace Go.Proofs.Ytbngdlbecdloiaa
open Go.RowKit
set_option linter.unusedVariables false
set_option linter.unusedSimpArgs false
set_option maxRecDepth 20000 in
set_option maxHeartbeats 8000000 in
theorem l11AnyBroad_k (rb p : Nat) (w : World) (hs0 : RS w rb p) (hp : p ≤ 400000) :
    Calls Try.prog 34 #[.pointer (some ⟨rb, 0, none⟩)] w fun e w' => ∃ (a : Option Addr) (n c : Nat) (U : Nat → Int), e = .returned (.agg #[.slice a n c]) ∧ n ≤ 25 ∧ RB w w' rb (p + 50000) ∧ OwnL w' w.heap.size 31 5 (.slice a n c) n U := by
  have hlt := hs0.lt
  have hset := cset_map
  have hE : RS (w.alloc (.cells #[.slice none 0 0] 25)) rb p := hs0.alloc _
  go_enter Try.func34, Try.ntmps34
  go_upto_region 1 with fail
  go_cut [3] (fun s3 wc => ∃ (vb : Nat) (a : Option Addr) (n c : Nat) (U : Nat → Int), s3 = .pointer (some ⟨vb, 0, none⟩) ∧ broadB n U = true ∧ Bq w wc rb (p + 40000) vb a n c U)
  case first =>
    go_wp2_with (go_at_call 59; refine (l11Broad_k rb p _ hE (by omega)).mono ?_; rintro e w1 ⟨a, n, c, U, rfl, hB, hr1, hO1⟩)
    go_meet
    have hz := hr1.size
    simp only [World.size_alloc] at hz hO1
    have hres := (Blk.new w #[.slice none 0 0] 25).but hr1.but (by omega)
    exact ⟨_, a, n, c, U, rfl, hB, ⟨(hs0.rb.al _).trans hr1 |>.al _, hlt, by omega, hres.al _, Blk.new _ _ _, hO1.al _⟩⟩
  case rest =>
  obtain ⟨vb, a, n, c, U, rfl, hB, hD⟩ := hcut
  have hn24 := broad_le hB
  have hn25 : n ≤ 25 := by omega
  have vc := hD.vc
  by_cases hn0 : n = 0
  · have e1 : ((n : Int) == 0) = true := by simp [hn0]
    clear hn0
    have hz := hD.sz
    have vc := hD.vc
    have hR9 := hD.res.put 0 (.slice a n c)
    have hF9 := hD.fr.setNew (a := ⟨w.heap.size, 0, none⟩) (by have := hD.lo; show rb < w.heap.size; omega) (Nat.le_refl _) (.slice a n c)
    have hO9 := (hD.own.stb (b := w.heap.size) (o := 0) (by intro e; have := (hD.own.lt _ e).1; omega) (.slice a n c)).base (B := w.heap.size) (by omega)
    have rc0 := hD.res.cell 0 rfl
    have rf0 := hD.res.f 0
    go_wp2_with fail
    clear vc rc0 rf0
    generalize wc.setCell ⟨w.heap.size, 0, none⟩ (.slice a n c) = w9 at hR9 hF9 hO9 ⊢
    have rc := hR9.cell 0 rfl
    have hFz := hF9.mono (p' := p + 50000) (by omega)
    exact bodyPost_ret (v := .agg #[.slice a n c]) (by simp [results, Try.results34, go_sem, rc]) rfl (by first | exact ⟨_, _, _, _, rfl, hn25, hFz, hO9⟩ | exact ⟨_, _, _, rfl, hn25, hFz, _, hO9⟩ | exact ⟨_, _, _, rfl, _, hn25, hFz, hO9⟩)
  · have e1 : ((n : Int) == 0) = false := by simp [hn0]
    have hn1 : (1 : Int) ≤ (n : Int) := by omega
    have hn1' : 0 < n := by omega
    go_upto_region 4 with fail
    go_cut [4] (fun s4 wc => ∃ k : Nat, s4 = .int .i64 (k : Int) ∧ k < n ∧ Bq w wc rb (p + 40001) vb a n c U)
    case first =>
      go_wp2_with (go_at_call 36; refine (pick_s rb (p + 40000) _ _ (by exact hD.fr.rs) (by omega) (by omega) (by omega)).mono ?_; rintro e w2 ⟨v2, rfl, va2, vb2, hr2⟩)
      go_meet
      exact ⟨v2.toNat, by rw [Int.toNat_of_nonneg va2], by omega, hD.call hr2⟩
    case rest =>
    clear hD vc
    obtain ⟨k, rfl, hk, hD⟩ := hcut
    go_upto_region 5 with fail
    go_cut [18] (fun s18 wc => ∃ v : Int, s18 = .int .i64 v ∧ Bq w wc rb (p + 40003) vb a n c U)
    case first =>
      go_wp2_with (go_at_call 36; refine (pick_s rb (p + 40001) _ _ (by exact hD.fr.rs) (by omega) (by omega) (by omega)).mono ?_; rintro e w3 ⟨v3, rfl, va3, vb3, hr3⟩)
      go_meet
      exact ⟨_, rfl, (hD.call hr3).mono (by omega)⟩
    case rest =>
    clear hD
    obtain ⟨v, rfl, hD⟩ := hcut
    obtain ⟨g, rfl, hg1, hg2⟩ := hD.own.loc hn1'
    clear hg2
    have hki : (k : Int) < (n : Int) := by omega
    have hi0 := broad_item hB hn1'
    have hU0 : 0 ≤ U 0 ∧ U 0 ≤ 1000000000 := by
      unfold itemB at hi0
      simp only [Bool.and_eq_true, decide_eq_true_eq] at hi0
      exact hi0.1
    clear hi0
    have vc := hD.vc
    by_cases e0 : v = 0
    · have e2 : (v == 0) = true := by simp [e0]
      clear e0
      go_upto_region 7 with fail
      refine wp_region_held_drew (S := fun w' => w'.cell? ⟨vb, 0, none⟩ = some (.slice (some ⟨g, 0, none⟩) n c)) (by kernel_rfl) ?_ (fun hHeld => ?_)
      · (try dsimp only)
        (first | (go_simp; done) | (go_keep; done))
      refine tq 0 hHeld ?_
      refine tq 1 hHeld ?_
      refine tq 2 hHeld ?_
      refine tq 3 hHeld ?_
      refine tq 4 hHeld ?_
      refine tq 5 hHeld ?_
      refine tq 6 hHeld ?_
      refine tq 7 hHeld ?_
      refine tc 8 fun K hK => ?_
      (have u0 := hD.own.cellq (q := 0) (by omega)
       go_simp
       refine tr hK (fun hHeld => ?_)
       clear hK K)
      refine tc 9 fun K hK => ?_
      (go_simp
       have hlb : wc.heap.size ≠ rb := by have := hD.lo; have := hD.sz; have := hD.vl; omega
       have hL := Blk.new wc #[.int .i64 (-1), .int .i64 (U 0), .int .i64 1000000001] 3
       replace hD := (hD.al (.cells #[.int .i64 (-1), .int .i64 (U 0), .int .i64 1000000001] 3)).dr
       replace hL := hL.dr
       clear vc u0
       have vc := hD.vc
       generalize ((wc.alloc (.cells #[.int .i64 (-1), .int .i64 (U 0), .int .i64 1000000001] 3)).drew) = w9 at hD hL vc ⊢
       generalize wc.heap.size = lb at hL hlb ⊢
       refine tr hK (fun hHeld => ?_)
       clear hK K)
      refine tc 10 fun K hK => ?_
      (go_simp
       (go_at_call 35; refine (one_g (-1) 1000000001 rb (p + 40003) lb 3 3 [-1, U 0, 1000000001] _ (by exact hD.fr.rs) (by omega) (by intro x hx; simp at hx; omega) rfl (by omega) (by omega) hlb (fun i hi => by rcases (show i = 0 ∨ i = 1 ∨ i = 2 by omega) with rfl | rfl | rfl <;> exact hL.cell _ rfl)).mono ?_; rintro e w10 ⟨v10, rfl, va10, vb10, hr10⟩)
       replace hD := hD.call hr10
       clear hr10 vc hL
       have vc := hD.vc
       (try go_wp2_with fail)
       refine tr hK (fun hHeld => ?_)
       clear hK K)
      refine tq 11 hHeld ?_
      refine tq 12 hHeld ?_
      refine tc 13 fun K hK => ?_
      (have uk := hD.own.cellq (q := k * 5) (by omega)
       have uf := hD.own.fro
       go_simp
       clear uk uf
       have q4 := hD.row (k * 5) (by omega) v10
       clear hD vc
       have vc := q4.vc
       generalize (w10.setCell ⟨g, k * 5, none⟩ (.int .i64 v10)) = w13 at q4 vc ⊢
       refine tr hK (fun hHeld => ?_)
       clear hK K)
      refine wpAnyH_done (by kernel_rfl) ?_ _
      have hD := q4
      clear q4 vc
      have hz := hD.sz
      have vc := hD.vc
      have hR9 := hD.res.put 0 (.slice (some ⟨g, 0, none⟩) n c)
      have hF9 := hD.fr.setNew (a := ⟨w.heap.size, 0, none⟩) (by have := hD.lo; show rb < w.heap.size; omega) (Nat.le_refl _) (.slice (some ⟨g, 0, none⟩) n c)
      have hO9 := (hD.own.stb (b := w.heap.size) (o := 0) (by intro e; have := (hD.own.lt _ e).1; omega) (.slice (some ⟨g, 0, none⟩) n c)).base (B := w.heap.size) (by omega)
      have rc0 := hD.res.cell 0 rfl
      have rf0 := hD.res.f 0
      go_wp2_with fail
      clear vc rc0 rf0
      generalize w13.setCell ⟨w.heap.size, 0, none⟩ (.slice (some ⟨g, 0, none⟩) n c) = w9 at hR9 hF9 hO9 ⊢
      have rc := hR9.cell 0 rfl
      have hFz := hF9.mono (p' := p + 50000) (by omega)
      exact bodyPost_ret (v := .agg #[.slice (some ⟨g, 0, none⟩) n c]) (by simp [results, Try.results34, go_sem, rc]) rfl (by first | exact ⟨_, _, _, _, rfl, hn25, hFz, hO9⟩ | exact ⟨_, _, _, rfl, hn25, hFz, _, hO9⟩ | exact ⟨_, _, _, rfl, _, hn25, hFz, hO9⟩)
    · have e2 : (v == 0) = false := by simp [e0]
      by_cases e3 : v = 1
      · have e4 : (v == 1) = true := by simp [e3]
        clear e0 e3
        go_upto_region 9 with fail
        refine wp_region_held_drew (S := fun w' => w'.cell? ⟨vb, 0, none⟩ = some (.slice (some ⟨g, 0, none⟩) n c)) (by kernel_rfl) ?_ (fun hHeld => ?_)
        · (try dsimp only)
          (first | (go_simp; done) | (go_keep; done))
        refine tq 0 hHeld ?_
        refine tq 1 hHeld ?_
        refine tq 2 hHeld ?_
        refine tq 3 hHeld ?_
        refine tc 4 fun K hK => ?_
        (go_simp
         replace hD := hD.dr
         (go_at_call 37; refine (l11AnyBox_s rb (p + 40003) _ (by exact hD.fr.rs) (by omega)).mono ?_; rintro e w4 ⟨x, y, u, v, rfl, hbx, hr4⟩)
         replace hD := hD.call hr4
         clear hr4 vc hbx
         have vc := hD.vc
         (try go_wp2_with fail)
         refine tr hK (fun hHeld => ?_)
         clear hK K)
        refine tq 5 hHeld ?_
        refine tq 6 hHeld ?_
        refine tc 7 fun K hK => ?_
        (have uk1 := hD.own.cellq (q := k * 5 + 1) (by omega)
         have uk2 := hD.own.cellq (q := k * 5 + 2) (by omega)
         have uk3 := hD.own.cellq (q := k * 5 + 3) (by omega)
         have uk4 := hD.own.cellq (q := k * 5 + 4) (by omega)
         have uf := hD.own.fro
         go_simp
         clear uk1 uk2 uk3 uk4 uf
         have q4 := ((((hD.row (k * 5 + 1) (by omega) x).row (k * 5 + 2) (by omega) y).row (k * 5 + 3) (by omega) u).row (k * 5 + 4) (by omega) v)
         clear hD vc
         have vc := q4.vc
         generalize ((((w4.setCell ⟨g, k * 5 + 1, none⟩ (.int .i64 x)).setCell ⟨g, k * 5 + 2, none⟩ (.int .i64 y)).setCell ⟨g, k * 5 + 3, none⟩ (.int .i64 u)).setCell ⟨g, k * 5 + 4, none⟩ (.int .i64 v)) = w13 at q4 vc ⊢
         refine tr hK (fun hHeld => ?_)
         clear hK K)
        refine wpAnyH_done (by kernel_rfl) ?_ _
        have hD := q4
        clear q4 vc
        have hz := hD.sz
        have vc := hD.vc
        have hR9 := hD.res.put 0 (.slice (some ⟨g, 0, none⟩) n c)
        have hF9 := hD.fr.setNew (a := ⟨w.heap.size, 0, none⟩) (by have := hD.lo; show rb < w.heap.size; omega) (Nat.le_refl _) (.slice (some ⟨g, 0, none⟩) n c)
        have hO9 := (hD.own.stb (b := w.heap.size) (o := 0) (by intro e; have := (hD.own.lt _ e).1; omega) (.slice (some ⟨g, 0, none⟩) n c)).base (B := w.heap.size) (by omega)
        have rc0 := hD.res.cell 0 rfl
        have rf0 := hD.res.f 0
        go_wp2_with fail
        clear vc rc0 rf0
        generalize w13.setCell ⟨w.heap.size, 0, none⟩ (.slice (some ⟨g, 0, none⟩) n c) = w9 at hR9 hF9 hO9 ⊢
        have rc := hR9.cell 0 rfl
        have hFz := hF9.mono (p' := p + 50000) (by omega)
        exact bodyPost_ret (v := .agg #[.slice (some ⟨g, 0, none⟩) n c]) (by simp [results, Try.results34, go_sem, rc]) rfl (by first | exact ⟨_, _, _, _, rfl, hn25, hFz, hO9⟩ | exact ⟨_, _, _, rfl, hn25, hFz, _, hO9⟩ | exact ⟨_, _, _, rfl, _, hn25, hFz, hO9⟩)
      · have e4 : (v == 1) = false := by simp [e3]
        by_cases e5 : v = 2
        · have e6 : (v == 2) = true := by simp [e5]
          clear e0 e3 e5
          have vf := hD.vf
          go_upto_region 11 with fail
          refine wp_region_held_drew (S := fun w' => True) (by kernel_rfl) ?_ (fun hHeld => ?_)
          · trivial
          refine tq 0 hHeld ?_
          refine tq 2 hHeld ?_
          refine wpAnyH_ready (rs := [1, 3]) (by kernel_rfl) (by simp) ?_
          refine AllReadyH.cons rfl (fun K hK => ?_) (AllReadyH.cons rfl (fun K hK => ?_) AllReadyH.nil)
          · (have _ := vc
             go_simp
             refine tr hK (fun hHeld => ?_) trivial
             clear hK K)
            refine tc 3 fun K hK => ?_
            (have _ := vc
             go_simp
             refine tr hK (fun hHeld => ?_) trivial
             clear hK K)
            refine tq 4 hHeld ?_
            refine tc 5 fun K hK => ?_
            (have u0 := hD.own.cellq (q := 0) (by omega)
             have u1 := hD.own.cellq (q := 1) (by omega)
             have u2 := hD.own.cellq (q := 2) (by omega)
             have u3 := hD.own.cellq (q := 3) (by omega)
             have u4 := hD.own.cellq (q := 4) (by omega)
             go_simp
             refine tr hK (fun hHeld => ?_) trivial
             clear hK K)
            refine tc 6 fun K hK => ?_
            (go_simp
             have hL := Blk.new wc #[.int .i64 (U 0), .int .i64 (U 1), .int .i64 (U 2), .int .i64 (U 3), .int .i64 (U 4)] 31
             replace hD := (hD.al (.cells #[.int .i64 (U 0), .int .i64 (U 1), .int .i64 (U 2), .int .i64 (U 3), .int .i64 (U 4)] 31)).dr
             replace hL := hL.dr
             clear vc vf u0 u1 u2 u3 u4
             have vc := hD.vc
             have vf := hD.vf
             generalize ((wc.alloc (.cells #[.int .i64 (U 0), .int .i64 (U 1), .int .i64 (U 2), .int .i64 (U 3), .int .i64 (U 4)] 31)).drew) = w9 at hD hL vc vf ⊢
             generalize wc.heap.size = lb at hL ⊢
             refine tr hK (fun hHeld => ?_) trivial
             clear hK K)
            refine tc 7 fun K hK => ?_
            (have hF : Flat w9 (some ⟨lb, 0, none⟩) (1 * 5) (fun i => U i) := fun _ => ⟨lb, 0, rfl, hL.lt, fun i hi => by
               rw [Nat.zero_add]
               rcases (show i = 0 ∨ i = 1 ∨ i = 2 ∨ i = 3 ∨ i = 4 by omega) with rfl | rfl | rfl | rfl | rfl <;> exact hL.cell _ rfl⟩
             have hsz := hD.sz
             have hvl := hD.vl
             refine step_app rfl _ _ _ rfl (w.heap.size + 1) 31 5 40 zeroI Try.underlying23 infoIt rfl (by decide) (.slice (some ⟨g, 0, none⟩) n c) n U rfl hD.own (some ⟨lb, 0, none⟩) 1 1 (fun i => U i) rfl hF (by unfold maxLen; omega) (by omega) (by omega) ?_
             intro a5 c5 w5 ho5 hg5
             have hv5 := (hD.var.gr hg5 (hD.var.ne hD.own neItBr))
             clear vc vf
             have vc := hv5.cell 0 rfl
             have vf := hv5.f 0
             refine tr hK (fun hHeld => ?_) trivial
             clear hK K)
            refine tq 8 hHeld ?_
            refine tc 9 fun K hK => ?_
            (go_simp
             have q4 := hD.grow hg5 ho5
             clear hD vc vf hv5 hL
             generalize (w5.setCell ⟨vb, 0, none⟩ (.slice a5 (n + 1) c5)) = w13 at q4 ⊢
             refine tr hK (fun hHeld => ?_) trivial
             clear hK K)
            refine wpAnyH_done (by kernel_rfl) ?_ _
            have hD := q4
            have hn25 : n + 1 ≤ 25 := by omega
            clear q4
            have hz := hD.sz
            have vc := hD.vc
            have hR9 := hD.res.put 0 (.slice a5 (n + 1) c5)
            have hF9 := hD.fr.setNew (a := ⟨w.heap.size, 0, none⟩) (by have := hD.lo; show rb < w.heap.size; omega) (Nat.le_refl _) (.slice a5 (n + 1) c5)
            have hO9 := (hD.own.stb (b := w.heap.size) (o := 0) (by intro e; have := (hD.own.lt _ e).1; omega) (.slice a5 (n + 1) c5)).base (B := w.heap.size) (by omega)
            have rc0 := hD.res.cell 0 rfl
            have rf0 := hD.res.f 0
            go_wp2_with fail
            clear vc rc0 rf0
            generalize w13.setCell ⟨w.heap.size, 0, none⟩ (.slice a5 (n + 1) c5) = w9 at hR9 hF9 hO9 ⊢
            have rc := hR9.cell 0 rfl
            have hFz := hF9.mono (p' := p + 50000) (by omega)
            exact bodyPost_ret (v := .agg #[.slice a5 (n + 1) c5]) (by simp [results, Try.results34, go_sem, rc]) rfl (by first | exact ⟨_, _, _, _, rfl, hn25, hFz, hO9⟩ | exact ⟨_, _, _, rfl, hn25, hFz, _, hO9⟩ | exact ⟨_, _, _, rfl, _, hn25, hFz, hO9⟩)
          · (have _ := vc
             go_simp
             refine tr hK (fun hHeld => ?_) trivial
             clear hK K)
            refine tq 4 hHeld ?_
            refine wpAnyH_ready (rs := [1, 5]) (by kernel_rfl) (by simp) ?_
            refine AllReadyH.cons rfl (fun K hK => ?_) (AllReadyH.cons rfl (fun K hK => ?_) AllReadyH.nil)
            · (have _ := vc
               go_simp
               refine tr hK (fun hHeld => ?_) trivial
               clear hK K)
              refine tc 5 fun K hK => ?_
              (have u0 := hD.own.cellq (q := 0) (by omega)
               have u1 := hD.own.cellq (q := 1) (by omega)
               have u2 := hD.own.cellq (q := 2) (by omega)
               have u3 := hD.own.cellq (q := 3) (by omega)
               have u4 := hD.own.cellq (q := 4) (by omega)
               go_simp
               refine tr hK (fun hHeld => ?_) trivial
               clear hK K)
              refine tc 6 fun K hK => ?_
              (go_simp
               have hL := Blk.new wc #[.int .i64 (U 0), .int .i64 (U 1), .int .i64 (U 2), .int .i64 (U 3), .int .i64 (U 4)] 31
               replace hD := (hD.al (.cells #[.int .i64 (U 0), .int .i64 (U 1), .int .i64 (U 2), .int .i64 (U 3), .int .i64 (U 4)] 31)).dr
               replace hL := hL.dr
               clear vc vf u0 u1 u2 u3 u4
               have vc := hD.vc
               have vf := hD.vf
               generalize ((wc.alloc (.cells #[.int .i64 (U 0), .int .i64 (U 1), .int .i64 (U 2), .int .i64 (U 3), .int .i64 (U 4)] 31)).drew) = w9 at hD hL vc vf ⊢
               generalize wc.heap.size = lb at hL ⊢
               refine tr hK (fun hHeld => ?_) trivial
               clear hK K)
              refine tc 7 fun K hK => ?_
              (have hF : Flat w9 (some ⟨lb, 0, none⟩) (1 * 5) (fun i => U i) := fun _ => ⟨lb, 0, rfl, hL.lt, fun i hi => by
                 rw [Nat.zero_add]
                 rcases (show i = 0 ∨ i = 1 ∨ i = 2 ∨ i = 3 ∨ i = 4 by omega) with rfl | rfl | rfl | rfl | rfl <;> exact hL.cell _ rfl⟩
               have hsz := hD.sz
               have hvl := hD.vl
               refine step_app rfl _ _ _ rfl (w.heap.size + 1) 31 5 40 zeroI Try.underlying23 infoIt rfl (by decide) (.slice (some ⟨g, 0, none⟩) n c) n U rfl hD.own (some ⟨lb, 0, none⟩) 1 1 (fun i => U i) rfl hF (by unfold maxLen; omega) (by omega) (by omega) ?_
               intro a5 c5 w5 ho5 hg5
               have hv5 := (hD.var.gr hg5 (hD.var.ne hD.own neItBr))
               clear vc vf
               have vc := hv5.cell 0 rfl
               have vf := hv5.f 0
               refine tr hK (fun hHeld => ?_) trivial
               clear hK K)
              refine tq 8 hHeld ?_
              refine tc 9 fun K hK => ?_
              (go_simp
               have q4 := hD.grow hg5 ho5
               clear hD vc vf hv5 hL
               generalize (w5.setCell ⟨vb, 0, none⟩ (.slice a5 (n + 1) c5)) = w13 at q4 ⊢
               refine tr hK (fun hHeld => ?_) trivial
               clear hK K)
              refine wpAnyH_done (by kernel_rfl) ?_ _
              have hD := q4
              have hn25 : n + 1 ≤ 25 := by omega
              clear q4
              have hz := hD.sz
              have vc := hD.vc
              have hR9 := hD.res.put 0 (.slice a5 (n + 1) c5)
              have hF9 := hD.fr.setNew (a := ⟨w.heap.size, 0, none⟩) (by have := hD.lo; show rb < w.heap.size; omega) (Nat.le_refl _) (.slice a5 (n + 1) c5)
              have hO9 := (hD.own.stb (b := w.heap.size) (o := 0) (by intro e; have := (hD.own.lt _ e).1; omega) (.slice a5 (n + 1) c5)).base (B := w.heap.size) (by omega)
              have rc0 := hD.res.cell 0 rfl
              have rf0 := hD.res.f 0
              go_wp2_with fail
              clear vc rc0 rf0
              generalize w13.setCell ⟨w.heap.size, 0, none⟩ (.slice a5 (n + 1) c5) = w9 at hR9 hF9 hO9 ⊢
              have rc := hR9.cell 0 rfl
              have hFz := hF9.mono (p' := p + 50000) (by omega)
              exact bodyPost_ret (v := .agg #[.slice a5 (n + 1) c5]) (by simp [results, Try.results34, go_sem, rc]) rfl (by first | exact ⟨_, _, _, _, rfl, hn25, hFz, hO9⟩ | exact ⟨_, _, _, rfl, hn25, hFz, _, hO9⟩ | exact ⟨_, _, _, rfl, _, hn25, hFz, hO9⟩)
            · (have u0 := hD.own.cellq (q := 0) (by omega)
               have u1 := hD.own.cellq (q := 1) (by omega)
               have u2 := hD.own.cellq (q := 2) (by omega)
               have u3 := hD.own.cellq (q := 3) (by omega)
               have u4 := hD.own.cellq (q := 4) (by omega)
               go_simp
               refine tr hK (fun hHeld => ?_) trivial
               clear hK K)
              refine wpAnyH_ready (rs := [1, 6]) (by kernel_rfl) (by simp) ?_
              refine AllReadyH.cons rfl (fun K hK => ?_) (AllReadyH.cons rfl (fun K hK => ?_) AllReadyH.nil)
              · (have _ := vc
                 go_simp
                 refine tr hK (fun hHeld => ?_) trivial
                 clear hK K)
                refine tc 6 fun K hK => ?_
                (go_simp
                 have hL := Blk.new wc #[.int .i64 (U 0), .int .i64 (U 1), .int .i64 (U 2), .int .i64 (U 3), .int .i64 (U 4)] 31
                 replace hD := (hD.al (.cells #[.int .i64 (U 0), .int .i64 (U 1), .int .i64 (U 2), .int .i64 (U 3), .int .i64 (U 4)] 31)).dr
                 replace hL := hL.dr
                 clear vc vf u0 u1 u2 u3 u4
                 have vc := hD.vc
                 have vf := hD.vf
                 generalize ((wc.alloc (.cells #[.int .i64 (U 0), .int .i64 (U 1), .int .i64 (U 2), .int .i64 (U 3), .int .i64 (U 4)] 31)).drew) = w9 at hD hL vc vf ⊢
                 generalize wc.heap.size = lb at hL ⊢
                 refine tr hK (fun hHeld => ?_) trivial
                 clear hK K)
                refine tc 7 fun K hK => ?_
                (have hF : Flat w9 (some ⟨lb, 0, none⟩) (1 * 5) (fun i => U i) := fun _ => ⟨lb, 0, rfl, hL.lt, fun i hi => by
                   rw [Nat.zero_add]
                   rcases (show i = 0 ∨ i = 1 ∨ i = 2 ∨ i = 3 ∨ i = 4 by omega) with rfl | rfl | rfl | rfl | rfl <;> exact hL.cell _ rfl⟩
                 have hsz := hD.sz
                 have hvl := hD.vl
                 refine step_app rfl _ _ _ rfl (w.heap.size + 1) 31 5 40 zeroI Try.underlying23 infoIt rfl (by decide) (.slice (some ⟨g, 0, none⟩) n c) n U rfl hD.own (some ⟨lb, 0, none⟩) 1 1 (fun i => U i) rfl hF (by unfold maxLen; omega) (by omega) (by omega) ?_
                 intro a5 c5 w5 ho5 hg5
                 have hv5 := (hD.var.gr hg5 (hD.var.ne hD.own neItBr))
                 clear vc vf
                 have vc := hv5.cell 0 rfl
                 have vf := hv5.f 0
                 refine tr hK (fun hHeld => ?_) trivial
                 clear hK K)
                refine tq 8 hHeld ?_
                refine tc 9 fun K hK => ?_
                (go_simp
                 have q4 := hD.grow hg5 ho5
                 clear hD vc vf hv5 hL
                 generalize (w5.setCell ⟨vb, 0, none⟩ (.slice a5 (n + 1) c5)) = w13 at q4 ⊢
                 refine tr hK (fun hHeld => ?_) trivial
                 clear hK K)
                refine wpAnyH_done (by kernel_rfl) ?_ _
                have hD := q4
                have hn25 : n + 1 ≤ 25 := by omega
                clear q4
                have hz := hD.sz
                have vc := hD.vc
                have hR9 := hD.res.put 0 (.slice a5 (n + 1) c5)
                have hF9 := hD.fr.setNew (a := ⟨w.heap.size, 0, none⟩) (by have := hD.lo; show rb < w.heap.size; omega) (Nat.le_refl _) (.slice a5 (n + 1) c5)
                have hO9 := (hD.own.stb (b := w.heap.size) (o := 0) (by intro e; have := (hD.own.lt _ e).1; omega) (.slice a5 (n + 1) c5)).base (B := w.heap.size) (by omega)
                have rc0 := hD.res.cell 0 rfl
                have rf0 := hD.res.f 0
                go_wp2_with fail
                clear vc rc0 rf0
                generalize w13.setCell ⟨w.heap.size, 0, none⟩ (.slice a5 (n + 1) c5) = w9 at hR9 hF9 hO9 ⊢
                have rc := hR9.cell 0 rfl
                have hFz := hF9.mono (p' := p + 50000) (by omega)
                exact bodyPost_ret (v := .agg #[.slice a5 (n + 1) c5]) (by simp [results, Try.results34, go_sem, rc]) rfl (by first | exact ⟨_, _, _, _, rfl, hn25, hFz, hO9⟩ | exact ⟨_, _, _, rfl, hn25, hFz, _, hO9⟩ | exact ⟨_, _, _, rfl, _, hn25, hFz, hO9⟩)
              · (go_simp
                 have hL := Blk.new wc #[.int .i64 (U 0), .int .i64 (U 1), .int .i64 (U 2), .int .i64 (U 3), .int .i64 (U 4)] 31
                 replace hD := (hD.al (.cells #[.int .i64 (U 0), .int .i64 (U 1), .int .i64 (U 2), .int .i64 (U 3), .int .i64 (U 4)] 31)).dr
                 replace hL := hL.dr
                 clear vc vf u0 u1 u2 u3 u4
                 have vc := hD.vc
                 have vf := hD.vf
                 generalize ((wc.alloc (.cells #[.int .i64 (U 0), .int .i64 (U 1), .int .i64 (U 2), .int .i64 (U 3), .int .i64 (U 4)] 31)).drew) = w9 at hD hL vc vf ⊢
                 generalize wc.heap.size = lb at hL ⊢
                 refine tr hK (fun hHeld => ?_) trivial
                 clear hK K)
                refine tc 1 fun K hK => ?_
                (have _ := vc
                 go_simp
                 refine tr hK (fun hHeld => ?_) trivial
                 clear hK K)
                refine tc 7 fun K hK => ?_
                (have hF : Flat w9 (some ⟨lb, 0, none⟩) (1 * 5) (fun i => U i) := fun _ => ⟨lb, 0, rfl, hL.lt, fun i hi => by
                   rw [Nat.zero_add]
                   rcases (show i = 0 ∨ i = 1 ∨ i = 2 ∨ i = 3 ∨ i = 4 by omega) with rfl | rfl | rfl | rfl | rfl <;> exact hL.cell _ rfl⟩
                 have hsz := hD.sz
                 have hvl := hD.vl
                 refine step_app rfl _ _ _ rfl (w.heap.size + 1) 31 5 40 zeroI Try.underlying23 infoIt rfl (by decide) (.slice (some ⟨g, 0, none⟩) n c) n U rfl hD.own (some ⟨lb, 0, none⟩) 1 1 (fun i => U i) rfl hF (by unfold maxLen; omega) (by omega) (by omega) ?_
                 intro a5 c5 w5 ho5 hg5
                 have hv5 := (hD.var.gr hg5 (hD.var.ne hD.own neItBr))
                 clear vc vf
                 have vc := hv5.cell 0 rfl
                 have vf := hv5.f 0
                 refine tr hK (fun hHeld => ?_) trivial
                 clear hK K)
                refine tq 8 hHeld ?_
                refine tc 9 fun K hK => ?_
                (go_simp
                 have q4 := hD.grow hg5 ho5
                 clear hD vc vf hv5 hL
                 generalize (w5.setCell ⟨vb, 0, none⟩ (.slice a5 (n + 1) c5)) = w13 at q4 ⊢
                 refine tr hK (fun hHeld => ?_) trivial
                 clear hK K)
                refine wpAnyH_done (by kernel_rfl) ?_ _
                have hD := q4
                have hn25 : n + 1 ≤ 25 := by omega
                clear q4
                have hz := hD.sz
                have vc := hD.vc
                have hR9 := hD.res.put 0 (.slice a5 (n + 1) c5)
                have hF9 := hD.fr.setNew (a := ⟨w.heap.size, 0, none⟩) (by have := hD.lo; show rb < w.heap.size; omega) (Nat.le_refl _) (.slice a5 (n + 1) c5)
                have hO9 := (hD.own.stb (b := w.heap.size) (o := 0) (by intro e; have := (hD.own.lt _ e).1; omega) (.slice a5 (n + 1) c5)).base (B := w.heap.size) (by omega)
                have rc0 := hD.res.cell 0 rfl
                have rf0 := hD.res.f 0
                go_wp2_with fail
                clear vc rc0 rf0
                generalize w13.setCell ⟨w.heap.size, 0, none⟩ (.slice a5 (n + 1) c5) = w9 at hR9 hF9 hO9 ⊢
                have rc := hR9.cell 0 rfl
                have hFz := hF9.mono (p' := p + 50000) (by omega)
                exact bodyPost_ret (v := .agg #[.slice a5 (n + 1) c5]) (by simp [results, Try.results34, go_sem, rc]) rfl (by first | exact ⟨_, _, _, _, rfl, hn25, hFz, hO9⟩ | exact ⟨_, _, _, rfl, hn25, hFz, _, hO9⟩ | exact ⟨_, _, _, rfl, _, hn25, hFz, hO9⟩)
        · have e6 : (v == 2) = false := by simp [e5]
          clear e0 e3 e5
          have hz := hD.sz
          have vc := hD.vc
          have hR9 := hD.res.put 0 (.slice (some ⟨g, 0, none⟩) n c)
          have hF9 := hD.fr.setNew (a := ⟨w.heap.size, 0, none⟩) (by have := hD.lo; show rb < w.heap.size; omega) (Nat.le_refl _) (.slice (some ⟨g, 0, none⟩) n c)
          have hO9 := (hD.own.stb (b := w.heap.size) (o := 0) (by intro e; have := (hD.own.lt _ e).1; omega) (.slice (some ⟨g, 0, none⟩) n c)).base (B := w.heap.size) (by omega)
          have rc0 := hD.res.cell 0 rfl
          have rf0 := hD.res.f 0
          go_wp2_with fail
          clear vc rc0 rf0
          generalize wc.setCell ⟨w.heap.size, 0, none⟩ (.slice (some ⟨g, 0, none⟩) n c) = w9 at hR9 hF9 hO9 ⊢
          have rc := hR9.cell 0 rfl
          have hFz := hF9.mono (p' := p + 50000) (by omega)
          exact bodyPost_ret (v := .agg #[.slice (some ⟨g, 0, none⟩) n c]) (by simp [results, Try.results34, go_sem, rc]) rfl (by first | exact ⟨_, _, _, _, rfl, hn25, hFz, hO9⟩ | exact ⟨_, _, _, rfl, hn25, hFz, _, hO9⟩ | exact ⟨_, _, _, rfl, _, hn25, hFz, hO9⟩)
end Go.Proofs.Ytbngdlbecdloiaa
