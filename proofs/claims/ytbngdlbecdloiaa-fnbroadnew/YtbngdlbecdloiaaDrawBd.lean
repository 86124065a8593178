/- The draw of a list of boxes. -/
import Derived.Test.YtbngdlbecdloiaaB21
import Derived.Test.YtbngdlbecdloiaaDrawBw
import Derived.Deep.RegionHeld3
import Derived.Deep.DeepCutAuto
set_option maxHeartbeats 16000000
set_option maxRecDepth 20000
namespace Go.Proofs.Ytbngdlbecdloiaa
open Go.RowKit
set_option linter.unusedVariables false
set_option linter.unusedSimpArgs false
set_option maxRecDepth 20000 in
set_option maxHeartbeats 8000000 in
theorem l11Broad_k (rb p : Nat) (w : World) (hs0 : RS w rb p) (hp : p ≤ 500000) :
    Calls Try.prog 59 #[.pointer (some ⟨rb, 0, none⟩)] w fun e w' => ∃ (a : Option Addr) (n c : Nat) (U : Nat → Int), e = .returned (.agg #[.slice a n c]) ∧ broadB n U = true ∧ RB w w' rb (p + 40000) ∧ OwnL w' w.heap.size 31 5 (.slice a n c) n U := by
  have hlt := hs0.lt
  have hset := cset_map
  have hD := Bq.start hs0 (fun _ => 0)
  go_enter Try.func59, Try.ntmps59
  go_upto_region 2 with fail
  generalize (w.alloc (.cells #[.slice none 0 0] 25)).alloc (.cells #[.slice none 0 0] 25) = w0 at hD ⊢
  go_cut [4] (fun s4 wc => ∃ r : Nat, s4 = .int .i64 (r : Int) ∧ r ≤ 8 ∧ Bq w wc rb (p + 1) (w.heap.size + 1) none 0 0 (fun _ => 0))
  case first =>
    go_wp2_with (go_at_call 36; refine (pick_s rb (p) _ _ (by exact hD.fr.rs) (by omega) (by omega) (by omega)).mono ?_; rintro e w2 ⟨v2, rfl, va2, vb2, hr2⟩)
    go_meet
    exact ⟨v2.toNat, by rw [Int.toNat_of_nonneg va2], by omega, hD.call hr2⟩
  case rest =>
  clear hD
  obtain ⟨r0, rfl, hr0, hD⟩ := hcut
  go_upto_region 3 with fail
  go_loopw [4, 5, 6] (fun s4 _ _ wr => ∃ (r : Nat) (a : Option Addr) (n c : Nat) (U : Nat → Int), s4 = .int .i64 (r : Int) ∧ r ≤ 8 ∧ broadB n U = true ∧ Shut (∀ q, q < n → U (q * 5) < 12) ∧ Bq w wr rb (p + 1 + 1000 * (8 - r)) (w.heap.size + 1) a n c U) (fun s4 _ _ _ => (intOf s4).toNat)
  case atStart => exact ⟨r0, none, 0, 0, _, rfl, hr0, rfl, (fun q hq => by omega), hD.mono (by omega)⟩
  case round =>
    clear hD hr0
    obtain ⟨r, a, n, c, U, rfl, hr8, hB, hid, hD⟩ := hrel
    have hn24 := broad_le hB
    by_cases hlr : 0 < r
    · have hri : (0 : Int) < (r : Int) := by omega
      obtain ⟨p1, hp1⟩ : ∃ p1, p + 1 + 1000 * (8 - r) = p1 := ⟨_, rfl⟩
      have hp1b : p1 ≤ 520000 := by omega
      have hp1c : p1 + 1000 ≤ p + 1 + 1000 * (8 - (r - 1)) := by omega
      rw [hp1] at hD
      clear hp1
      go_upto_region 5 with fail
      go_cut [5] (fun s5 wc => ∃ (xb : Nat) (x y u v : Int), s5 = .pointer (some ⟨xb, 0, none⟩) ∧ w.heap.size + 1 < xb ∧ Bq w wc rb (p1 + 600) (w.heap.size + 1) a n c U ∧ Blk wc xb #[.int .i64 x, .int .i64 y, .int .i64 u, .int .i64 v] 29)
      case first =>
        go_wp2_with (go_at_call 56; refine (l11Box_k rb p1 _ (by exact hD.fr.rs) (by omega)).mono ?_; rintro e w1 ⟨x, y, u, v, rfl, hbp, hord, hr1⟩)
        go_meet
        have hD1 := hD.call hr1
        exact ⟨_, x, y, u, v, rfl, hD1.sz, hD1.al _, Blk.new _ _ _⟩
      case rest =>
      clear hD
      obtain ⟨xb, x, y, u, v, rfl, hxl, hD, hX⟩ := hcut
      have hlo := hD.lo
      rename_i hKK
      refine hKK _ _ ?_
      refine wp_seq_k (fun K8 hK8 => ?_)
      go_cut [] (fun wc => ∃ x y u v : Int, Bq w wc rb (p1 + 610) (w.heap.size + 1) a n c U ∧ Blk wc xb #[.int .i64 x, .int .i64 y, .int .i64 u, .int .i64 v] 29)
      case first =>
        have vc := hD.vc
        go_upto_region 6 with fail
        go_cut [25] (fun s25 wc => ∃ z : Bool, s25 = .bool z ∧ (z = true → 0 < n) ∧ Bq w wc rb (p1 + 601) (w.heap.size + 1) a n c U ∧ Blk wc xb #[.int .i64 x, .int .i64 y, .int .i64 u, .int .i64 v] 29)
        case first =>
          by_cases hn0 : 0 < n
          · have e1 : (0 : Int) < (n : Int) := by omega
            go_wp2_with (go_at_call 36; refine (pick_s rb (p1 + 600) _ _ (by exact hD.fr.rs) (by omega) (by omega) (by omega)).mono ?_; rintro e w2 ⟨v2, rfl, va2, vb2, hr2⟩)
            go_meet
            exact ⟨_, rfl, fun _ => hn0, hD.call hr2, hX.but (RB.but hr2) (by omega)⟩
          · have e1 : ¬ (0 : Int) < (n : Int) := by omega
            go_wp2_with fail
            go_meet
            exact ⟨false, rfl, (fun e => by cases e), hD.mono (by omega), hX⟩
        case rest =>
        clear hD hX vc
        obtain ⟨z, rfl, hz, hD, hX⟩ := hcut
        cases z with
        | false =>
          go_wp2_with fail
          go_meet
          exact ⟨x, y, u, v, hD.mono (by omega), hX⟩
        | true =>
          have hn0 := hz rfl
          have hn1 : (1 : Int) ≤ (n : Int) := by omega
          obtain ⟨g, rfl, hg1, hg2⟩ := hD.own.loc hn0
          have vc := hD.vc
          go_upto_region 7 with fail
          go_cut [6] (fun s6 wc => ∃ (yb : Nat) (y0 y1 y2 y3 : Int), s6 = .pointer (some ⟨yb, 0, none⟩) ∧ w.heap.size + 1 < yb ∧ yb ≠ xb ∧ Bq w wc rb (p1 + 602) (w.heap.size + 1) (some ⟨g, 0, none⟩) n c U ∧ Blk wc xb #[.int .i64 x, .int .i64 y, .int .i64 u, .int .i64 v] 29 ∧ Blk wc yb #[.int .i64 y0, .int .i64 y1, .int .i64 y2, .int .i64 y3] 29)
          case first =>
            clear hg2
            refine wp_region_held_drew (S := fun w' => w'.cell? ⟨w.heap.size + 1, 0, none⟩ = some (.slice (some ⟨g, 0, none⟩) n c)) (by kernel_rfl) ?_ (fun hHeld => ?_)
            · (try dsimp only)
              (first | (go_simp; done) | (go_keep; done))
            refine tq 0 hHeld ?_
            refine tq 1 hHeld ?_
            refine tq 2 hHeld ?_
            refine tq 3 hHeld ?_
            refine tq 4 hHeld ?_
            refine tq 5 hHeld ?_
            refine wpAnyH_ready (rs := [6, 10]) (by kernel_rfl) (by simp) ?_
            refine AllReadyH.cons rfl (fun K hK => ?_) (AllReadyH.cons rfl (fun K hK => ?_) AllReadyH.nil)
            · (go_simp
               replace hD := hD.dr
               replace hX := hX.dr
               (go_at_call 36; refine (pick_s rb (p1 + 601) _ _ (by exact hD.fr.rs) (by omega) (by omega) (by omega)).mono ?_; rintro e w6 ⟨v6, rfl, va6, vb6, hr6⟩)
               obtain ⟨j, hj⟩ : ∃ j : Nat, v6 = (j : Int) := ⟨v6.toNat, by omega⟩
               subst hj
               have hjn : j < n := (by omega)
               replace hX := hX.but (RB.but hr6) (by omega)
               replace hD := hD.call hr6
               clear hr6 vc
               have vc := hD.vc
               (try go_wp2_with fail)
               refine tr hK (fun hHeld => ?_)
               clear hK K)
              refine tq 7 hHeld ?_
              refine tq 8 hHeld ?_
              refine wpAnyH_ready (rs := [9, 10]) (by kernel_rfl) (by simp) ?_
              refine AllReadyH.cons rfl (fun K hK => ?_) (AllReadyH.cons rfl (fun K hK => ?_) AllReadyH.nil)
              · (have u1 := hD.own.cellq (q := j * 5 + 1) (by omega)
                 have u2 := hD.own.cellq (q := j * 5 + 2) (by omega)
                 have u3 := hD.own.cellq (q := j * 5 + 3) (by omega)
                 have u4 := hD.own.cellq (q := j * 5 + 4) (by omega)
                 go_simp
                 refine tr hK (fun hHeld => ?_)
                 clear hK K)
                refine tc 10 fun K hK => ?_
                (go_simp
                 have hY := Blk.new w6 #[.int .i64 0, .int .i64 0, .int .i64 0, .int .i64 0] 29
                 have hxy : w6.heap.size ≠ xb := by have := hX.lt; omega
                 replace hX := hX.al (.cells #[.int .i64 0, .int .i64 0, .int .i64 0, .int .i64 0] 29)
                 have hyl : w.heap.size + 1 < w6.heap.size := hD.sz
                 replace hD := hD.al (.cells #[.int .i64 0, .int .i64 0, .int .i64 0, .int .i64 0] 29)
                 clear vc
                 have vc := hD.vc
                 generalize (w6.alloc (.cells #[.int .i64 0, .int .i64 0, .int .i64 0, .int .i64 0] 29)) = w10 at hD hX hY vc ⊢
                 generalize w6.heap.size = yb at hY hxy hyl ⊢
                 refine tr hK (fun hHeld => ?_)
                 clear hK K)
                refine tc 11 fun K hK => ?_
                (have yc0 := hY.cell 0 rfl
                 have yc1 := hY.cell 1 rfl
                 have yc2 := hY.cell 2 rfl
                 have yc3 := hY.cell 3 rfl
                 have yf := hY.f
                 go_simp
                 clear yf yc0 yc1 yc2 yc3
                 have q1 := hD.far (o := 0) hY neItBx hyl (.int .i64 (U (j * 5 + 1)))
                 have q2 := q1.far (o := 1) (hY.put 0 (.int .i64 (U (j * 5 + 1)))) neItBx hyl (.int .i64 (U (j * 5 + 2)))
                 have q3 := q2.far (o := 2) ((hY.put 0 (.int .i64 (U (j * 5 + 1)))).put 1 (.int .i64 (U (j * 5 + 2)))) neItBx hyl (.int .i64 (U (j * 5 + 3)))
                 have q4 := q3.far (o := 3) (((hY.put 0 (.int .i64 (U (j * 5 + 1)))).put 1 (.int .i64 (U (j * 5 + 2)))).put 2 (.int .i64 (U (j * 5 + 3)))) neItBx hyl (.int .i64 (U (j * 5 + 4)))
                 have y4 := (((hY.put 0 (.int .i64 (U (j * 5 + 1)))).put 1 (.int .i64 (U (j * 5 + 2)))).put 2 (.int .i64 (U (j * 5 + 3)))).put 3 (.int .i64 (U (j * 5 + 4)))
                 have x4 := (((hX.far (o := 0) (Ne.symm hxy) (.int .i64 (U (j * 5 + 1)))).far (o := 1) (Ne.symm hxy) (.int .i64 (U (j * 5 + 2)))).far (o := 2) (Ne.symm hxy) (.int .i64 (U (j * 5 + 3)))).far (o := 3) (Ne.symm hxy) (.int .i64 (U (j * 5 + 4)))
                 clear q1 q2 q3 hD hX hY vc
                 have vc := q4.vc
                 generalize ((((w10.setCell ⟨yb, 0, none⟩ (.int .i64 (U (j * 5 + 1)))).setCell ⟨yb, 1, none⟩ (.int .i64 (U (j * 5 + 2)))).setCell ⟨yb, 2, none⟩ (.int .i64 (U (j * 5 + 3)))).setCell ⟨yb, 3, none⟩ (.int .i64 (U (j * 5 + 4)))) = w11 at q4 x4 y4 vc ⊢
                 refine tr hK (fun hHeld => ?_)
                 clear hK K)
                refine wpAnyH_done (by kernel_rfl) ?_ _
                go_wp2_with fail
                go_meet
                exact ⟨_, _, _, _, _, rfl, hyl, hxy, q4, x4, y4⟩
              · (go_simp
                 have hY := Blk.new w6 #[.int .i64 0, .int .i64 0, .int .i64 0, .int .i64 0] 29
                 have hxy : w6.heap.size ≠ xb := by have := hX.lt; omega
                 replace hX := hX.al (.cells #[.int .i64 0, .int .i64 0, .int .i64 0, .int .i64 0] 29)
                 have hyl : w.heap.size + 1 < w6.heap.size := hD.sz
                 replace hD := hD.al (.cells #[.int .i64 0, .int .i64 0, .int .i64 0, .int .i64 0] 29)
                 clear vc
                 have vc := hD.vc
                 generalize (w6.alloc (.cells #[.int .i64 0, .int .i64 0, .int .i64 0, .int .i64 0] 29)) = w10 at hD hX hY vc ⊢
                 generalize w6.heap.size = yb at hY hxy hyl ⊢
                 refine tr hK (fun hHeld => ?_)
                 clear hK K)
                refine tc 9 fun K hK => ?_
                (have u1 := hD.own.cellq (q := j * 5 + 1) (by omega)
                 have u2 := hD.own.cellq (q := j * 5 + 2) (by omega)
                 have u3 := hD.own.cellq (q := j * 5 + 3) (by omega)
                 have u4 := hD.own.cellq (q := j * 5 + 4) (by omega)
                 go_simp
                 refine tr hK (fun hHeld => ?_)
                 clear hK K)
                refine tc 11 fun K hK => ?_
                (have yc0 := hY.cell 0 rfl
                 have yc1 := hY.cell 1 rfl
                 have yc2 := hY.cell 2 rfl
                 have yc3 := hY.cell 3 rfl
                 have yf := hY.f
                 go_simp
                 clear yf yc0 yc1 yc2 yc3
                 have q1 := hD.far (o := 0) hY neItBx hyl (.int .i64 (U (j * 5 + 1)))
                 have q2 := q1.far (o := 1) (hY.put 0 (.int .i64 (U (j * 5 + 1)))) neItBx hyl (.int .i64 (U (j * 5 + 2)))
                 have q3 := q2.far (o := 2) ((hY.put 0 (.int .i64 (U (j * 5 + 1)))).put 1 (.int .i64 (U (j * 5 + 2)))) neItBx hyl (.int .i64 (U (j * 5 + 3)))
                 have q4 := q3.far (o := 3) (((hY.put 0 (.int .i64 (U (j * 5 + 1)))).put 1 (.int .i64 (U (j * 5 + 2)))).put 2 (.int .i64 (U (j * 5 + 3)))) neItBx hyl (.int .i64 (U (j * 5 + 4)))
                 have y4 := (((hY.put 0 (.int .i64 (U (j * 5 + 1)))).put 1 (.int .i64 (U (j * 5 + 2)))).put 2 (.int .i64 (U (j * 5 + 3)))).put 3 (.int .i64 (U (j * 5 + 4)))
                 have x4 := (((hX.far (o := 0) (Ne.symm hxy) (.int .i64 (U (j * 5 + 1)))).far (o := 1) (Ne.symm hxy) (.int .i64 (U (j * 5 + 2)))).far (o := 2) (Ne.symm hxy) (.int .i64 (U (j * 5 + 3)))).far (o := 3) (Ne.symm hxy) (.int .i64 (U (j * 5 + 4)))
                 clear q1 q2 q3 hD hX hY vc
                 have vc := q4.vc
                 generalize ((((w10.setCell ⟨yb, 0, none⟩ (.int .i64 (U (j * 5 + 1)))).setCell ⟨yb, 1, none⟩ (.int .i64 (U (j * 5 + 2)))).setCell ⟨yb, 2, none⟩ (.int .i64 (U (j * 5 + 3)))).setCell ⟨yb, 3, none⟩ (.int .i64 (U (j * 5 + 4)))) = w11 at q4 x4 y4 vc ⊢
                 refine tr hK (fun hHeld => ?_)
                 clear hK K)
                refine wpAnyH_done (by kernel_rfl) ?_ _
                go_wp2_with fail
                go_meet
                exact ⟨_, _, _, _, _, rfl, hyl, hxy, q4, x4, y4⟩
            · (go_simp
               have hY := Blk.new wc #[.int .i64 0, .int .i64 0, .int .i64 0, .int .i64 0] 29
               have hxy : wc.heap.size ≠ xb := by have := hX.lt; omega
               replace hX := hX.al (.cells #[.int .i64 0, .int .i64 0, .int .i64 0, .int .i64 0] 29)
               have hyl : w.heap.size + 1 < wc.heap.size := hD.sz
               replace hD := hD.al (.cells #[.int .i64 0, .int .i64 0, .int .i64 0, .int .i64 0] 29)
               replace hD := hD.dr
               replace hX := hX.dr
               replace hY := hY.dr
               clear vc
               have vc := hD.vc
               generalize (wc.alloc (.cells #[.int .i64 0, .int .i64 0, .int .i64 0, .int .i64 0] 29)).drew = w10 at hD hX hY vc ⊢
               generalize wc.heap.size = yb at hY hxy hyl ⊢
               refine tr hK (fun hHeld => ?_)
               clear hK K)
              refine tc 6 fun K hK => ?_
              (go_simp
               (go_at_call 36; refine (pick_s rb (p1 + 601) _ _ (by exact hD.fr.rs) (by omega) (by omega) (by omega)).mono ?_; rintro e w6 ⟨v6, rfl, va6, vb6, hr6⟩)
               obtain ⟨j, hj⟩ : ∃ j : Nat, v6 = (j : Int) := ⟨v6.toNat, by omega⟩
               subst hj
               have hjn : j < n := (by omega)
               have hyne : yb ≠ rb := (by omega)
               replace hY := hY.but (RB.but hr6) hyne
               replace hX := hX.but (RB.but hr6) (by omega)
               replace hD := hD.call hr6
               clear hr6 vc
               have vc := hD.vc
               (try go_wp2_with fail)
               refine tr hK (fun hHeld => ?_)
               clear hK K)
              refine tq 7 hHeld ?_
              refine tq 8 hHeld ?_
              refine tc 9 fun K hK => ?_
              (have u1 := hD.own.cellq (q := j * 5 + 1) (by omega)
               have u2 := hD.own.cellq (q := j * 5 + 2) (by omega)
               have u3 := hD.own.cellq (q := j * 5 + 3) (by omega)
               have u4 := hD.own.cellq (q := j * 5 + 4) (by omega)
               go_simp
               refine tr hK (fun hHeld => ?_)
               clear hK K)
              refine tc 11 fun K hK => ?_
              (have yc0 := hY.cell 0 rfl
               have yc1 := hY.cell 1 rfl
               have yc2 := hY.cell 2 rfl
               have yc3 := hY.cell 3 rfl
               have yf := hY.f
               go_simp
               clear yf yc0 yc1 yc2 yc3
               have q1 := hD.far (o := 0) hY neItBx hyl (.int .i64 (U (j * 5 + 1)))
               have q2 := q1.far (o := 1) (hY.put 0 (.int .i64 (U (j * 5 + 1)))) neItBx hyl (.int .i64 (U (j * 5 + 2)))
               have q3 := q2.far (o := 2) ((hY.put 0 (.int .i64 (U (j * 5 + 1)))).put 1 (.int .i64 (U (j * 5 + 2)))) neItBx hyl (.int .i64 (U (j * 5 + 3)))
               have q4 := q3.far (o := 3) (((hY.put 0 (.int .i64 (U (j * 5 + 1)))).put 1 (.int .i64 (U (j * 5 + 2)))).put 2 (.int .i64 (U (j * 5 + 3)))) neItBx hyl (.int .i64 (U (j * 5 + 4)))
               have y4 := (((hY.put 0 (.int .i64 (U (j * 5 + 1)))).put 1 (.int .i64 (U (j * 5 + 2)))).put 2 (.int .i64 (U (j * 5 + 3)))).put 3 (.int .i64 (U (j * 5 + 4)))
               have x4 := (((hX.far (o := 0) (Ne.symm hxy) (.int .i64 (U (j * 5 + 1)))).far (o := 1) (Ne.symm hxy) (.int .i64 (U (j * 5 + 2)))).far (o := 2) (Ne.symm hxy) (.int .i64 (U (j * 5 + 3)))).far (o := 3) (Ne.symm hxy) (.int .i64 (U (j * 5 + 4)))
               clear q1 q2 q3 hD hX hY vc
               have vc := q4.vc
               generalize ((((w6.setCell ⟨yb, 0, none⟩ (.int .i64 (U (j * 5 + 1)))).setCell ⟨yb, 1, none⟩ (.int .i64 (U (j * 5 + 2)))).setCell ⟨yb, 2, none⟩ (.int .i64 (U (j * 5 + 3)))).setCell ⟨yb, 3, none⟩ (.int .i64 (U (j * 5 + 4)))) = w11 at q4 x4 y4 vc ⊢
               refine tr hK (fun hHeld => ?_)
               clear hK K)
              refine wpAnyH_done (by kernel_rfl) ?_ _
              go_wp2_with fail
              go_meet
              exact ⟨_, _, _, _, _, rfl, hyl, hxy, q4, x4, y4⟩
          case rest =>
          clear hD hX vc hg2
          obtain ⟨yb, y0, y1, y2, y3, rfl, hyl, hxy, hD, hX, hY⟩ := hcut
          have z0 := hY.cell 0 rfl
          have z1 := hY.cell 1 rfl
          go_upto_region 8 with fail
          go_cut [] (fun wc => ∃ x y u v : Int, Bq w wc rb (p1 + 604) (w.heap.size + 1) (some ⟨g, 0, none⟩) n c U ∧ Blk wc xb #[.int .i64 x, .int .i64 y, .int .i64 u, .int .i64 v] 29)
          case first =>
            have z0 := hY.cell 0 rfl
            have z1 := hY.cell 1 rfl
            refine wp_region_held_drew (S := fun w' => w'.cell? ⟨yb, 0, none⟩ = some (.int .i64 y0) ∧ w'.cell? ⟨yb, 1, none⟩ = some (.int .i64 y1)) (by kernel_rfl) ?_ (fun hHeld => ?_)
            · (try dsimp only)
              (first | (go_simp; done) | (go_keep; done))
            refine tq 0 hHeld ?_
            refine tq 1 hHeld ?_
            refine tq 2 hHeld ?_
            refine tq 3 hHeld ?_
            refine tq 7 hHeld ?_
            refine tq 8 hHeld ?_
            refine tq 9 hHeld ?_
            refine tq 10 hHeld ?_
            refine tc 4 fun K hK => ?_
            (go_simp
             replace hD := hD.dr
             replace hX := hX.dr
             replace hY := hY.dr
             (go_at_call 36; refine (pick_s rb (p1 + 602) _ _ (by exact hD.fr.rs) (by omega) (by omega) (by omega)).mono ?_; rintro e w4 ⟨v4, rfl, va4, vb4, hr4⟩)
             replace hY := hY.but (RB.but hr4) (by omega)
             replace hX := hX.but (RB.but hr4) (by omega)
             replace hD := hD.call hr4
             clear hr4 z0 z1
             have z0 := hY.cell 0 rfl
             have z1 := hY.cell 1 rfl
             obtain ⟨s0, hs0⟩ : ∃ s, IntKind.i64.wrap (y0 + v4) = s := ⟨_, rfl⟩
             obtain ⟨t0, ht0⟩ : ∃ s, IntKind.i64.wrap (s0 - 128) = s := ⟨_, rfl⟩
             (try go_wp2_with fail)
             refine tr hK (fun hHeld => ?_)
             clear hK K)
            refine tq 5 hHeld ?_
            refine tq 6 hHeld ?_
            refine tc 11 fun K hK => ?_
            (go_simp
             (go_at_call 36; refine (pick_s rb (p1 + 603) _ _ (by exact hD.fr.rs) (by omega) (by omega) (by omega)).mono ?_; rintro e w11 ⟨v11, rfl, va11, vb11, hr11⟩)
             replace hY := hY.but (RB.but hr11) (by omega)
             replace hX := hX.but (RB.but hr11) (by omega)
             replace hD := hD.call hr11
             clear hr11 z0 z1
             have z0 := hY.cell 0 rfl
             have z1 := hY.cell 1 rfl
             obtain ⟨s1, hs1⟩ : ∃ s, IntKind.i64.wrap (y1 + v11) = s := ⟨_, rfl⟩
             obtain ⟨t1, ht1⟩ : ∃ s, IntKind.i64.wrap (s1 - 128) = s := ⟨_, rfl⟩
             (try go_wp2_with fail)
             refine tr hK (fun hHeld => ?_)
             clear hK K)
            refine tq 12 hHeld ?_
            refine tq 13 hHeld ?_
            refine tq 14 hHeld ?_
            refine tq 15 hHeld ?_
            refine tc 16 fun K hK => ?_
            (have xc0 := hX.cell 0 rfl
             have xc1 := hX.cell 1 rfl
             have xc2 := hX.cell 2 rfl
             have xc3 := hX.cell 3 rfl
             have xf := hX.f
             go_simp
             clear xf xc0 xc1 xc2 xc3
             have q1 := hD.far (o := 0) hX neItBx hxl (.int .i64 t0)
             have q2 := q1.far (o := 1) (hX.put 0 (.int .i64 t0)) neItBx hxl (.int .i64 t1)
             have q3 := q2.far (o := 2) ((hX.put 0 (.int .i64 t0)).put 1 (.int .i64 t1)) neItBx hxl (.int .i64 0)
             have q4 := q3.far (o := 3) (((hX.put 0 (.int .i64 t0)).put 1 (.int .i64 t1)).put 2 (.int .i64 0)) neItBx hxl (.int .i64 0)
             have x4 := ((((hX.put 0 (.int .i64 t0)).put 1 (.int .i64 t1)).put 2 (.int .i64 0)).put 3 (.int .i64 0))
             have y4 := ((((hY.far (o := 0) hxy (.int .i64 t0)).far (o := 1) hxy (.int .i64 t1)).far (o := 2) hxy (.int .i64 0)).far (o := 3) hxy (.int .i64 0))
             clear q1 q2 q3 hD hX hY z0 z1
             have z0 := y4.cell 0 rfl
             have z1 := y4.cell 1 rfl
             generalize ((((w11.setCell ⟨xb, 0, none⟩ (.int .i64 t0)).setCell ⟨xb, 1, none⟩ (.int .i64 t1)).setCell ⟨xb, 2, none⟩ (.int .i64 0)).setCell ⟨xb, 3, none⟩ (.int .i64 0)) = w16 at q4 x4 y4 z0 z1 ⊢
             refine tr hK (fun hHeld => ?_)
             clear hK K)
            refine wpAnyH_done (by kernel_rfl) ?_ _
            go_wp2_with fail
            go_meet
            exact ⟨_, _, _, _, q4, x4⟩
          case rest =>
          clear hD hX hY z0 z1
          obtain ⟨x, y, u, v, hD, hX⟩ := hcut
          have z0 := hX.cell 0 rfl
          have z1 := hX.cell 1 rfl
          have zf := hX.f
          go_upto_region 9 with fail
          refine wp_region_held_drew (S := fun w' => w'.cell? ⟨xb, 0, none⟩ = some (.int .i64 x) ∧ w'.cell? ⟨xb, 1, none⟩ = some (.int .i64 y)) (by kernel_rfl) ?_ (fun hHeld => ?_)
          · (try dsimp only)
            (first | (go_simp; done) | (go_keep; done))
          refine tq 0 hHeld ?_
          refine tq 1 hHeld ?_
          refine tq 2 hHeld ?_
          refine tq 3 hHeld ?_
          refine tq 6 hHeld ?_
          refine tq 7 hHeld ?_
          refine tq 8 hHeld ?_
          refine tq 9 hHeld ?_
          refine tc 4 fun K hK => ?_
          (go_simp
           replace hD := hD.dr
           replace hX := hX.dr
           (go_at_call 36; refine (pick_s rb (p1 + 604) _ _ (by exact hD.fr.rs) (by omega) (by omega) (by omega)).mono ?_; rintro e w4 ⟨v4, rfl, va4, vb4, hr4⟩)
           replace hX := hX.but (RB.but hr4) (by omega)
           replace hD := hD.call hr4
           clear hr4 z0 z1 zf
           have z0 := hX.cell 0 rfl
           have z1 := hX.cell 1 rfl
           have zf := hX.f
           obtain ⟨s0, hs0⟩ : ∃ s, IntKind.i64.wrap (x + v4) = s := ⟨_, rfl⟩
           (try go_wp2_with fail)
           refine tr hK (fun hHeld => ?_)
           clear hK K)
          refine tq 5 hHeld ?_
          refine tc 10 fun K hK => ?_
          (go_simp
           (go_at_call 36; refine (pick_s rb (p1 + 605) _ _ (by exact hD.fr.rs) (by omega) (by omega) (by omega)).mono ?_; rintro e w10 ⟨v10, rfl, va10, vb10, hr10⟩)
           replace hX := hX.but (RB.but hr10) (by omega)
           replace hD := hD.call hr10
           clear hr10 z0 z1 zf
           have z0 := hX.cell 0 rfl
           have z1 := hX.cell 1 rfl
           have zf := hX.f
           obtain ⟨s1, hs1⟩ : ∃ s, IntKind.i64.wrap (y + v10) = s := ⟨_, rfl⟩
           (try go_wp2_with fail)
           refine tr hK (fun hHeld => ?_)
           clear hK K)
          refine tq 11 hHeld ?_
          refine tq 12 hHeld ?_
          refine tq 13 hHeld ?_
          refine tc 14 fun K hK => ?_
          (have z2 := hX.cell 2 rfl
           have z3 := hX.cell 3 rfl
           go_simp
           clear z2 z3
           have q1 := hD.far (o := 2) hX neItBx hxl (.int .i64 s0)
           have q2 := q1.far (o := 3) (hX.put 2 (.int .i64 s0)) neItBx hxl (.int .i64 s1)
           have x4 := (hX.put 2 (.int .i64 s0)).put 3 (.int .i64 s1)
           clear q1 hD hX z0 z1 zf
           have z0 := x4.cell 0 rfl
           have z1 := x4.cell 1 rfl
           generalize ((w10.setCell ⟨xb, 2, none⟩ (.int .i64 s0)).setCell ⟨xb, 3, none⟩ (.int .i64 s1)) = w14 at q2 x4 z0 z1 ⊢
           refine tr hK (fun hHeld => ?_)
           clear hK K)
          refine wpAnyH_done (by kernel_rfl) ?_ _
          go_wp2_with fail
          go_meet
          exact ⟨_, _, _, _, q2.mono (by omega), x4⟩
      case rest =>
      clear hD hX
      obtain ⟨x, y, u, v, hD, hX⟩ := hcut
      refine hK8 _ _ ?_
      have vc := hD.vc
      have vf := hD.vf
      have z0 := hX.cell 0 rfl
      have z1 := hX.cell 1 rfl
      have z2 := hX.cell 2 rfl
      have z3 := hX.cell 3 rfl
      go_upto_region 10 with fail
      refine wp_region_held_drew (S := fun w' => w'.cell? ⟨xb, 0, none⟩ = some (.int .i64 x) ∧ w'.cell? ⟨xb, 1, none⟩ = some (.int .i64 y) ∧ w'.cell? ⟨xb, 2, none⟩ = some (.int .i64 u) ∧ w'.cell? ⟨xb, 3, none⟩ = some (.int .i64 v)) (by kernel_rfl) ?_ (fun hHeld => ?_)
      · (try dsimp only)
        (first | (go_simp; done) | (go_keep; done))
      refine tq 1 hHeld ?_
      refine tq 3 hHeld ?_
      refine wpAnyH_ready (rs := [0, 2]) (by kernel_rfl) (by simp) ?_
      refine AllReadyH.cons rfl (fun K hK => ?_) (AllReadyH.cons rfl (fun K hK => ?_) AllReadyH.nil)
      · (have _ := vc
         go_simp
         refine tr hK (fun hHeld => ?_)
         clear hK K)
        refine tc 2 fun K hK => ?_
        (go_simp
         replace hD := hD.dr
         replace hX := hX.dr
         (go_at_call 36; refine (pick_s rb (p1 + 610) _ _ (by exact hD.fr.rs) (by omega) (by omega) (by omega)).mono ?_; rintro e w2 ⟨v2, rfl, va2, vb2, hr2⟩)
         replace hX := hX.but (RB.but hr2) (by omega)
         replace hD := hD.call hr2
         clear hr2 vc vf z0 z1 z2 z3
         have vc := hD.vc
         have vf := hD.vf
         have z0 := hX.cell 0 rfl
         have z1 := hX.cell 1 rfl
         have z2 := hX.cell 2 rfl
         have z3 := hX.cell 3 rfl
         (try go_wp2_with fail)
         refine tr hK (fun hHeld => ?_)
         clear hK K)
        refine tq 4 hHeld ?_
        refine tc 5 fun K hK => ?_
        (go_simp
         obtain ⟨k, hk⟩ := isAt_ex n U ((fun jj => [v2, x, y, u, v].getD jj 0) 0)
         obtain ⟨N, R, B, hPu, hN1, hN2⟩ := putIs_ex n U (fun jj => [v2, x, y, u, v].getD jj 0) k
         (go_at_call 11; refine (sPut_own (w.heap.size + 1) a n c U (fun jj => [v2, x, y, u, v].getD jj 0) k _ (by exact hD.own) (by omega) hk N R B hPu).mono ?_; rintro e w5 ⟨a5, c5, rfl, hOu⟩)
         replace hX := hX.on hOu.bel
         have hD5 := hD.calb hOu.bel
         clear vc vf z0 z1 z2 z3
         have vc := hD5.vc
         have vf := hD5.vf
         have z0 := hX.cell 0 rfl
         have z1 := hX.cell 1 rfl
         have z2 := hX.cell 2 rfl
         have z3 := hX.cell 3 rfl
         clear hD5
         (try go_wp2_with fail)
         refine tr hK (fun hHeld => ?_)
         clear hK K)
        refine tq 6 hHeld ?_
        refine tq 7 hHeld ?_
        refine tq 8 hHeld ?_
        refine tc 9 fun K hK => ?_
        (go_simp
         have q4 := hD.put hOu
         have x4 := hX.far (b' := w.heap.size + 1) (o := 0) (by omega) (.slice a5 N c5)
         clear hD hX vc vf z0 z1 z2 z3
         have z0 := x4.cell 0 rfl
         have z1 := x4.cell 1 rfl
         have z2 := x4.cell 2 rfl
         have z3 := x4.cell 3 rfl
         generalize (w5.setCell ⟨w.heap.size + 1, 0, none⟩ (.slice a5 N c5)) = w9 at q4 x4 z0 z1 z2 z3 ⊢
         refine tr hK (fun hHeld => ?_)
         clear hK K)
        refine wpAnyH_done (by kernel_rfl) ?_ _
        go_wp2_with fail
        go_roundw
        case rel => exact ⟨r - 1, _, _, _, _, by first | go_num | (congr 1; omega), by omega, putIs_ok hPu hk hB, (putIs_ids hPu hk hB hid.out (by show v2 < 12; omega)), q4.mono (by omega)⟩
        case measure => simp [intOf]; omega
      · (go_simp
         replace hD := hD.dr
         replace hX := hX.dr
         (go_at_call 36; refine (pick_s rb (p1 + 610) _ _ (by exact hD.fr.rs) (by omega) (by omega) (by omega)).mono ?_; rintro e w2 ⟨v2, rfl, va2, vb2, hr2⟩)
         replace hX := hX.but (RB.but hr2) (by omega)
         replace hD := hD.call hr2
         clear hr2 vc vf z0 z1 z2 z3
         have vc := hD.vc
         have vf := hD.vf
         have z0 := hX.cell 0 rfl
         have z1 := hX.cell 1 rfl
         have z2 := hX.cell 2 rfl
         have z3 := hX.cell 3 rfl
         (try go_wp2_with fail)
         refine tr hK (fun hHeld => ?_)
         clear hK K)
        refine tq 4 hHeld ?_
        refine tc 0 fun K hK => ?_
        (have _ := vc
         go_simp
         refine tr hK (fun hHeld => ?_)
         clear hK K)
        refine tc 5 fun K hK => ?_
        (go_simp
         obtain ⟨k, hk⟩ := isAt_ex n U ((fun jj => [v2, x, y, u, v].getD jj 0) 0)
         obtain ⟨N, R, B, hPu, hN1, hN2⟩ := putIs_ex n U (fun jj => [v2, x, y, u, v].getD jj 0) k
         (go_at_call 11; refine (sPut_own (w.heap.size + 1) a n c U (fun jj => [v2, x, y, u, v].getD jj 0) k _ (by exact hD.own) (by omega) hk N R B hPu).mono ?_; rintro e w5 ⟨a5, c5, rfl, hOu⟩)
         replace hX := hX.on hOu.bel
         have hD5 := hD.calb hOu.bel
         clear vc vf z0 z1 z2 z3
         have vc := hD5.vc
         have vf := hD5.vf
         have z0 := hX.cell 0 rfl
         have z1 := hX.cell 1 rfl
         have z2 := hX.cell 2 rfl
         have z3 := hX.cell 3 rfl
         clear hD5
         (try go_wp2_with fail)
         refine tr hK (fun hHeld => ?_)
         clear hK K)
        refine tq 6 hHeld ?_
        refine tq 7 hHeld ?_
        refine tq 8 hHeld ?_
        refine tc 9 fun K hK => ?_
        (go_simp
         have q4 := hD.put hOu
         have x4 := hX.far (b' := w.heap.size + 1) (o := 0) (by omega) (.slice a5 N c5)
         clear hD hX vc vf z0 z1 z2 z3
         have z0 := x4.cell 0 rfl
         have z1 := x4.cell 1 rfl
         have z2 := x4.cell 2 rfl
         have z3 := x4.cell 3 rfl
         generalize (w5.setCell ⟨w.heap.size + 1, 0, none⟩ (.slice a5 N c5)) = w9 at q4 x4 z0 z1 z2 z3 ⊢
         refine tr hK (fun hHeld => ?_)
         clear hK K)
        refine wpAnyH_done (by kernel_rfl) ?_ _
        go_wp2_with fail
        go_roundw
        case rel => exact ⟨r - 1, _, _, _, _, by first | go_num | (congr 1; omega), by omega, putIs_ok hPu hk hB, (putIs_ids hPu hk hB hid.out (by show v2 < 12; omega)), q4.mono (by omega)⟩
        case measure => simp [intOf]; omega
    · have hr00 : ¬ (0 : Int) < (r : Int) := by omega
      have hD := hD.mono (p1 := p + 10000) (by omega)
      go_upto_region 11 with fail
      go_cut [77] (fun s77 wc => ∃ z : Bool, s77 = .bool z ∧ Bq w wc rb (p + 10001) (w.heap.size + 1) a n c U)
      case first =>
        go_wp2_with (go_at_call 36; refine (pick_s rb (p + 10000) _ _ (by exact hD.fr.rs) (by omega) (by omega) (by omega)).mono ?_; rintro e w2 ⟨v2, rfl, va2, vb2, hr2⟩)
        go_meet
        exact ⟨_, rfl, hD.call hr2⟩
      case rest =>
      clear hD
      obtain ⟨z, rfl, hD⟩ := hcut
      cases z with
      | false =>
        have hD := hD.mono (p1 := p + 40000) (by omega)
        have hz := hD.sz
        have vc := hD.vc
        have hR9 := hD.res.put 0 (.slice a n c)
        have hF9 := hD.fr.setNew (a := ⟨w.heap.size, 0, none⟩) (by have := hD.lo; show rb < w.heap.size; omega) (Nat.le_refl _) (.slice a n c)
        have hO9 := (hD.own.stb (b := w.heap.size) (o := 0) (by intro e; have := (hD.own.lt _ e).1; omega) (.slice a n c)).base (B := w.heap.size) (by omega)
        have rc0 := hD.res.cell 0 rfl
        have rf0 := hD.res.f 0
        go_wp2_with fail
        clear vc rc0 rf0
        generalize wc.setCell ⟨w.heap.size, 0, none⟩ (.slice a n c) = w9 at hR9 hF9 hO9 ⊢
        have rc := hR9.cell 0 rfl
        exact bodyPost_ret (v := .agg #[.slice a n c]) (by simp [results, Try.results59, go_sem, rc]) rfl ⟨a, n, c, rfl, U, hB, hF9, hO9⟩
      | true =>
        go_upto_region 13 with fail
        go_loopw [7] (fun s7 wr => ∃ (j : Nat) (a : Option Addr) (n c : Nat) (U : Nat → Int), s7 = .int .i64 (j : Int) ∧ j ≤ n ∧ broadB n U = true ∧ Shut (∀ q, q < n → U (q * 5) < 20 + (j : Int)) ∧ Bq w wr rb (p + 10001 + 1000 * j) (w.heap.size + 1) a n c U) (fun s7 _ => 24 - (intOf s7).toNat)
        case atStart => exact ⟨0, a, n, c, U, rfl, Nat.zero_le _, hB, (fun q hq => by have := hid.out q hq; omega), hD.mono (by omega)⟩
        case round =>
          clear hD hB hid hn24
          obtain ⟨j, a, n, c, U, rfl, hjn, hB, hid, hD⟩ := hrel
          have hn24 := broad_le hB
          have vc := hD.vc
          have vf := hD.vf
          by_cases hlt : n < 24
          · have hlti : (n : Int) < 24 := by omega
            obtain ⟨p1, hp1⟩ : ∃ p1, p + 10001 + 1000 * j = p1 := ⟨_, rfl⟩
            have hp1b : p1 ≤ 540000 := by omega
            have hp1c : p1 + 1000 = p + 10001 + 1000 * (j + 1) := by omega
            have hw20 : IntKind.i64.wrap (20 + (j : Int)) = 20 + (j : Int) := i64w (by omega)
            rw [hp1] at hD
            clear hp1
            go_upto_region 15 with fail
            refine wp_region_held_drew (S := fun w' => True) (by kernel_rfl) ?_ (fun hHeld => ?_)
            · trivial
            refine tq 1 hHeld ?_
            refine tq 2 hHeld ?_
            refine tq 3 hHeld ?_
            refine wpAnyH_ready (rs := [0, 4]) (by kernel_rfl) (by simp) ?_
            refine AllReadyH.cons rfl (fun K hK => ?_) (AllReadyH.cons rfl (fun K hK => ?_) AllReadyH.nil)
            · (have _ := vc
               go_simp
               refine tr hK (fun hHeld => ?_) trivial
               clear hK K)
              refine tc 4 fun K hK => ?_
              (go_simp
               replace hD := hD.dr
               (go_at_call 56; refine (l11Box_k rb (p1) _ (by exact hD.fr.rs) (by omega)).mono ?_; rintro e w4 ⟨x, y, u, v, rfl, ⟨⟨bx, by_⟩, bu, bv⟩, ⟨o1, o2⟩, hr4⟩)
               replace hD := hD.call hr4
               clear hr4 vc vf
               have vc := hD.vc
               have vf := hD.vf
               (try go_wp2_with fail)
               refine tr hK (fun hHeld => ?_) trivial
               clear hK K)
              refine tq 5 hHeld ?_
              refine tc 6 fun K hK => ?_
              (go_simp
               obtain ⟨k, hk⟩ := isAt_ex n U ((fun jj => [20 + (j : Int), x, y, u, v].getD jj 0) 0)
               obtain ⟨N, R, B, hPu, hN1, hN2⟩ := putIs_ex n U (fun jj => [20 + (j : Int), x, y, u, v].getD jj 0) k
               (go_at_call 11; refine (sPut_own (w.heap.size + 1) a n c U (fun jj => [20 + (j : Int), x, y, u, v].getD jj 0) k _ (by exact hD.own) (by omega) hk N R B hPu).mono ?_; rintro e w6 ⟨a5, c5, rfl, hOu⟩)
               have hD5 := hD.calb hOu.bel
               clear vc vf
               have vc := hD5.vc
               have vf := hD5.vf
               clear hD5
               (try go_wp2_with fail)
               refine tr hK (fun hHeld => ?_) trivial
               clear hK K)
              refine tq 7 hHeld ?_
              refine tq 8 hHeld ?_
              refine tq 9 hHeld ?_
              refine tc 10 fun K hK => ?_
              (go_simp
               have q4 := hD.put hOu
               clear hD vc vf
               generalize (w6.setCell ⟨w.heap.size + 1, 0, none⟩ (.slice a5 N c5)) = w9 at q4 ⊢
               refine tr hK (fun hHeld => ?_) trivial
               clear hK K)
              refine wpAnyH_done (by kernel_rfl) ?_ _
              go_wp2_with fail
              have hit : itemB (fun jj => [20 + (j : Int), x, y, u, v].getD jj 0) = true := by
                unfold Bp at bx by_ bu bv
                unfold itemB bokB vokB leB
                simp only [Bool.and_eq_true, decide_eq_true_eq]
                show (0 ≤ 20 + (j : Int) ∧ 20 + (j : Int) ≤ 1000000000) ∧ (-1000000000 ≤ x ∧ x ≤ 1000000000 ∧ -1000000000 ≤ y ∧ y ≤ 1000000000) ∧ (-1000000000 ≤ u ∧ u ≤ 1000000000 ∧ -1000000000 ≤ v ∧ v ≤ 1000000000) ∧ x ≤ u ∧ y ≤ v
                omega
              have hNe := putIs_new hPu hB hit hlt (by show ∀ q, q < n → U (q * 5) < 20 + (j : Int); exact hid.out)
              go_roundw
              case rel => exact ⟨j + 1, _, _, _, _, by first | go_num | (congr 1; omega), by omega, putIs_ok hPu hk hB, (putIs_ids hPu hk hB (M := 20 + ((j + 1 : Nat) : Int)) (fun q hq => by have := hid.out q hq; omega) (by show 20 + (j : Int) < _; omega)), q4.mono (by omega)⟩
              case measure => simp [intOf]; omega
            · (go_simp
               replace hD := hD.dr
               (go_at_call 56; refine (l11Box_k rb (p1) _ (by exact hD.fr.rs) (by omega)).mono ?_; rintro e w4 ⟨x, y, u, v, rfl, ⟨⟨bx, by_⟩, bu, bv⟩, ⟨o1, o2⟩, hr4⟩)
               replace hD := hD.call hr4
               clear hr4 vc vf
               have vc := hD.vc
               have vf := hD.vf
               (try go_wp2_with fail)
               refine tr hK (fun hHeld => ?_) trivial
               clear hK K)
              refine tq 5 hHeld ?_
              refine tc 0 fun K hK => ?_
              (have _ := vc
               go_simp
               refine tr hK (fun hHeld => ?_) trivial
               clear hK K)
              refine tc 6 fun K hK => ?_
              (go_simp
               obtain ⟨k, hk⟩ := isAt_ex n U ((fun jj => [20 + (j : Int), x, y, u, v].getD jj 0) 0)
               obtain ⟨N, R, B, hPu, hN1, hN2⟩ := putIs_ex n U (fun jj => [20 + (j : Int), x, y, u, v].getD jj 0) k
               (go_at_call 11; refine (sPut_own (w.heap.size + 1) a n c U (fun jj => [20 + (j : Int), x, y, u, v].getD jj 0) k _ (by exact hD.own) (by omega) hk N R B hPu).mono ?_; rintro e w6 ⟨a5, c5, rfl, hOu⟩)
               have hD5 := hD.calb hOu.bel
               clear vc vf
               have vc := hD5.vc
               have vf := hD5.vf
               clear hD5
               (try go_wp2_with fail)
               refine tr hK (fun hHeld => ?_) trivial
               clear hK K)
              refine tq 7 hHeld ?_
              refine tq 8 hHeld ?_
              refine tq 9 hHeld ?_
              refine tc 10 fun K hK => ?_
              (go_simp
               have q4 := hD.put hOu
               clear hD vc vf
               generalize (w6.setCell ⟨w.heap.size + 1, 0, none⟩ (.slice a5 N c5)) = w9 at q4 ⊢
               refine tr hK (fun hHeld => ?_) trivial
               clear hK K)
              refine wpAnyH_done (by kernel_rfl) ?_ _
              go_wp2_with fail
              have hit : itemB (fun jj => [20 + (j : Int), x, y, u, v].getD jj 0) = true := by
                unfold Bp at bx by_ bu bv
                unfold itemB bokB vokB leB
                simp only [Bool.and_eq_true, decide_eq_true_eq]
                show (0 ≤ 20 + (j : Int) ∧ 20 + (j : Int) ≤ 1000000000) ∧ (-1000000000 ≤ x ∧ x ≤ 1000000000 ∧ -1000000000 ≤ y ∧ y ≤ 1000000000) ∧ (-1000000000 ≤ u ∧ u ≤ 1000000000 ∧ -1000000000 ≤ v ∧ v ≤ 1000000000) ∧ x ≤ u ∧ y ≤ v
                omega
              have hNe := putIs_new hPu hB hit hlt (by show ∀ q, q < n → U (q * 5) < 20 + (j : Int); exact hid.out)
              go_roundw
              case rel => exact ⟨j + 1, _, _, _, _, by first | go_num | (congr 1; omega), by omega, putIs_ok hPu hk hB, (putIs_ids hPu hk hB (M := 20 + ((j + 1 : Nat) : Int)) (fun q hq => by have := hid.out q hq; omega) (by show 20 + (j : Int) < _; omega)), q4.mono (by omega)⟩
              case measure => simp [intOf]; omega
          · have hlti : ¬ (n : Int) < 24 := by omega
            have hD := hD.mono (p1 := p + 40000) (by omega)
            have hz := hD.sz
            have vc := hD.vc
            have hR9 := hD.res.put 0 (.slice a n c)
            have hF9 := hD.fr.setNew (a := ⟨w.heap.size, 0, none⟩) (by have := hD.lo; show rb < w.heap.size; omega) (Nat.le_refl _) (.slice a n c)
            have hO9 := (hD.own.stb (b := w.heap.size) (o := 0) (by intro e; have := (hD.own.lt _ e).1; omega) (.slice a n c)).base (B := w.heap.size) (by omega)
            have rc0 := hD.res.cell 0 rfl
            have rf0 := hD.res.f 0
            go_wp2_with fail
            clear vc rc0 rf0
            generalize wr.setCell ⟨w.heap.size, 0, none⟩ (.slice a n c) = w9 at hR9 hF9 hO9 ⊢
            have rc := hR9.cell 0 rfl
            exact bodyPost_ret (v := .agg #[.slice a n c]) (by simp [results, Try.results59, go_sem, rc]) rfl ⟨a, n, c, rfl, U, hB, hF9, hO9⟩
end Go.Proofs.Ytbngdlbecdloiaa
