/- The draw of boxes, and one that is asked for. -/
import Derived.Test.YtbngdlbecdloiaaDrawBe
import Derived.Deep.RegionHeld3
import Derived.Deep.DeepCutAuto
set_option maxHeartbeats 16000000
set_option maxRecDepth 20000
namespace Go.Proofs.Ytbngdlbecdloiaa
open Go.RowKit
set_option linter.unusedVariables false
set_option linter.unusedSimpArgs false
set_option maxRecDepth 20000 in
set_option maxHeartbeats 8000000 in
theorem drawBroadAsk_k (ac : Option Addr) (len cap : Nat) (w : World) (hb : Bytes w ac len cap) :
    Calls Try.prog 25 #[.slice ac len cap] w fun e w' => ∃ (a : Option Addr) (n c : Nat) (U : Nat → Int) (x y u v : Int), e = .returned (.tuple #[.agg #[.slice a n c], b4 x y u v]) ∧ n ≤ 25 ∧ Below w.heap.size w w' ∧ OwnL w' w.heap.size 31 5 (.slice a n c) n U := by
  have hset := cset_map
  have hE : Below w.heap.size w ((w.alloc (.cells #[.slice none 0 0] 25)).alloc (.cells #[.int .i64 0, .int .i64 0, .int .i64 0, .int .i64 0] 29)) := ((Below.refl _ _).alloc (Nat.le_refl _) _).alloc (by simp) _
  have hb0 := hb.below (((Below.refl _ _).alloc (Nat.le_refl _) _).alloc (by simp) _ : Below w.heap.size w ((w.alloc (.cells #[.slice none 0 0] 25)).alloc (.cells #[.int .i64 0, .int .i64 0, .int .i64 0, .int .i64 0] 29)))
  have hz : ((w.alloc (.cells #[.slice none 0 0] 25)).alloc (.cells #[.int .i64 0, .int .i64 0, .int .i64 0, .int .i64 0] 29)).heap.size = w.heap.size + 2 := by simp
  have hA : Blk ((w.alloc (.cells #[.slice none 0 0] 25)).alloc (.cells #[.int .i64 0, .int .i64 0, .int .i64 0, .int .i64 0] 29)) w.heap.size #[.slice none 0 0] 25 := (Blk.new w _ _).al _
  have hB : Blk ((w.alloc (.cells #[.slice none 0 0] 25)).alloc (.cells #[.int .i64 0, .int .i64 0, .int .i64 0, .int .i64 0] 29)) (w.heap.size + 1) #[.int .i64 0, .int .i64 0, .int .i64 0, .int .i64 0] 29 := by have q := Blk.new (w.alloc (.cells #[.slice none 0 0] 25)) #[.int .i64 0, .int .i64 0, .int .i64 0, .int .i64 0] 29; rw [World.size_alloc] at q; exact q
  go_enter Try.func25, Try.ntmps25
  go_upto_region 1 with fail
  generalize ((w.alloc (.cells #[.slice none 0 0] 25)).alloc (.cells #[.int .i64 0, .int .i64 0, .int .i64 0, .int .i64 0] 29)) = w0 at hE hb0 hz hA hB ⊢
  go_cut [4] (fun s wc => ∃ rb : Nat, s = .pointer (some ⟨rb, 0, none⟩) ∧ w.heap.size + 2 ≤ rb ∧ RS wc rb (0) ∧ Below w.heap.size w wc ∧ Blk wc (w.heap.size) #[.slice none 0 0] 25 ∧ Blk wc (w.heap.size + 1) #[.int .i64 0, .int .i64 0, .int .i64 0, .int .i64 0] 29)
  case first =>
    go_wp2_with (go_at_call 33; refine (l1Open_rb _ _ _ _ hb0).mono ?_; rintro e w1 ⟨rfl, hr1, hbel⟩)
    go_meet
    rw [hz] at hr1
    exact ⟨_, rfl, by omega, hr1.rs, hE.trans (hbel.mono hE.size), hA.on hbel, hB.on hbel⟩
  case rest =>
  clear hE hb0 hz hA hB
  obtain ⟨rb, rfl, hlo, hS, hW, hA, hB⟩ := hcut
  have hlt := hS.lt
  go_upto_region 2 with fail
  go_cut [5] (fun s wc => ∃ (vb B0 : Nat) (a : Option Addr) (n c : Nat) (U : Nat → Int), s = .pointer (some ⟨vb, 0, none⟩) ∧ n ≤ 25 ∧ rb < B0 ∧ B0 ≤ vb ∧ RS wc rb (50000) ∧ Below w.heap.size w wc ∧ Blk wc (w.heap.size) #[.slice none 0 0] 25 ∧ Blk wc (w.heap.size + 1) #[.int .i64 0, .int .i64 0, .int .i64 0, .int .i64 0] 29 ∧ Blk wc (vb) #[.slice a n c] 25 ∧ OwnL wc B0 31 5 (.slice a n c) n U)
  case first =>
    go_wp2_with (go_at_call 34; refine (l11AnyBroad_k rb 0 _ (by exact hS) (by omega)).mono ?_; rintro e w1 ⟨a, n, c, U, rfl, hn, hr1, hO⟩)
    go_meet
    replace hA := hA.but (RB.but hr1) (by omega)
    replace hB := hB.but (RB.but hr1) (by omega)
    replace hW := hW.trans (hr1.old (by omega) hW.size)
    replace hS := hr1.rs
    replace hA := hA.al (.cells #[.slice a n c] 25)
    replace hB := hB.al (.cells #[.slice a n c] 25)
    replace hW := hW.alloc hW.size (.cells #[.slice a n c] 25)
    replace hS := hS.alloc (.cells #[.slice a n c] 25)
    exact ⟨_, _, a, n, c, U, rfl, hn, hlt, hr1.size, hS.mono (by omega), hW, hA, hB, Blk.new _ _ _, hO.al _⟩
  case rest =>
  clear hS hW hA hB hlt
  obtain ⟨vb, B0, a, n, c, U, rfl, hn, hB0, hvb, hS, hW, hA, hB, hV, hO⟩ := hcut
  have hVc0 := hV.cell 0 rfl
  go_upto_region 3 with fail
  go_cut [19] (fun s wc => ∃ z : Bool, s = .bool z ∧ (z = true → 0 < n) ∧ RS wc rb (50001) ∧ Below w.heap.size w wc ∧ Blk wc (w.heap.size) #[.slice none 0 0] 25 ∧ Blk wc (w.heap.size + 1) #[.int .i64 0, .int .i64 0, .int .i64 0, .int .i64 0] 29 ∧ Blk wc (vb) #[.slice a n c] 25 ∧ OwnL wc B0 31 5 (.slice a n c) n U)
  case first =>
    by_cases hn0 : 0 < n
    · have e1 : (0 : Int) < (n : Int) := by omega
      go_wp2_with (go_at_call 36; refine (pick_s rb (50000) _ _ (by exact hS) (by omega) (by omega) (by omega)).mono ?_; rintro e w2 ⟨v2, rfl, va2, vb2, hr2⟩)
      go_meet
      replace hA := hA.but (RB.but hr2) (by omega)
      replace hB := hB.but (RB.but hr2) (by omega)
      replace hV := hV.but (RB.but hr2) (by omega)
      replace hO := hO.btb (RB.but hr2) hB0
      replace hW := hW.trans (hr2.old (by omega) hW.size)
      replace hS := hr2.rs
      exact ⟨_, rfl, fun _ => hn0, hS, hW, hA, hB, hV, hO⟩
    · have e1 : ¬ (0 : Int) < (n : Int) := by omega
      go_wp2_with fail
      go_meet
      exact ⟨false, rfl, (fun e => by cases e), hS.mono (by omega), hW, hA, hB, hV, hO⟩
  case rest =>
  clear hS hW hA hB hV hO hVc0
  obtain ⟨z, rfl, hz, hS, hW, hA, hB, hV, hO⟩ := hcut
  have hVc0 := hV.cell 0 rfl
  cases z with
  | true =>
    have hn0 := hz rfl
    have hn1 : (1 : Int) ≤ (n : Int) := by omega
    obtain ⟨g, rfl, hg1, hg2⟩ := hO.loc hn0
    clear hg2
    go_upto_region 4 with fail
    go_cut [6] (fun s wc => ∃ (xb : Nat) (x0 x1 x2 x3 : Int), s = .pointer (some ⟨xb, 0, none⟩) ∧ vb < xb ∧ RS wc rb (50002) ∧ Below w.heap.size w wc ∧ Blk wc (w.heap.size) #[.slice none 0 0] 25 ∧ Blk wc (w.heap.size + 1) #[.int .i64 0, .int .i64 0, .int .i64 0, .int .i64 0] 29 ∧ Blk wc (vb) #[.slice (some ⟨g, 0, none⟩) n c] 25 ∧ Blk wc (xb) #[.int .i64 x0, .int .i64 x1, .int .i64 x2, .int .i64 x3] 29 ∧ OwnL wc B0 31 5 (.slice (some ⟨g, 0, none⟩) n c) n U)
    case first =>
      refine wp_region_held_drew (S := fun w' => w'.cell? ⟨vb, 0, none⟩ = some (.slice (some ⟨g, 0, none⟩) n c)) (by kernel_rfl) ?_ (fun hHeld => ?_)
      · (try dsimp only)
        (first | (go_simp; done) | (go_keep; done))
      refine tq 0 hHeld ?_
      refine tq 1 hHeld ?_
      refine tq 2 hHeld ?_
      refine tq 3 hHeld ?_
      refine tq 4 hHeld ?_
      refine tq 5 hHeld ?_
      refine wpAnyH_ready (rs := [6, 10]) (by kernel_rfl) (by simp) ?_
      refine AllReadyH.cons rfl (fun K hK => ?_) (AllReadyH.cons rfl (fun K hK => ?_) AllReadyH.nil)
      · (go_simp
         replace hA := hA.dr
         replace hB := hB.dr
         replace hV := hV.dr
         replace hO := hO.dr
         replace hW := hW.drew
         replace hS := hS.drew
         (go_at_call 36; refine (pick_s rb (50001) _ _ (by exact hS) (by omega) (by omega) (by omega)).mono ?_; rintro e w6 ⟨v6, rfl, va6, vb6, hr6⟩)
         obtain ⟨j, hj⟩ : ∃ j : Nat, v6 = (j : Int) := ⟨v6.toNat, by omega⟩
         subst hj
         have hjn : j < n := (by omega)
         replace hA := hA.but (RB.but hr6) (by omega)
         replace hB := hB.but (RB.but hr6) (by omega)
         replace hV := hV.but (RB.but hr6) (by omega)
         replace hO := hO.btb (RB.but hr6) hB0
         replace hW := hW.trans (hr6.old (by omega) hW.size)
         replace hS := hr6.rs
         clear hVc0
         have hVc0 := hV.cell 0 rfl
         (try go_wp2_with fail)
         refine tr hK (fun hHeld => ?_)
         clear hK K)
        refine tq 7 hHeld ?_
        refine tq 8 hHeld ?_
        refine wpAnyH_ready (rs := [9, 10]) (by kernel_rfl) (by simp) ?_
        refine AllReadyH.cons rfl (fun K hK => ?_) (AllReadyH.cons rfl (fun K hK => ?_) AllReadyH.nil)
        · (have u1 := hO.cellq (q := j * 5 + 1) (by omega)
           have u2 := hO.cellq (q := j * 5 + 2) (by omega)
           have u3 := hO.cellq (q := j * 5 + 3) (by omega)
           have u4 := hO.cellq (q := j * 5 + 4) (by omega)
           go_simp
           refine tr hK (fun hHeld => ?_)
           clear hK K)
          refine tc 10 fun K hK => ?_
          (go_simp
           have hX := Blk.new w6 #[.int .i64 0, .int .i64 0, .int .i64 0, .int .i64 0] 29
           have hxb : vb < w6.heap.size := hV.lt
           replace hA := hA.al (.cells #[.int .i64 0, .int .i64 0, .int .i64 0, .int .i64 0] 29)
           replace hB := hB.al (.cells #[.int .i64 0, .int .i64 0, .int .i64 0, .int .i64 0] 29)
           replace hV := hV.al (.cells #[.int .i64 0, .int .i64 0, .int .i64 0, .int .i64 0] 29)
           replace hO := hO.al (.cells #[.int .i64 0, .int .i64 0, .int .i64 0, .int .i64 0] 29)
           replace hW := hW.alloc hW.size (.cells #[.int .i64 0, .int .i64 0, .int .i64 0, .int .i64 0] 29)
           replace hS := hS.alloc (.cells #[.int .i64 0, .int .i64 0, .int .i64 0, .int .i64 0] 29)
           clear hVc0
           
           have hVc0 := hV.cell 0 rfl
           generalize (w6.alloc (.cells #[.int .i64 0, .int .i64 0, .int .i64 0, .int .i64 0] 29)) = w10 at hS hW hA hB hV hO hX hVc0 ⊢
           generalize w6.heap.size = xb at hX hxb ⊢
           refine tr hK (fun hHeld => ?_)
           clear hK K)
          refine tc 11 fun K hK => ?_
          (have xc0 := hX.cell 0 rfl
           have xc1 := hX.cell 1 rfl
           have xc2 := hX.cell 2 rfl
           have xc3 := hX.cell 3 rfl
           have xf := hX.f
           go_simp
           clear xf xc0 xc1 xc2 xc3 hVc0
           replace hO := hO.stb (b := xb) (o := 0) (hX.ne hO neItBx) (.int .i64 (U (j * 5 + 1)))
           replace hA := hA.far (b' := xb) (o := 0) (by omega) (.int .i64 (U (j * 5 + 1)))
           replace hB := hB.far (b' := xb) (o := 0) (by omega) (.int .i64 (U (j * 5 + 1)))
           replace hV := hV.far (b' := xb) (o := 0) (by omega) (.int .i64 (U (j * 5 + 1)))
           replace hX := hX.put 0 (.int .i64 (U (j * 5 + 1)))
           replace hW := hW.setCell (p := ⟨xb, 0, none⟩) (by show w.heap.size ≤ xb; omega) (.int .i64 (U (j * 5 + 1)))
           replace hS := hS.setNew (a := ⟨xb, 0, none⟩) (by show rb < xb; omega) (.int .i64 (U (j * 5 + 1)))
           replace hO := hO.stb (b := xb) (o := 1) (hX.ne hO neItBx) (.int .i64 (U (j * 5 + 2)))
           replace hA := hA.far (b' := xb) (o := 1) (by omega) (.int .i64 (U (j * 5 + 2)))
           replace hB := hB.far (b' := xb) (o := 1) (by omega) (.int .i64 (U (j * 5 + 2)))
           replace hV := hV.far (b' := xb) (o := 1) (by omega) (.int .i64 (U (j * 5 + 2)))
           replace hX := hX.put 1 (.int .i64 (U (j * 5 + 2)))
           replace hW := hW.setCell (p := ⟨xb, 1, none⟩) (by show w.heap.size ≤ xb; omega) (.int .i64 (U (j * 5 + 2)))
           replace hS := hS.setNew (a := ⟨xb, 1, none⟩) (by show rb < xb; omega) (.int .i64 (U (j * 5 + 2)))
           replace hO := hO.stb (b := xb) (o := 2) (hX.ne hO neItBx) (.int .i64 (U (j * 5 + 3)))
           replace hA := hA.far (b' := xb) (o := 2) (by omega) (.int .i64 (U (j * 5 + 3)))
           replace hB := hB.far (b' := xb) (o := 2) (by omega) (.int .i64 (U (j * 5 + 3)))
           replace hV := hV.far (b' := xb) (o := 2) (by omega) (.int .i64 (U (j * 5 + 3)))
           replace hX := hX.put 2 (.int .i64 (U (j * 5 + 3)))
           replace hW := hW.setCell (p := ⟨xb, 2, none⟩) (by show w.heap.size ≤ xb; omega) (.int .i64 (U (j * 5 + 3)))
           replace hS := hS.setNew (a := ⟨xb, 2, none⟩) (by show rb < xb; omega) (.int .i64 (U (j * 5 + 3)))
           replace hO := hO.stb (b := xb) (o := 3) (hX.ne hO neItBx) (.int .i64 (U (j * 5 + 4)))
           replace hA := hA.far (b' := xb) (o := 3) (by omega) (.int .i64 (U (j * 5 + 4)))
           replace hB := hB.far (b' := xb) (o := 3) (by omega) (.int .i64 (U (j * 5 + 4)))
           replace hV := hV.far (b' := xb) (o := 3) (by omega) (.int .i64 (U (j * 5 + 4)))
           replace hX := hX.put 3 (.int .i64 (U (j * 5 + 4)))
           replace hW := hW.setCell (p := ⟨xb, 3, none⟩) (by show w.heap.size ≤ xb; omega) (.int .i64 (U (j * 5 + 4)))
           replace hS := hS.setNew (a := ⟨xb, 3, none⟩) (by show rb < xb; omega) (.int .i64 (U (j * 5 + 4)))
           have hVc0 := hV.cell 0 rfl
           generalize ((((w10.setCell ⟨xb, 0, none⟩ (.int .i64 (U (j * 5 + 1)))).setCell ⟨xb, 1, none⟩ (.int .i64 (U (j * 5 + 2)))).setCell ⟨xb, 2, none⟩ (.int .i64 (U (j * 5 + 3)))).setCell ⟨xb, 3, none⟩ (.int .i64 (U (j * 5 + 4)))) = w11 at hS hW hA hB hV hX hO hVc0 ⊢
           refine tr hK (fun hHeld => ?_)
           clear hK K)
          refine wpAnyH_done (by kernel_rfl) ?_ _
          go_wp2_with fail
          go_meet
          exact ⟨_, _, _, _, _, rfl, hxb, hS.mono (by omega), hW, hA, hB, hV, hX, hO⟩
        · (go_simp
           have hX := Blk.new w6 #[.int .i64 0, .int .i64 0, .int .i64 0, .int .i64 0] 29
           have hxb : vb < w6.heap.size := hV.lt
           replace hA := hA.al (.cells #[.int .i64 0, .int .i64 0, .int .i64 0, .int .i64 0] 29)
           replace hB := hB.al (.cells #[.int .i64 0, .int .i64 0, .int .i64 0, .int .i64 0] 29)
           replace hV := hV.al (.cells #[.int .i64 0, .int .i64 0, .int .i64 0, .int .i64 0] 29)
           replace hO := hO.al (.cells #[.int .i64 0, .int .i64 0, .int .i64 0, .int .i64 0] 29)
           replace hW := hW.alloc hW.size (.cells #[.int .i64 0, .int .i64 0, .int .i64 0, .int .i64 0] 29)
           replace hS := hS.alloc (.cells #[.int .i64 0, .int .i64 0, .int .i64 0, .int .i64 0] 29)
           clear hVc0
           
           have hVc0 := hV.cell 0 rfl
           generalize (w6.alloc (.cells #[.int .i64 0, .int .i64 0, .int .i64 0, .int .i64 0] 29)) = w10 at hS hW hA hB hV hO hX hVc0 ⊢
           generalize w6.heap.size = xb at hX hxb ⊢
           refine tr hK (fun hHeld => ?_)
           clear hK K)
          refine tc 9 fun K hK => ?_
          (have u1 := hO.cellq (q := j * 5 + 1) (by omega)
           have u2 := hO.cellq (q := j * 5 + 2) (by omega)
           have u3 := hO.cellq (q := j * 5 + 3) (by omega)
           have u4 := hO.cellq (q := j * 5 + 4) (by omega)
           go_simp
           refine tr hK (fun hHeld => ?_)
           clear hK K)
          refine tc 11 fun K hK => ?_
          (have xc0 := hX.cell 0 rfl
           have xc1 := hX.cell 1 rfl
           have xc2 := hX.cell 2 rfl
           have xc3 := hX.cell 3 rfl
           have xf := hX.f
           go_simp
           clear xf xc0 xc1 xc2 xc3 hVc0
           replace hO := hO.stb (b := xb) (o := 0) (hX.ne hO neItBx) (.int .i64 (U (j * 5 + 1)))
           replace hA := hA.far (b' := xb) (o := 0) (by omega) (.int .i64 (U (j * 5 + 1)))
           replace hB := hB.far (b' := xb) (o := 0) (by omega) (.int .i64 (U (j * 5 + 1)))
           replace hV := hV.far (b' := xb) (o := 0) (by omega) (.int .i64 (U (j * 5 + 1)))
           replace hX := hX.put 0 (.int .i64 (U (j * 5 + 1)))
           replace hW := hW.setCell (p := ⟨xb, 0, none⟩) (by show w.heap.size ≤ xb; omega) (.int .i64 (U (j * 5 + 1)))
           replace hS := hS.setNew (a := ⟨xb, 0, none⟩) (by show rb < xb; omega) (.int .i64 (U (j * 5 + 1)))
           replace hO := hO.stb (b := xb) (o := 1) (hX.ne hO neItBx) (.int .i64 (U (j * 5 + 2)))
           replace hA := hA.far (b' := xb) (o := 1) (by omega) (.int .i64 (U (j * 5 + 2)))
           replace hB := hB.far (b' := xb) (o := 1) (by omega) (.int .i64 (U (j * 5 + 2)))
           replace hV := hV.far (b' := xb) (o := 1) (by omega) (.int .i64 (U (j * 5 + 2)))
           replace hX := hX.put 1 (.int .i64 (U (j * 5 + 2)))
           replace hW := hW.setCell (p := ⟨xb, 1, none⟩) (by show w.heap.size ≤ xb; omega) (.int .i64 (U (j * 5 + 2)))
           replace hS := hS.setNew (a := ⟨xb, 1, none⟩) (by show rb < xb; omega) (.int .i64 (U (j * 5 + 2)))
           replace hO := hO.stb (b := xb) (o := 2) (hX.ne hO neItBx) (.int .i64 (U (j * 5 + 3)))
           replace hA := hA.far (b' := xb) (o := 2) (by omega) (.int .i64 (U (j * 5 + 3)))
           replace hB := hB.far (b' := xb) (o := 2) (by omega) (.int .i64 (U (j * 5 + 3)))
           replace hV := hV.far (b' := xb) (o := 2) (by omega) (.int .i64 (U (j * 5 + 3)))
           replace hX := hX.put 2 (.int .i64 (U (j * 5 + 3)))
           replace hW := hW.setCell (p := ⟨xb, 2, none⟩) (by show w.heap.size ≤ xb; omega) (.int .i64 (U (j * 5 + 3)))
           replace hS := hS.setNew (a := ⟨xb, 2, none⟩) (by show rb < xb; omega) (.int .i64 (U (j * 5 + 3)))
           replace hO := hO.stb (b := xb) (o := 3) (hX.ne hO neItBx) (.int .i64 (U (j * 5 + 4)))
           replace hA := hA.far (b' := xb) (o := 3) (by omega) (.int .i64 (U (j * 5 + 4)))
           replace hB := hB.far (b' := xb) (o := 3) (by omega) (.int .i64 (U (j * 5 + 4)))
           replace hV := hV.far (b' := xb) (o := 3) (by omega) (.int .i64 (U (j * 5 + 4)))
           replace hX := hX.put 3 (.int .i64 (U (j * 5 + 4)))
           replace hW := hW.setCell (p := ⟨xb, 3, none⟩) (by show w.heap.size ≤ xb; omega) (.int .i64 (U (j * 5 + 4)))
           replace hS := hS.setNew (a := ⟨xb, 3, none⟩) (by show rb < xb; omega) (.int .i64 (U (j * 5 + 4)))
           have hVc0 := hV.cell 0 rfl
           generalize ((((w6.setCell ⟨xb, 0, none⟩ (.int .i64 (U (j * 5 + 1)))).setCell ⟨xb, 1, none⟩ (.int .i64 (U (j * 5 + 2)))).setCell ⟨xb, 2, none⟩ (.int .i64 (U (j * 5 + 3)))).setCell ⟨xb, 3, none⟩ (.int .i64 (U (j * 5 + 4)))) = w11 at hS hW hA hB hV hX hO hVc0 ⊢
           refine tr hK (fun hHeld => ?_)
           clear hK K)
          refine wpAnyH_done (by kernel_rfl) ?_ _
          go_wp2_with fail
          go_meet
          exact ⟨_, _, _, _, _, rfl, hxb, hS.mono (by omega), hW, hA, hB, hV, hX, hO⟩
      · (go_simp
         have hX := Blk.new wc #[.int .i64 0, .int .i64 0, .int .i64 0, .int .i64 0] 29
         have hxb : vb < wc.heap.size := hV.lt
         replace hA := hA.al (.cells #[.int .i64 0, .int .i64 0, .int .i64 0, .int .i64 0] 29)
         replace hB := hB.al (.cells #[.int .i64 0, .int .i64 0, .int .i64 0, .int .i64 0] 29)
         replace hV := hV.al (.cells #[.int .i64 0, .int .i64 0, .int .i64 0, .int .i64 0] 29)
         replace hO := hO.al (.cells #[.int .i64 0, .int .i64 0, .int .i64 0, .int .i64 0] 29)
         replace hW := hW.alloc hW.size (.cells #[.int .i64 0, .int .i64 0, .int .i64 0, .int .i64 0] 29)
         replace hS := hS.alloc (.cells #[.int .i64 0, .int .i64 0, .int .i64 0, .int .i64 0] 29)
         clear hVc0
         replace hA := hA.dr
         replace hB := hB.dr
         replace hV := hV.dr
         replace hO := hO.dr
         replace hW := hW.drew
         replace hS := hS.drew
         replace hX := hX.dr
         have hVc0 := hV.cell 0 rfl
         generalize (wc.alloc (.cells #[.int .i64 0, .int .i64 0, .int .i64 0, .int .i64 0] 29)).drew = w10 at hS hW hA hB hV hO hX hVc0 ⊢
         generalize wc.heap.size = xb at hX hxb ⊢
         refine tr hK (fun hHeld => ?_)
         clear hK K)
        refine tc 6 fun K hK => ?_
        (go_simp
         (go_at_call 36; refine (pick_s rb (50001) _ _ (by exact hS) (by omega) (by omega) (by omega)).mono ?_; rintro e w6 ⟨v6, rfl, va6, vb6, hr6⟩)
         obtain ⟨j, hj⟩ : ∃ j : Nat, v6 = (j : Int) := ⟨v6.toNat, by omega⟩
         subst hj
         have hjn : j < n := (by omega)
         replace hA := hA.but (RB.but hr6) (by omega)
         replace hB := hB.but (RB.but hr6) (by omega)
         replace hV := hV.but (RB.but hr6) (by omega)
         replace hX := hX.but (RB.but hr6) (by omega)
         replace hO := hO.btb (RB.but hr6) hB0
         replace hW := hW.trans (hr6.old (by omega) hW.size)
         replace hS := hr6.rs
         clear hVc0
         have hVc0 := hV.cell 0 rfl
         (try go_wp2_with fail)
         refine tr hK (fun hHeld => ?_)
         clear hK K)
        refine tq 7 hHeld ?_
        refine tq 8 hHeld ?_
        refine tc 9 fun K hK => ?_
        (have u1 := hO.cellq (q := j * 5 + 1) (by omega)
         have u2 := hO.cellq (q := j * 5 + 2) (by omega)
         have u3 := hO.cellq (q := j * 5 + 3) (by omega)
         have u4 := hO.cellq (q := j * 5 + 4) (by omega)
         go_simp
         refine tr hK (fun hHeld => ?_)
         clear hK K)
        refine tc 11 fun K hK => ?_
        (have xc0 := hX.cell 0 rfl
         have xc1 := hX.cell 1 rfl
         have xc2 := hX.cell 2 rfl
         have xc3 := hX.cell 3 rfl
         have xf := hX.f
         go_simp
         clear xf xc0 xc1 xc2 xc3 hVc0
         replace hO := hO.stb (b := xb) (o := 0) (hX.ne hO neItBx) (.int .i64 (U (j * 5 + 1)))
         replace hA := hA.far (b' := xb) (o := 0) (by omega) (.int .i64 (U (j * 5 + 1)))
         replace hB := hB.far (b' := xb) (o := 0) (by omega) (.int .i64 (U (j * 5 + 1)))
         replace hV := hV.far (b' := xb) (o := 0) (by omega) (.int .i64 (U (j * 5 + 1)))
         replace hX := hX.put 0 (.int .i64 (U (j * 5 + 1)))
         replace hW := hW.setCell (p := ⟨xb, 0, none⟩) (by show w.heap.size ≤ xb; omega) (.int .i64 (U (j * 5 + 1)))
         replace hS := hS.setNew (a := ⟨xb, 0, none⟩) (by show rb < xb; omega) (.int .i64 (U (j * 5 + 1)))
         replace hO := hO.stb (b := xb) (o := 1) (hX.ne hO neItBx) (.int .i64 (U (j * 5 + 2)))
         replace hA := hA.far (b' := xb) (o := 1) (by omega) (.int .i64 (U (j * 5 + 2)))
         replace hB := hB.far (b' := xb) (o := 1) (by omega) (.int .i64 (U (j * 5 + 2)))
         replace hV := hV.far (b' := xb) (o := 1) (by omega) (.int .i64 (U (j * 5 + 2)))
         replace hX := hX.put 1 (.int .i64 (U (j * 5 + 2)))
         replace hW := hW.setCell (p := ⟨xb, 1, none⟩) (by show w.heap.size ≤ xb; omega) (.int .i64 (U (j * 5 + 2)))
         replace hS := hS.setNew (a := ⟨xb, 1, none⟩) (by show rb < xb; omega) (.int .i64 (U (j * 5 + 2)))
         replace hO := hO.stb (b := xb) (o := 2) (hX.ne hO neItBx) (.int .i64 (U (j * 5 + 3)))
         replace hA := hA.far (b' := xb) (o := 2) (by omega) (.int .i64 (U (j * 5 + 3)))
         replace hB := hB.far (b' := xb) (o := 2) (by omega) (.int .i64 (U (j * 5 + 3)))
         replace hV := hV.far (b' := xb) (o := 2) (by omega) (.int .i64 (U (j * 5 + 3)))
         replace hX := hX.put 2 (.int .i64 (U (j * 5 + 3)))
         replace hW := hW.setCell (p := ⟨xb, 2, none⟩) (by show w.heap.size ≤ xb; omega) (.int .i64 (U (j * 5 + 3)))
         replace hS := hS.setNew (a := ⟨xb, 2, none⟩) (by show rb < xb; omega) (.int .i64 (U (j * 5 + 3)))
         replace hO := hO.stb (b := xb) (o := 3) (hX.ne hO neItBx) (.int .i64 (U (j * 5 + 4)))
         replace hA := hA.far (b' := xb) (o := 3) (by omega) (.int .i64 (U (j * 5 + 4)))
         replace hB := hB.far (b' := xb) (o := 3) (by omega) (.int .i64 (U (j * 5 + 4)))
         replace hV := hV.far (b' := xb) (o := 3) (by omega) (.int .i64 (U (j * 5 + 4)))
         replace hX := hX.put 3 (.int .i64 (U (j * 5 + 4)))
         replace hW := hW.setCell (p := ⟨xb, 3, none⟩) (by show w.heap.size ≤ xb; omega) (.int .i64 (U (j * 5 + 4)))
         replace hS := hS.setNew (a := ⟨xb, 3, none⟩) (by show rb < xb; omega) (.int .i64 (U (j * 5 + 4)))
         have hVc0 := hV.cell 0 rfl
         generalize ((((w6.setCell ⟨xb, 0, none⟩ (.int .i64 (U (j * 5 + 1)))).setCell ⟨xb, 1, none⟩ (.int .i64 (U (j * 5 + 2)))).setCell ⟨xb, 2, none⟩ (.int .i64 (U (j * 5 + 3)))).setCell ⟨xb, 3, none⟩ (.int .i64 (U (j * 5 + 4)))) = w11 at hS hW hA hB hV hX hO hVc0 ⊢
         refine tr hK (fun hHeld => ?_)
         clear hK K)
        refine wpAnyH_done (by kernel_rfl) ?_ _
        go_wp2_with fail
        go_meet
        exact ⟨_, _, _, _, _, rfl, hxb, hS.mono (by omega), hW, hA, hB, hV, hX, hO⟩
    case rest =>
    clear hS hW hA hB hV hO hVc0
    obtain ⟨xb, x0, x1, x2, x3, rfl, hxb, hS, hW, hA, hB, hV, hX, hO⟩ := hcut
    have hXc0 := hX.cell 0 rfl
    have hXc1 := hX.cell 1 rfl
    have hXc2 := hX.cell 2 rfl
    have hXc3 := hX.cell 3 rfl
    go_upto_region 5 with fail
    refine wp_region_held_drew (S := fun w' => w'.cell? ⟨xb, 0, none⟩ = some (.int .i64 x0) ∧ w'.cell? ⟨xb, 1, none⟩ = some (.int .i64 x1) ∧ w'.cell? ⟨xb, 3, none⟩ = some (.int .i64 x3)) (by kernel_rfl) ?_ (fun hHeld => ?_)
    · (try dsimp only)
      (first | (go_simp; done) | (go_keep; done))
    refine tq 0 hHeld ?_
    refine tq 1 hHeld ?_
    refine tq 3 hHeld ?_
    refine wpAnyH_ready (rs := [2, 4]) (by kernel_rfl) (by simp) ?_
    refine AllReadyH.cons rfl (fun K hK => ?_) (AllReadyH.cons rfl (fun K hK => ?_) AllReadyH.nil)
    · (have _ := hXc2
       go_simp
       refine tr hK (fun hHeld => ?_)
       clear hK K)
      refine tc 4 fun K hK => ?_
      (go_simp
       replace hA := hA.dr
       replace hB := hB.dr
       replace hV := hV.dr
       replace hX := hX.dr
       replace hO := hO.dr
       replace hW := hW.drew
       replace hS := hS.drew
       (go_at_call 36; refine (pick_s rb (50002) _ _ (by exact hS) (by omega) (by omega) (by omega)).mono ?_; rintro e w4 ⟨v4, rfl, va4, vb4, hr4⟩)
       replace hA := hA.but (RB.but hr4) (by omega)
       replace hB := hB.but (RB.but hr4) (by omega)
       replace hV := hV.but (RB.but hr4) (by omega)
       replace hX := hX.but (RB.but hr4) (by omega)
       replace hO := hO.btb (RB.but hr4) hB0
       replace hW := hW.trans (hr4.old (by omega) hW.size)
       replace hS := hr4.rs
       clear hXc0 hXc1 hXc2 hXc3
       have hXc0 := hX.cell 0 rfl
       have hXc1 := hX.cell 1 rfl
       have hXc2 := hX.cell 2 rfl
       have hXc3 := hX.cell 3 rfl
       obtain ⟨s0, hs0⟩ : ∃ s, IntKind.i64.wrap (x2 + v4) = s := ⟨_, rfl⟩
       obtain ⟨t0, ht0⟩ : ∃ s, IntKind.i64.wrap (s0 - 1) = s := ⟨_, rfl⟩
       (try go_wp2_with fail)
       refine tr hK (fun hHeld => ?_)
       clear hK K)
      refine tq 5 hHeld ?_
      refine tq 6 hHeld ?_
      refine tq 7 hHeld ?_
      refine tq 8 hHeld ?_
      refine tc 9 fun K hK => ?_
      (have xf := hX.f
       go_simp
       clear xf hXc0 hXc1 hXc2 hXc3
       replace hO := hO.stb (b := xb) (o := 2) (hX.ne hO neItBx) (.int .i64 t0)
       replace hA := hA.far (b' := xb) (o := 2) (by omega) (.int .i64 t0)
       replace hB := hB.far (b' := xb) (o := 2) (by omega) (.int .i64 t0)
       replace hV := hV.far (b' := xb) (o := 2) (by omega) (.int .i64 t0)
       replace hX := hX.put 2 (.int .i64 t0)
       replace hW := hW.setCell (p := ⟨xb, 2, none⟩) (by show w.heap.size ≤ xb; omega) (.int .i64 t0)
       replace hS := hS.setNew (a := ⟨xb, 2, none⟩) (by show rb < xb; omega) (.int .i64 t0)
       have hXc0 := hX.cell 0 rfl
       have hXc1 := hX.cell 1 rfl
       have hXc2 := hX.cell 2 rfl
       have hXc3 := hX.cell 3 rfl
       generalize (w4.setCell ⟨xb, 2, none⟩ (.int .i64 t0)) = w14 at hS hW hA hB hV hX hO hXc0 hXc1 hXc2 hXc3 ⊢
       refine tr hK (fun hHeld => ?_)
       clear hK K)
      refine wpAnyH_done (by kernel_rfl) ?_ _
      have hVc0 := hV.cell 0 rfl
      go_upto_region 6 with fail
      refine wp_region_held_drew (S := fun w' => w'.cell? ⟨vb, 0, none⟩ = some (.slice (some ⟨g, 0, none⟩) n c) ∧ w'.cell? ⟨xb, 0, none⟩ = some (.int .i64 x0) ∧ w'.cell? ⟨xb, 1, none⟩ = some (.int .i64 x1) ∧ w'.cell? ⟨xb, 2, none⟩ = some (.int .i64 t0) ∧ w'.cell? ⟨xb, 3, none⟩ = some (.int .i64 x3)) (by kernel_rfl) ?_ (fun hHeld => ?_)
      · (try dsimp only)
        (first | (go_simp; done) | (go_keep; done))
      refine tq 0 hHeld ?_
      refine tq 1 hHeld ?_
      refine tc 2 fun K hK => ?_
      (have yc := hA.cell 0 rfl
       have yf := hA.f 0
       go_simp
       clear yc yf hVc0 hXc0 hXc1 hXc2 hXc3
       clear hS
       replace hO := hO.stb (b := w.heap.size) (o := 0) (hA.ne hO neItBr) (.slice (some ⟨g, 0, none⟩) n c)
       replace hB := hB.far (b' := w.heap.size) (o := 0) (by omega) (.slice (some ⟨g, 0, none⟩) n c)
       replace hV := hV.far (b' := w.heap.size) (o := 0) (by omega) (.slice (some ⟨g, 0, none⟩) n c)
       replace hX := hX.far (b' := w.heap.size) (o := 0) (by omega) (.slice (some ⟨g, 0, none⟩) n c)
       replace hA := hA.put 0 (.slice (some ⟨g, 0, none⟩) n c)
       replace hW := hW.setCell (p := ⟨w.heap.size, 0, none⟩) (by show w.heap.size ≤ w.heap.size; omega) (.slice (some ⟨g, 0, none⟩) n c)
       replace hA := hA.dr
       replace hB := hB.dr
       replace hV := hV.dr
       replace hX := hX.dr
       replace hO := hO.dr
       replace hW := hW.drew
       have hVc0 := hV.cell 0 rfl
       have hXc0 := hX.cell 0 rfl
       have hXc1 := hX.cell 1 rfl
       have hXc2 := hX.cell 2 rfl
       have hXc3 := hX.cell 3 rfl
       generalize (w14.setCell ⟨w.heap.size, 0, none⟩ (.slice (some ⟨g, 0, none⟩) n c)).drew = w20 at hW hA hB hV hX hO hVc0 hXc0 hXc1 hXc2 hXc3 ⊢
       refine tr hK (fun hHeld => ?_)
       clear hK K)
      refine tc 3 fun K hK => ?_
      (have bc0 := hB.cell 0 rfl
       have bc1 := hB.cell 1 rfl
       have bc2 := hB.cell 2 rfl
       have bc3 := hB.cell 3 rfl
       have bf := hB.f
       go_simp
       clear bf bc0 bc1 bc2 bc3 hVc0 hXc0 hXc1 hXc2 hXc3
       replace hO := hO.stb (b := w.heap.size + 1) (o := 0) (hB.ne hO neItBx) (.int .i64 x0)
       replace hA := hA.far (b' := w.heap.size + 1) (o := 0) (by omega) (.int .i64 x0)
       replace hV := hV.far (b' := w.heap.size + 1) (o := 0) (by omega) (.int .i64 x0)
       replace hX := hX.far (b' := w.heap.size + 1) (o := 0) (by omega) (.int .i64 x0)
       replace hB := hB.put 0 (.int .i64 x0)
       replace hW := hW.setCell (p := ⟨w.heap.size + 1, 0, none⟩) (by show w.heap.size ≤ w.heap.size + 1; omega) (.int .i64 x0)
       replace hO := hO.stb (b := w.heap.size + 1) (o := 1) (hB.ne hO neItBx) (.int .i64 x1)
       replace hA := hA.far (b' := w.heap.size + 1) (o := 1) (by omega) (.int .i64 x1)
       replace hV := hV.far (b' := w.heap.size + 1) (o := 1) (by omega) (.int .i64 x1)
       replace hX := hX.far (b' := w.heap.size + 1) (o := 1) (by omega) (.int .i64 x1)
       replace hB := hB.put 1 (.int .i64 x1)
       replace hW := hW.setCell (p := ⟨w.heap.size + 1, 1, none⟩) (by show w.heap.size ≤ w.heap.size + 1; omega) (.int .i64 x1)
       replace hO := hO.stb (b := w.heap.size + 1) (o := 2) (hB.ne hO neItBx) (.int .i64 t0)
       replace hA := hA.far (b' := w.heap.size + 1) (o := 2) (by omega) (.int .i64 t0)
       replace hV := hV.far (b' := w.heap.size + 1) (o := 2) (by omega) (.int .i64 t0)
       replace hX := hX.far (b' := w.heap.size + 1) (o := 2) (by omega) (.int .i64 t0)
       replace hB := hB.put 2 (.int .i64 t0)
       replace hW := hW.setCell (p := ⟨w.heap.size + 1, 2, none⟩) (by show w.heap.size ≤ w.heap.size + 1; omega) (.int .i64 t0)
       replace hO := hO.stb (b := w.heap.size + 1) (o := 3) (hB.ne hO neItBx) (.int .i64 x3)
       replace hA := hA.far (b' := w.heap.size + 1) (o := 3) (by omega) (.int .i64 x3)
       replace hV := hV.far (b' := w.heap.size + 1) (o := 3) (by omega) (.int .i64 x3)
       replace hX := hX.far (b' := w.heap.size + 1) (o := 3) (by omega) (.int .i64 x3)
       replace hB := hB.put 3 (.int .i64 x3)
       replace hW := hW.setCell (p := ⟨w.heap.size + 1, 3, none⟩) (by show w.heap.size ≤ w.heap.size + 1; omega) (.int .i64 x3)
       have hVc0 := hV.cell 0 rfl
       have hXc0 := hX.cell 0 rfl
       have hXc1 := hX.cell 1 rfl
       have hXc2 := hX.cell 2 rfl
       have hXc3 := hX.cell 3 rfl
       generalize ((((w20.setCell ⟨w.heap.size + 1, 0, none⟩ (.int .i64 x0)).setCell ⟨w.heap.size + 1, 1, none⟩ (.int .i64 x1)).setCell ⟨w.heap.size + 1, 2, none⟩ (.int .i64 t0)).setCell ⟨w.heap.size + 1, 3, none⟩ (.int .i64 x3)) = w21 at hW hA hB hV hX hO hVc0 hXc0 hXc1 hXc2 hXc3 ⊢
       refine tr hK (fun hHeld => ?_)
       clear hK K)
      refine wpAnyH_done (by kernel_rfl) ?_ _
      go_wp2_with fail
      clear hVc0
      have y0 := hA.cell 0 rfl
      have z0 := hB.cell 0 rfl
      have z1 := hB.cell 1 rfl
      have z2 := hB.cell 2 rfl
      have z3 := hB.cell 3 rfl
      exact bodyPost_ret (v := .tuple #[.agg #[.slice (some ⟨g, 0, none⟩) n c], .agg #[.int .i64 x0, .int .i64 x1, .int .i64 t0, .int .i64 x3]]) (by simp [results, Try.results25, go_sem, y0, z0, z1, z2, z3]) rfl ⟨_, n, _, U, x0, x1, t0, x3, rfl, hn, hW, hO.base (by omega)⟩
    · (go_simp
       replace hA := hA.dr
       replace hB := hB.dr
       replace hV := hV.dr
       replace hX := hX.dr
       replace hO := hO.dr
       replace hW := hW.drew
       replace hS := hS.drew
       (go_at_call 36; refine (pick_s rb (50002) _ _ (by exact hS) (by omega) (by omega) (by omega)).mono ?_; rintro e w4 ⟨v4, rfl, va4, vb4, hr4⟩)
       replace hA := hA.but (RB.but hr4) (by omega)
       replace hB := hB.but (RB.but hr4) (by omega)
       replace hV := hV.but (RB.but hr4) (by omega)
       replace hX := hX.but (RB.but hr4) (by omega)
       replace hO := hO.btb (RB.but hr4) hB0
       replace hW := hW.trans (hr4.old (by omega) hW.size)
       replace hS := hr4.rs
       clear hXc0 hXc1 hXc2 hXc3
       have hXc0 := hX.cell 0 rfl
       have hXc1 := hX.cell 1 rfl
       have hXc2 := hX.cell 2 rfl
       have hXc3 := hX.cell 3 rfl
       obtain ⟨s0, hs0⟩ : ∃ s, IntKind.i64.wrap (x2 + v4) = s := ⟨_, rfl⟩
       obtain ⟨t0, ht0⟩ : ∃ s, IntKind.i64.wrap (s0 - 1) = s := ⟨_, rfl⟩
       (try go_wp2_with fail)
       refine tr hK (fun hHeld => ?_)
       clear hK K)
      refine tc 2 fun K hK => ?_
      (have _ := hXc2
       go_simp
       refine tr hK (fun hHeld => ?_)
       clear hK K)
      refine tq 5 hHeld ?_
      refine tq 6 hHeld ?_
      refine tq 7 hHeld ?_
      refine tq 8 hHeld ?_
      refine tc 9 fun K hK => ?_
      (have xf := hX.f
       go_simp
       clear xf hXc0 hXc1 hXc2 hXc3
       replace hO := hO.stb (b := xb) (o := 2) (hX.ne hO neItBx) (.int .i64 t0)
       replace hA := hA.far (b' := xb) (o := 2) (by omega) (.int .i64 t0)
       replace hB := hB.far (b' := xb) (o := 2) (by omega) (.int .i64 t0)
       replace hV := hV.far (b' := xb) (o := 2) (by omega) (.int .i64 t0)
       replace hX := hX.put 2 (.int .i64 t0)
       replace hW := hW.setCell (p := ⟨xb, 2, none⟩) (by show w.heap.size ≤ xb; omega) (.int .i64 t0)
       replace hS := hS.setNew (a := ⟨xb, 2, none⟩) (by show rb < xb; omega) (.int .i64 t0)
       have hXc0 := hX.cell 0 rfl
       have hXc1 := hX.cell 1 rfl
       have hXc2 := hX.cell 2 rfl
       have hXc3 := hX.cell 3 rfl
       generalize (w4.setCell ⟨xb, 2, none⟩ (.int .i64 t0)) = w14 at hS hW hA hB hV hX hO hXc0 hXc1 hXc2 hXc3 ⊢
       refine tr hK (fun hHeld => ?_)
       clear hK K)
      refine wpAnyH_done (by kernel_rfl) ?_ _
      have hVc0 := hV.cell 0 rfl
      go_upto_region 6 with fail
      refine wp_region_held_drew (S := fun w' => w'.cell? ⟨vb, 0, none⟩ = some (.slice (some ⟨g, 0, none⟩) n c) ∧ w'.cell? ⟨xb, 0, none⟩ = some (.int .i64 x0) ∧ w'.cell? ⟨xb, 1, none⟩ = some (.int .i64 x1) ∧ w'.cell? ⟨xb, 2, none⟩ = some (.int .i64 t0) ∧ w'.cell? ⟨xb, 3, none⟩ = some (.int .i64 x3)) (by kernel_rfl) ?_ (fun hHeld => ?_)
      · (try dsimp only)
        (first | (go_simp; done) | (go_keep; done))
      refine tq 0 hHeld ?_
      refine tq 1 hHeld ?_
      refine tc 2 fun K hK => ?_
      (have yc := hA.cell 0 rfl
       have yf := hA.f 0
       go_simp
       clear yc yf hVc0 hXc0 hXc1 hXc2 hXc3
       clear hS
       replace hO := hO.stb (b := w.heap.size) (o := 0) (hA.ne hO neItBr) (.slice (some ⟨g, 0, none⟩) n c)
       replace hB := hB.far (b' := w.heap.size) (o := 0) (by omega) (.slice (some ⟨g, 0, none⟩) n c)
       replace hV := hV.far (b' := w.heap.size) (o := 0) (by omega) (.slice (some ⟨g, 0, none⟩) n c)
       replace hX := hX.far (b' := w.heap.size) (o := 0) (by omega) (.slice (some ⟨g, 0, none⟩) n c)
       replace hA := hA.put 0 (.slice (some ⟨g, 0, none⟩) n c)
       replace hW := hW.setCell (p := ⟨w.heap.size, 0, none⟩) (by show w.heap.size ≤ w.heap.size; omega) (.slice (some ⟨g, 0, none⟩) n c)
       replace hA := hA.dr
       replace hB := hB.dr
       replace hV := hV.dr
       replace hX := hX.dr
       replace hO := hO.dr
       replace hW := hW.drew
       have hVc0 := hV.cell 0 rfl
       have hXc0 := hX.cell 0 rfl
       have hXc1 := hX.cell 1 rfl
       have hXc2 := hX.cell 2 rfl
       have hXc3 := hX.cell 3 rfl
       generalize (w14.setCell ⟨w.heap.size, 0, none⟩ (.slice (some ⟨g, 0, none⟩) n c)).drew = w20 at hW hA hB hV hX hO hVc0 hXc0 hXc1 hXc2 hXc3 ⊢
       refine tr hK (fun hHeld => ?_)
       clear hK K)
      refine tc 3 fun K hK => ?_
      (have bc0 := hB.cell 0 rfl
       have bc1 := hB.cell 1 rfl
       have bc2 := hB.cell 2 rfl
       have bc3 := hB.cell 3 rfl
       have bf := hB.f
       go_simp
       clear bf bc0 bc1 bc2 bc3 hVc0 hXc0 hXc1 hXc2 hXc3
       replace hO := hO.stb (b := w.heap.size + 1) (o := 0) (hB.ne hO neItBx) (.int .i64 x0)
       replace hA := hA.far (b' := w.heap.size + 1) (o := 0) (by omega) (.int .i64 x0)
       replace hV := hV.far (b' := w.heap.size + 1) (o := 0) (by omega) (.int .i64 x0)
       replace hX := hX.far (b' := w.heap.size + 1) (o := 0) (by omega) (.int .i64 x0)
       replace hB := hB.put 0 (.int .i64 x0)
       replace hW := hW.setCell (p := ⟨w.heap.size + 1, 0, none⟩) (by show w.heap.size ≤ w.heap.size + 1; omega) (.int .i64 x0)
       replace hO := hO.stb (b := w.heap.size + 1) (o := 1) (hB.ne hO neItBx) (.int .i64 x1)
       replace hA := hA.far (b' := w.heap.size + 1) (o := 1) (by omega) (.int .i64 x1)
       replace hV := hV.far (b' := w.heap.size + 1) (o := 1) (by omega) (.int .i64 x1)
       replace hX := hX.far (b' := w.heap.size + 1) (o := 1) (by omega) (.int .i64 x1)
       replace hB := hB.put 1 (.int .i64 x1)
       replace hW := hW.setCell (p := ⟨w.heap.size + 1, 1, none⟩) (by show w.heap.size ≤ w.heap.size + 1; omega) (.int .i64 x1)
       replace hO := hO.stb (b := w.heap.size + 1) (o := 2) (hB.ne hO neItBx) (.int .i64 t0)
       replace hA := hA.far (b' := w.heap.size + 1) (o := 2) (by omega) (.int .i64 t0)
       replace hV := hV.far (b' := w.heap.size + 1) (o := 2) (by omega) (.int .i64 t0)
       replace hX := hX.far (b' := w.heap.size + 1) (o := 2) (by omega) (.int .i64 t0)
       replace hB := hB.put 2 (.int .i64 t0)
       replace hW := hW.setCell (p := ⟨w.heap.size + 1, 2, none⟩) (by show w.heap.size ≤ w.heap.size + 1; omega) (.int .i64 t0)
       replace hO := hO.stb (b := w.heap.size + 1) (o := 3) (hB.ne hO neItBx) (.int .i64 x3)
       replace hA := hA.far (b' := w.heap.size + 1) (o := 3) (by omega) (.int .i64 x3)
       replace hV := hV.far (b' := w.heap.size + 1) (o := 3) (by omega) (.int .i64 x3)
       replace hX := hX.far (b' := w.heap.size + 1) (o := 3) (by omega) (.int .i64 x3)
       replace hB := hB.put 3 (.int .i64 x3)
       replace hW := hW.setCell (p := ⟨w.heap.size + 1, 3, none⟩) (by show w.heap.size ≤ w.heap.size + 1; omega) (.int .i64 x3)
       have hVc0 := hV.cell 0 rfl
       have hXc0 := hX.cell 0 rfl
       have hXc1 := hX.cell 1 rfl
       have hXc2 := hX.cell 2 rfl
       have hXc3 := hX.cell 3 rfl
       generalize ((((w20.setCell ⟨w.heap.size + 1, 0, none⟩ (.int .i64 x0)).setCell ⟨w.heap.size + 1, 1, none⟩ (.int .i64 x1)).setCell ⟨w.heap.size + 1, 2, none⟩ (.int .i64 t0)).setCell ⟨w.heap.size + 1, 3, none⟩ (.int .i64 x3)) = w21 at hW hA hB hV hX hO hVc0 hXc0 hXc1 hXc2 hXc3 ⊢
       refine tr hK (fun hHeld => ?_)
       clear hK K)
      refine wpAnyH_done (by kernel_rfl) ?_ _
      go_wp2_with fail
      clear hVc0
      have y0 := hA.cell 0 rfl
      have z0 := hB.cell 0 rfl
      have z1 := hB.cell 1 rfl
      have z2 := hB.cell 2 rfl
      have z3 := hB.cell 3 rfl
      exact bodyPost_ret (v := .tuple #[.agg #[.slice (some ⟨g, 0, none⟩) n c], .agg #[.int .i64 x0, .int .i64 x1, .int .i64 t0, .int .i64 x3]]) (by simp [results, Try.results25, go_sem, y0, z0, z1, z2, z3]) rfl ⟨_, n, _, U, x0, x1, t0, x3, rfl, hn, hW, hO.base (by omega)⟩
  | false =>
    go_upto_region 7 with fail
    refine wp_region_held_drew (S := fun w' => w'.cell? ⟨vb, 0, none⟩ = some (.slice a n c)) (by kernel_rfl) ?_ (fun hHeld => ?_)
    · (try dsimp only)
      (first | (go_simp; done) | (go_keep; done))
    refine tq 0 hHeld ?_
    refine tq 1 hHeld ?_
    refine tc 2 fun K hK => ?_
    (go_simp
     replace hA := hA.dr
     replace hB := hB.dr
     replace hV := hV.dr
     replace hO := hO.dr
     replace hW := hW.drew
     replace hS := hS.drew
     (go_at_call 37; refine (l11AnyBox_s rb (50001) _ (by exact hS) (by omega)).mono ?_; rintro e w2 ⟨x, y, u, v, rfl, hbx, hr2⟩)
     replace hA := hA.but (RB.but hr2) (by omega)
     replace hB := hB.but (RB.but hr2) (by omega)
     replace hV := hV.but (RB.but hr2) (by omega)
     replace hO := hO.btb (RB.but hr2) hB0
     replace hW := hW.trans (hr2.old (by omega) hW.size)
     replace hS := hr2.rs
     clear hVc0
     have hVc0 := hV.cell 0 rfl
     (try go_wp2_with fail)
     refine tr hK (fun hHeld => ?_)
     clear hK K)
    refine tc 3 fun K hK => ?_
    (have yc := hA.cell 0 rfl
     have yf := hA.f 0
     go_simp
     clear yc yf hVc0 
     clear hS
     replace hO := hO.stb (b := w.heap.size) (o := 0) (hA.ne hO neItBr) (.slice a n c)
     replace hB := hB.far (b' := w.heap.size) (o := 0) (by omega) (.slice a n c)
     replace hV := hV.far (b' := w.heap.size) (o := 0) (by omega) (.slice a n c)
     replace hA := hA.put 0 (.slice a n c)
     replace hW := hW.setCell (p := ⟨w.heap.size, 0, none⟩) (by show w.heap.size ≤ w.heap.size; omega) (.slice a n c)
     
     have hVc0 := hV.cell 0 rfl
     generalize (w2.setCell ⟨w.heap.size, 0, none⟩ (.slice a n c)) = w20 at hW hA hB hV hO hVc0  ⊢
     refine tr hK (fun hHeld => ?_)
     clear hK K)
    refine tc 4 fun K hK => ?_
    (have bc0 := hB.cell 0 rfl
     have bc1 := hB.cell 1 rfl
     have bc2 := hB.cell 2 rfl
     have bc3 := hB.cell 3 rfl
     have bf := hB.f
     go_simp
     clear bf bc0 bc1 bc2 bc3 hVc0 
     replace hO := hO.stb (b := w.heap.size + 1) (o := 0) (hB.ne hO neItBx) (.int .i64 x)
     replace hA := hA.far (b' := w.heap.size + 1) (o := 0) (by omega) (.int .i64 x)
     replace hV := hV.far (b' := w.heap.size + 1) (o := 0) (by omega) (.int .i64 x)
     replace hB := hB.put 0 (.int .i64 x)
     replace hW := hW.setCell (p := ⟨w.heap.size + 1, 0, none⟩) (by show w.heap.size ≤ w.heap.size + 1; omega) (.int .i64 x)
     replace hO := hO.stb (b := w.heap.size + 1) (o := 1) (hB.ne hO neItBx) (.int .i64 y)
     replace hA := hA.far (b' := w.heap.size + 1) (o := 1) (by omega) (.int .i64 y)
     replace hV := hV.far (b' := w.heap.size + 1) (o := 1) (by omega) (.int .i64 y)
     replace hB := hB.put 1 (.int .i64 y)
     replace hW := hW.setCell (p := ⟨w.heap.size + 1, 1, none⟩) (by show w.heap.size ≤ w.heap.size + 1; omega) (.int .i64 y)
     replace hO := hO.stb (b := w.heap.size + 1) (o := 2) (hB.ne hO neItBx) (.int .i64 u)
     replace hA := hA.far (b' := w.heap.size + 1) (o := 2) (by omega) (.int .i64 u)
     replace hV := hV.far (b' := w.heap.size + 1) (o := 2) (by omega) (.int .i64 u)
     replace hB := hB.put 2 (.int .i64 u)
     replace hW := hW.setCell (p := ⟨w.heap.size + 1, 2, none⟩) (by show w.heap.size ≤ w.heap.size + 1; omega) (.int .i64 u)
     replace hO := hO.stb (b := w.heap.size + 1) (o := 3) (hB.ne hO neItBx) (.int .i64 v)
     replace hA := hA.far (b' := w.heap.size + 1) (o := 3) (by omega) (.int .i64 v)
     replace hV := hV.far (b' := w.heap.size + 1) (o := 3) (by omega) (.int .i64 v)
     replace hB := hB.put 3 (.int .i64 v)
     replace hW := hW.setCell (p := ⟨w.heap.size + 1, 3, none⟩) (by show w.heap.size ≤ w.heap.size + 1; omega) (.int .i64 v)
     have hVc0 := hV.cell 0 rfl
     
     generalize ((((w20.setCell ⟨w.heap.size + 1, 0, none⟩ (.int .i64 x)).setCell ⟨w.heap.size + 1, 1, none⟩ (.int .i64 y)).setCell ⟨w.heap.size + 1, 2, none⟩ (.int .i64 u)).setCell ⟨w.heap.size + 1, 3, none⟩ (.int .i64 v)) = w21 at hW hA hB hV hO hVc0  ⊢
     refine tr hK (fun hHeld => ?_)
     clear hK K)
    refine wpAnyH_done (by kernel_rfl) ?_ _
    go_wp2_with fail
    clear hVc0
    have y0 := hA.cell 0 rfl
    have z0 := hB.cell 0 rfl
    have z1 := hB.cell 1 rfl
    have z2 := hB.cell 2 rfl
    have z3 := hB.cell 3 rfl
    exact bodyPost_ret (v := .tuple #[.agg #[.slice a n c], .agg #[.int .i64 x, .int .i64 y, .int .i64 u, .int .i64 v]]) (by simp [results, Try.results25, go_sem, y0, z0, z1, z2, z3]) rfl ⟨_, n, _, U, x, y, u, v, rfl, hn, hW, hO.base (by omega)⟩
end Go.Proofs.Ytbngdlbecdloiaa
