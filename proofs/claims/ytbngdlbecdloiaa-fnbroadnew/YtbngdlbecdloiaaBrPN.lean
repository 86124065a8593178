/- A box put where there is room: the specification's side. -/
import Derived.Test.YtbngdlbecdloiaaB16
set_option maxHeartbeats 16000000
set_option maxRecDepth 20000
namespace Go.Proofs.Ytbngdlbecdloiaa
open Go.RowKit
set_option linter.unusedVariables false
set_option linter.unusedSimpArgs false
set_option maxRecDepth 20000 in
set_option maxHeartbeats 4000000 in
theorem sPut_n (a : Option Addr) (n c : Nat) (U X : Nat → Int) (k : Nat) (w : World) (h : Flat w a (n * 5) U) (hc : n ≤ c) (hn : n ≤ 1048576) (hk : IsAt n U (X 0) k) (ha : ∃ b o, a = some ⟨b, o, none⟩) (hb : broadB n U = true) (hi : itemB X = true) (ht : thereB n U (X 0) k = false) (h24 : n < 24) :
    Calls Try.prog 11 #[.agg #[.slice a n c], itemW X] w fun e w' => ∃ a' c', e = .returned (.tuple #[.agg #[.slice a' (n + 1) c'], .bool true]) ∧ Out w w' a' (n + 1) c' (insU k U X k) := by
  have hset := cset_map
  obtain ⟨b, o, rfl⟩ := ha
  have hkn := hk.le
  have h24' : ¬ ((24 : Int) ≤ (n : Int)) := by omega
  go_enter Try.func11, Try.ntmps11
  go_upto_region 1 with fail
  go_cut [11] (fun s wc => s = .bool false ∧ PB w wc (some ⟨b, o, none⟩) n c X)
  case first =>
    have hE : PB w (((w.alloc (.cells #[.slice (some ⟨b, o, none⟩) n c] 25)).alloc (.cells #[.int .i64 (X 0), .int .i64 (X 1), .int .i64 (X 2), .int .i64 (X 3), .int .i64 (X 4)] 31)).alloc (.cells #[.slice none 0 0] 25)) (some ⟨b, o, none⟩) n c X := ⟨(((Below.refl _ _).alloc (Nat.le_refl _) _).alloc (by simp) _).alloc (by simp only [World.size_alloc]; omega) _, by simp, by go_simp, by go_simp, by go_simp, by go_simp, by go_simp, by go_simp, by go_simp, by go_simp⟩
    go_wp2_with (go_at_call 14; refine (sBroadOk_q _ _ _ U _ _ (h.below hE.bel) hn (by with_reducible assumption)).mono ?_; rintro e w1 ⟨rfl, hb1⟩)
    go_meet
    exact ⟨rfl, hE.on hb1⟩
  case rest =>
  obtain ⟨rfl, hG⟩ := hcut
  have hbox := hG.box
  have hbig := hG.big
  have hx0 := hG.x0
  have hx1 := hG.x1
  have hx2 := hG.x2
  have hx3 := hG.x3
  have hx4 := hG.x4
  have hres := hG.res
  have hnfr := hG.nfr
  have hi1 : decide (0 ≤ X 0 ∧ X 0 ≤ 1000000000) = true := by unfold itemB at hi; simp only [Bool.and_eq_true] at hi; exact hi.1
  have hi2 : bokB (X 1) (X 2) (X 3) (X 4) = true := by unfold itemB at hi; simp only [Bool.and_eq_true] at hi; exact hi.2
  go_upto_region 3 with fail
  go_cut [22] (fun s wc => s = .bool false ∧ PB w wc (some ⟨b, o, none⟩) n c X)
  case first =>
    go_wp2_with (first
      | (go_at_call 42; refine (l1In_q _ _ _ _ _ (by with_reducible assumption)).mono ?_; rintro e w1 ⟨rfl, rfl⟩)
      | (go_at_call 28; refine (sBox_q _ _ _ _ _ _ (by with_reducible assumption)).mono ?_; rintro e w2 ⟨rfl, hb2⟩))
    go_meet
    exact ⟨rfl, hG.on hb2⟩
  case rest =>
  clear hG hbox hbig hx0 hx1 hx2 hx3 hx4 hres hnfr
  obtain ⟨rfl, hG⟩ := hcut
  have hbox := hG.box
  have hbig := hG.big
  have hx0 := hG.x0
  have hx1 := hG.x1
  have hx2 := hG.x2
  have hx3 := hG.x3
  have hx4 := hG.x4
  have hres := hG.res
  have hnfr := hG.nfr
  go_upto_region 5 with fail
  go_cut [6, 7] (fun s t wc => s = .int .i64 (k : Int) ∧ t = .bool false ∧ PB w wc (some ⟨b, o, none⟩) n c X)
  case first =>
    go_wp2_with (go_at_call 44; refine (l4At_q _ _ _ U _ k _ _ (h.below hG.bel) hn hk (by with_reducible assumption)).mono ?_; rintro e w1 ⟨rfl, hb1⟩)
    go_meet
    exact ⟨rfl, rfl, hG.on hb1⟩
  case rest =>
  clear hG hbox hbig hx0 hx1 hx2 hx3 hx4 hres hnfr
  obtain ⟨rfl, rfl, hG⟩ := hcut
  have hbox := hG.box
  have hbig := hG.big
  have hx0 := hG.x0
  have hx1 := hG.x1
  have hx2 := hG.x2
  have hx3 := hG.x3
  have hx4 := hG.x4
  have hres := hG.res
  have hnfr := hG.nfr
  go_upto_region 6 with fail
  go_cut [8] (fun s wc => ∃ bx a1 c1, s = .pointer (some ⟨bx, 0, none⟩) ∧ wc.cell? ⟨bx, 0, none⟩ = some (.slice a1 n c1) ∧ wc.frozen? ⟨bx, 0, none⟩ = false ∧ w.heap.size + 1 + 1 < bx ∧ bx < wc.heap.size ∧ PB w wc (some ⟨b, o, none⟩) n c X ∧ OwnL wc (w.heap.size + 1 + 1) 31 5 (.slice a1 n c1) n U ∧ (∀ b, (Value.slice a1 n c1).ownBlock = some b → w.heap.size + 1 + 1 < b ∧ b < bx))
  case first =>
    go_wp2_with (go_at_call 43; refine (l4Copy_any _ _ _ U _ (h.below hG.bel) hn).mono ?_; rintro e w1 ⟨a1, c1, rfl, hO1⟩; have hG1 := hG.on hO1.bel)
    go_meet
    have q1 := hG1.big
    have hsz := hG.big
    exact ⟨_, a1, c1, rfl, by go_simp, by go_simp, by omega, by simp, hG1.on ((Below.refl _ _).alloc (Nat.le_refl _) _), (hO1.own.base (by omega)).below ((Below.refl _ _).alloc (Nat.le_refl _) _), fun b e => by have := hO1.own.lt b e; omega⟩
  case rest =>
  clear hG hbox hbig hx0 hx1 hx2 hx3 hx4 hres hnfr
  obtain ⟨bx, a1, c1, rfl, hx, hxf, hbx1, hbx2, hG, ho, hown⟩ := hcut
  have hbox := hG.box
  have hbig := hG.big
  have hx0 := hG.x0
  have hx1 := hG.x1
  have hx2 := hG.x2
  have hx3 := hG.x3
  have hx4 := hG.x4
  have hres := hG.res
  have hnfr := hG.nfr
  clear ho hown
  have hkc : (k : Int) ≤ (c : Int) := by omega
  have hdn : (k : Int) ≤ (n : Int) := by omega
  have hk1 : (0 : Int) ≤ (k : Int) := by omega
  obtain ⟨at2, hat2⟩ : ∃ x, (if c = k then some (⟨b, o, none⟩ : Addr) else some ⟨b, o + k * 5, none⟩) = x := ⟨_, rfl⟩
  have hF1 : ∀ wz, Flat wz (some ⟨b, o, none⟩) (n * 5) U → Flat wz (some ⟨b, o, none⟩) (k * 5) U := fun wz q h0 => by
    obtain ⟨b', o', e, l, cc⟩ := q (by omega)
    exact ⟨b', o', e, l, fun q hq => cc q (by omega)⟩
  have hF2 : ∀ wz, Flat wz (some ⟨b, o, none⟩) (n * 5) U → Flat wz at2 ((n - k) * 5) (fun q => U (q + k * 5)) := fun wz q h0 => by
    obtain ⟨b', o', e, l, cc⟩ := q (by omega)
    simp only [Option.some.injEq, Addr.mk.injEq, and_true] at e
    obtain ⟨rfl, rfl⟩ := e
    refine ⟨b, o + k * 5, by rw [← hat2, if_neg (by omega)], l, fun q hq => ?_⟩
    rw [show o + k * 5 + q = o + (q + k * 5) by omega]
    exact cc _ (by omega)
  have n1 : (bx = w.heap.size) = False := eq_false (by omega)
  have n2 : (w.heap.size = bx) = False := eq_false (by omega)
  have n3 : (bx = w.heap.size + 1 + 1) = False := eq_false (by omega)
  have n4 : (w.heap.size + 1 + 1 = bx) = False := eq_false (by omega)
  have n5 : (bx = w.heap.size + 1) = False := eq_false (by omega)
  have n6 : (w.heap.size + 1 = bx) = False := eq_false (by omega)
  go_upto_region 12 with fail
  refine wp_region_held_drew (S := fun w' => w'.cell? ⟨w.heap.size, 0, none⟩ = some (.slice (some ⟨b, o, none⟩) n c) ∧ w'.cell? ⟨w.heap.size + 1, 0, none⟩ = some (.int .i64 (X 0)) ∧ w'.cell? ⟨w.heap.size + 1, 1, none⟩ = some (.int .i64 (X 1)) ∧ w'.cell? ⟨w.heap.size + 1, 2, none⟩ = some (.int .i64 (X 2)) ∧ w'.cell? ⟨w.heap.size + 1, 3, none⟩ = some (.int .i64 (X 3)) ∧ w'.cell? ⟨w.heap.size + 1, 4, none⟩ = some (.int .i64 (X 4))) (by kernel_rfl) ?_ (fun hHeld => ?_)
  · (try dsimp only)
    (first | (go_simp; done) | (go_keep; done))
  refine tq 1 hHeld ?_
  refine tq 2 hHeld ?_
  refine tq 3 hHeld ?_
  refine tq 4 hHeld ?_
  refine tq 6 hHeld ?_
  refine tq 9 hHeld ?_
  refine tq 10 hHeld ?_
  refine tq 11 hHeld ?_
  refine tq 12 hHeld ?_
  refine wpAnyH_ready (rs := [0, 7]) (by kernel_rfl) (by simp) ?_
  refine AllReadyH.cons (o := ⟨_, _, _, _, _, _⟩) rfl (fun K hK => ?_) (AllReadyH.cons (o := ⟨_, _, _, _, _, _⟩) rfl (fun K hK => ?_) AllReadyH.nil)
  · have hB0 : Below wc.heap.size wc (wc.drew.alloc (.cells #[] 31)) := (Below.refl _ _).drew.alloc (by simp) _
    have hG0 := hG.on hB0
    have hbox0 := hG0.box
    have ho0 := OwnL.fresh wc.drew wc.heap.size 31 5 U (by simp)
    simp only [World.size_drew] at ho0
    (go_simp; refine tr hK (fun hHeld => ?_); clear hK K)
    refine wpAnyH_ready (rs := [5, 7]) (by kernel_rfl) (by simp) ?_
    refine AllReadyH.cons (o := ⟨_, _, _, _, _, _⟩) rfl (fun K hK => ?_) (AllReadyH.cons (o := ⟨_, _, _, _, _, _⟩) rfl (fun K hK => ?_) AllReadyH.nil)
    · refine step_app rfl _ _ _ rfl wc.heap.size 31 5 40 zeroI Try.underlying23 infoIt rfl (by decide) (.slice (some ⟨wc.heap.size, 0, none⟩) 0 0) 0 U rfl ho0 _ k c U rfl (hF1 _ (h.below hG0.bel)) (by unfold maxLen; omega) (by omega) hB0.size ?_
      intro a5 c5 w5 ho5 hg5
      rw [Nat.zero_add] at ho5 ⊢
      replace ho5 := ho5.congr (V := U) fun q _ => by simp [cat]
      have hB5 : Below wc.heap.size wc w5 := hB0.grown hg5 hB0.size (fun b hb => (ho0.lt b hb).1)
      have hG5 := hG.on hB5
      have hbox5 := hG5.box
      have y05 := hG5.x0
      have y15 := hG5.x1
      have y25 := hG5.x2
      have y35 := hG5.x3
      have y45 := hG5.x4
      (refine tr hK (fun hHeld => ?_); clear hK K)
      have hB7 : Below wc.heap.size wc (w5.alloc (.cells #[.int .i64 (X 0), .int .i64 (X 1), .int .i64 (X 2), .int .i64 (X 3), .int .i64 (X 4)] 31)) := hB5.alloc hB5.size _
      have ho57 := ho5.below ((Below.refl _ _).alloc (Nat.le_refl _) (.cells #[.int .i64 (X 0), .int .i64 (X 1), .int .i64 (X 2), .int .i64 (X 3), .int .i64 (X 4)] 31))
      have hFX : Flat (w5.alloc (.cells #[.int .i64 (X 0), .int .i64 (X 1), .int .i64 (X 2), .int .i64 (X 3), .int .i64 (X 4)] 31)) (some ⟨w5.heap.size, 0, none⟩) (1 * 5) X := fun _ => ⟨_, 0, rfl, by simp, fun q hq => by
        rcases (show q = 0 ∨ q = 1 ∨ q = 2 ∨ q = 3 ∨ q = 4 by omega) with rfl | rfl | rfl | rfl | rfl <;> go_simp⟩
      have hG7 := hG.on hB7
      have hbox7 := hG7.box
      (refine tc 7 fun K hK => ?_; go_simp; refine tr hK (fun hHeld => ?_); clear hK K)
      replace ho5 := ho57
      clear ho57
      refine tc 8 fun K hK => ?_
      refine step_app rfl _ _ _ rfl wc.heap.size 31 5 40 zeroI Try.underlying23 infoIt rfl (by decide) (.slice a5 k c5) k U rfl ho5 (some ⟨w5.heap.size, 0, none⟩) 1 1 X rfl hFX (by unfold maxLen; omega) (by omega) hB7.size ?_
      intro a8 c8 w8 ho8 hg8
      have hB8 : Below wc.heap.size wc w8 := hB7.grown hg8 hB7.size (fun b hb => (ho5.lt b hb).1)
      have hG8 := hG.on hB8
      have hbox8 := hG8.box
      have y08 := hG8.x0
      have y18 := hG8.x1
      have y28 := hG8.x2
      have y38 := hG8.x3
      have y48 := hG8.x4
      (refine tr hK (fun hHeld => ?_); clear hK K)
      refine tc 13 fun K hK => ?_
      refine step_app rfl _ _ _ rfl wc.heap.size 31 5 40 zeroI Try.underlying23 infoIt rfl (by decide) (.slice a8 (k + 1) c8) (k + 1) _ rfl ho8 at2 (n - k) _ _ rfl (hF2 _ (h.below hG8.bel)) (by unfold maxLen; omega) (by omega) hB8.size ?_
      intro a13 c13 w13 ho13 hg13
      have hlen : k + 1 + (n - k) = n + 1 := by omega
      rw [hlen] at ho13 ⊢
      have hB13 : Below wc.heap.size wc w13 := hB8.grown hg13 hB8.size (fun b hb => (ho8.lt b hb).1)
      have hG13 := hG.on hB13
      have hbox13 := hG13.box
      have y013 := hG13.x0
      have y113 := hG13.x1
      have y213 := hG13.x2
      have y313 := hG13.x3
      have y413 := hG13.x4
      have hres13 := hG13.res
      have hnfr13 := hG13.nfr
      have hbig13 := hG13.big
      have hx3 := (hB13.cell (p := ⟨bx, 0, none⟩) hbx2).trans hx
      have hxf3 := (hB13.frozen (p := ⟨bx, 0, none⟩) hbx2).trans hxf
      have hbx3 : bx < w13.heap.size := Nat.lt_of_lt_of_le hbx2 hB13.size
      (refine tr hK (fun hHeld => ?_); clear hK K)
      refine tq 14 hHeld ?_
      (refine tc 15 fun K hK => ?_; go_simp; refine tr hK (fun hHeld => ?_); clear hK K)
      refine wpAnyH_done (by kernel_rfl) ?_ _
      go_wp2_with fail
      refine bodyPost_ret (v := .tuple #[.agg #[.slice a13 (n + 1) c13], .bool true]) (by simp [results, Try.results11, go_sem, *]) rfl ⟨a13, c13, rfl, ?_⟩
      have hO : Out w w13 a13 (n + 1) c13 (insU k U X k) := ⟨(ho13.congr fun q _ => by simp [insU]).base hG.bel.size, hG13.bel⟩
      exact (hO.set _ (by simp; omega) (fun e => by have := (ho13.lt _ e).1; simp at this; omega)).set _ (by simp; omega) (fun e => by have := (ho13.lt _ e).1; simp at this; omega)
    · (go_simp; refine tr hK (fun hHeld => ?_); clear hK K)
      have hB7 : Below wc.heap.size wc ((wc.drew.alloc (.cells #[] 31)).alloc (.cells #[.int .i64 (X 0), .int .i64 (X 1), .int .i64 (X 2), .int .i64 (X 3), .int .i64 (X 4)] 31)) := hB0.alloc (by simp) _
      have hG7 := hG.on hB7
      have ho07 := ho0.below ((Below.refl _ _).alloc (Nat.le_refl _) (.cells #[.int .i64 (X 0), .int .i64 (X 1), .int .i64 (X 2), .int .i64 (X 3), .int .i64 (X 4)] 31))
      refine tc 5 fun K hK => ?_
      refine step_app rfl _ _ _ rfl wc.heap.size 31 5 40 zeroI Try.underlying23 infoIt rfl (by decide) (.slice (some ⟨wc.heap.size, 0, none⟩) 0 0) 0 U rfl ho07 _ k c U rfl (hF1 _ (h.below hG7.bel)) (by unfold maxLen; omega) (by omega) hB7.size ?_
      intro a5 c5 w5 ho5 hg5
      rw [Nat.zero_add] at ho5 ⊢
      replace ho5 := ho5.congr (V := U) fun q _ => by simp [cat]
      have hB5 : Below wc.heap.size wc w5 := hB7.grown hg5 hB7.size (fun b hb => (ho07.lt b hb).1)
      have hG5 := hG.on hB5
      have hbox5 := hG5.box
      have y05 := hG5.x0
      have y15 := hG5.x1
      have y25 := hG5.x2
      have y35 := hG5.x3
      have y45 := hG5.x4
      have hFX : Flat w5 (some ⟨wc.heap.size + 1, 0, none⟩) (1 * 5) X := fun _ => ⟨_, 0, rfl, Nat.lt_of_lt_of_le (by simp only [World.size_alloc, World.size_drew]; omega) hg5.size, fun q hq => by
        rcases (show q = 0 ∨ q = 1 ∨ q = 2 ∨ q = 3 ∨ q = 4 by omega) with rfl | rfl | rfl | rfl | rfl <;> exact hg5.cell (by go_simp) (by simp [Value.ownBlock])⟩
      (refine tr hK (fun hHeld => ?_); clear hK K)
      refine tc 8 fun K hK => ?_
      refine step_app rfl _ _ _ rfl wc.heap.size 31 5 40 zeroI Try.underlying23 infoIt rfl (by decide) (.slice a5 k c5) k U rfl ho5 (some ⟨wc.heap.size + 1, 0, none⟩) 1 1 X rfl hFX (by unfold maxLen; omega) (by omega) hB5.size ?_
      intro a8 c8 w8 ho8 hg8
      have hB8 : Below wc.heap.size wc w8 := hB5.grown hg8 hB5.size (fun b hb => (ho5.lt b hb).1)
      have hG8 := hG.on hB8
      have hbox8 := hG8.box
      have y08 := hG8.x0
      have y18 := hG8.x1
      have y28 := hG8.x2
      have y38 := hG8.x3
      have y48 := hG8.x4
      (refine tr hK (fun hHeld => ?_); clear hK K)
      refine tc 13 fun K hK => ?_
      refine step_app rfl _ _ _ rfl wc.heap.size 31 5 40 zeroI Try.underlying23 infoIt rfl (by decide) (.slice a8 (k + 1) c8) (k + 1) _ rfl ho8 at2 (n - k) _ _ rfl (hF2 _ (h.below hG8.bel)) (by unfold maxLen; omega) (by omega) hB8.size ?_
      intro a13 c13 w13 ho13 hg13
      have hlen : k + 1 + (n - k) = n + 1 := by omega
      rw [hlen] at ho13 ⊢
      have hB13 : Below wc.heap.size wc w13 := hB8.grown hg13 hB8.size (fun b hb => (ho8.lt b hb).1)
      have hG13 := hG.on hB13
      have hbox13 := hG13.box
      have y013 := hG13.x0
      have y113 := hG13.x1
      have y213 := hG13.x2
      have y313 := hG13.x3
      have y413 := hG13.x4
      have hres13 := hG13.res
      have hnfr13 := hG13.nfr
      have hbig13 := hG13.big
      have hx3 := (hB13.cell (p := ⟨bx, 0, none⟩) hbx2).trans hx
      have hxf3 := (hB13.frozen (p := ⟨bx, 0, none⟩) hbx2).trans hxf
      have hbx3 : bx < w13.heap.size := Nat.lt_of_lt_of_le hbx2 hB13.size
      (refine tr hK (fun hHeld => ?_); clear hK K)
      refine tq 14 hHeld ?_
      (refine tc 15 fun K hK => ?_; go_simp; refine tr hK (fun hHeld => ?_); clear hK K)
      refine wpAnyH_done (by kernel_rfl) ?_ _
      go_wp2_with fail
      refine bodyPost_ret (v := .tuple #[.agg #[.slice a13 (n + 1) c13], .bool true]) (by simp [results, Try.results11, go_sem, *]) rfl ⟨a13, c13, rfl, ?_⟩
      have hO : Out w w13 a13 (n + 1) c13 (insU k U X k) := ⟨(ho13.congr fun q _ => by simp [insU]).base hG.bel.size, hG13.bel⟩
      exact (hO.set _ (by simp; omega) (fun e => by have := (ho13.lt _ e).1; simp at this; omega)).set _ (by simp; omega) (fun e => by have := (ho13.lt _ e).1; simp at this; omega)
  · have hB7x : Below wc.heap.size wc (wc.drew.alloc (.cells #[.int .i64 (X 0), .int .i64 (X 1), .int .i64 (X 2), .int .i64 (X 3), .int .i64 (X 4)] 31)) := (Below.refl _ _).drew.alloc (by simp) _
    have ho07 := OwnL.fresh (wc.drew.alloc (.cells #[.int .i64 (X 0), .int .i64 (X 1), .int .i64 (X 2), .int .i64 (X 3), .int .i64 (X 4)] 31)) wc.heap.size 31 5 U (by simp)
    simp only [World.size_alloc, World.size_drew] at ho07
    have hB7 : Below wc.heap.size wc ((wc.drew.alloc (.cells #[.int .i64 (X 0), .int .i64 (X 1), .int .i64 (X 2), .int .i64 (X 3), .int .i64 (X 4)] 31)).alloc (.cells #[] 31)) := hB7x.alloc (by simp) _
    have hG7 := hG.on hB7
    have hbox7 := hG7.box
    (go_simp; refine tr hK (fun hHeld => ?_); clear hK K)
    (refine tc 0 fun K hK => ?_; go_simp; refine tr hK (fun hHeld => ?_); clear hK K)
    refine tc 5 fun K hK => ?_
    refine step_app rfl _ _ _ rfl wc.heap.size 31 5 40 zeroI Try.underlying23 infoIt rfl (by decide) (.slice (some ⟨wc.heap.size + 1, 0, none⟩) 0 0) 0 U rfl ho07 _ k c U rfl (hF1 _ (h.below hG7.bel)) (by unfold maxLen; omega) (by omega) hB7.size ?_
    intro a5 c5 w5 ho5 hg5
    rw [Nat.zero_add] at ho5 ⊢
    replace ho5 := ho5.congr (V := U) fun q _ => by simp [cat]
    have hB5 : Below wc.heap.size wc w5 := hB7.grown hg5 hB7.size (fun b hb => (ho07.lt b hb).1)
    have hG5 := hG.on hB5
    have hbox5 := hG5.box
    have y05 := hG5.x0
    have y15 := hG5.x1
    have y25 := hG5.x2
    have y35 := hG5.x3
    have y45 := hG5.x4
    have hFX : Flat w5 (some ⟨wc.heap.size, 0, none⟩) (1 * 5) X := fun _ => ⟨_, 0, rfl, Nat.lt_of_lt_of_le (by simp only [World.size_alloc, World.size_drew]; omega) hg5.size, fun q hq => by
      rcases (show q = 0 ∨ q = 1 ∨ q = 2 ∨ q = 3 ∨ q = 4 by omega) with rfl | rfl | rfl | rfl | rfl <;> exact hg5.cell (by go_simp) (by simp [Value.ownBlock])⟩
    (refine tr hK (fun hHeld => ?_); clear hK K)
    refine tc 8 fun K hK => ?_
    refine step_app rfl _ _ _ rfl wc.heap.size 31 5 40 zeroI Try.underlying23 infoIt rfl (by decide) (.slice a5 k c5) k U rfl ho5 (some ⟨wc.heap.size, 0, none⟩) 1 1 X rfl hFX (by unfold maxLen; omega) (by omega) hB5.size ?_
    intro a8 c8 w8 ho8 hg8
    have hB8 : Below wc.heap.size wc w8 := hB5.grown hg8 hB5.size (fun b hb => (ho5.lt b hb).1)
    have hG8 := hG.on hB8
    have hbox8 := hG8.box
    have y08 := hG8.x0
    have y18 := hG8.x1
    have y28 := hG8.x2
    have y38 := hG8.x3
    have y48 := hG8.x4
    (refine tr hK (fun hHeld => ?_); clear hK K)
    refine tc 13 fun K hK => ?_
    refine step_app rfl _ _ _ rfl wc.heap.size 31 5 40 zeroI Try.underlying23 infoIt rfl (by decide) (.slice a8 (k + 1) c8) (k + 1) _ rfl ho8 at2 (n - k) _ _ rfl (hF2 _ (h.below hG8.bel)) (by unfold maxLen; omega) (by omega) hB8.size ?_
    intro a13 c13 w13 ho13 hg13
    have hlen : k + 1 + (n - k) = n + 1 := by omega
    rw [hlen] at ho13 ⊢
    have hB13 : Below wc.heap.size wc w13 := hB8.grown hg13 hB8.size (fun b hb => (ho8.lt b hb).1)
    have hG13 := hG.on hB13
    have hbox13 := hG13.box
    have y013 := hG13.x0
    have y113 := hG13.x1
    have y213 := hG13.x2
    have y313 := hG13.x3
    have y413 := hG13.x4
    have hres13 := hG13.res
    have hnfr13 := hG13.nfr
    have hbig13 := hG13.big
    have hx3 := (hB13.cell (p := ⟨bx, 0, none⟩) hbx2).trans hx
    have hxf3 := (hB13.frozen (p := ⟨bx, 0, none⟩) hbx2).trans hxf
    have hbx3 : bx < w13.heap.size := Nat.lt_of_lt_of_le hbx2 hB13.size
    (refine tr hK (fun hHeld => ?_); clear hK K)
    refine tq 14 hHeld ?_
    (refine tc 15 fun K hK => ?_; go_simp; refine tr hK (fun hHeld => ?_); clear hK K)
    refine wpAnyH_done (by kernel_rfl) ?_ _
    go_wp2_with fail
    refine bodyPost_ret (v := .tuple #[.agg #[.slice a13 (n + 1) c13], .bool true]) (by simp [results, Try.results11, go_sem, *]) rfl ⟨a13, c13, rfl, ?_⟩
    have hO : Out w w13 a13 (n + 1) c13 (insU k U X k) := ⟨(ho13.congr fun q _ => by simp [insU]).base hG.bel.size, hG13.bel⟩
    exact (hO.set _ (by simp; omega) (fun e => by have := (ho13.lt _ e).1; simp at this; omega)).set _ (by simp; omega) (fun e => by have := (ho13.lt _ e).1; simp at this; omega)
end Go.Proofs.Ytbngdlbecdloiaa
