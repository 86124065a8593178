/- A box put: the program's side. -/
import Derived.Test.YtbngdlbecdloiaaB16
set_option maxHeartbeats 16000000
set_option maxRecDepth 20000
namespace Go.Proofs.Ytbngdlbecdloiaa
open Go.RowKit
set_option linter.unusedVariables false
set_option linter.unusedSimpArgs false
set_option maxRecDepth 20000 in
set_option maxHeartbeats 4000000 in
theorem put_r (a : Option Addr) (n c : Nat) (U X : Nat → Int) (k : Nat) (w : World) (h : Flat w a (n * 5) U) (hc : n ≤ c) (hn : n ≤ 1048576) (hk : IsAt n U (X 0) k) (hb : broadB n U = false) :
    Calls Try.prog 10 #[.agg #[.slice a n c], itemW X] w fun e w' => ∃ a' c', e = .returned (.tuple #[.agg #[.slice a' 0 c'], .bool false]) ∧ ∀ R, Out w w' a' 0 c' R := by
  have hset := cset_map
  go_enter Try.func10, Try.ntmps10
  go_upto_region 1 with fail
  go_cut [11] (fun s wc => s = .bool true ∧ PB w wc a n c X)
  case first =>
    have hE : PB w (((w.alloc (.cells #[.slice a n c] 25)).alloc (.cells #[.int .i64 (X 0), .int .i64 (X 1), .int .i64 (X 2), .int .i64 (X 3), .int .i64 (X 4)] 31)).alloc (.cells #[.slice none 0 0] 25)) a n c X := ⟨(((Below.refl _ _).alloc (Nat.le_refl _) _).alloc (by simp) _).alloc (by simp only [World.size_alloc]; omega) _, by simp, by go_simp, by go_simp, by go_simp, by go_simp, by go_simp, by go_simp, by go_simp, by go_simp⟩
    go_wp2_with (go_at_call 13; refine (broadOk_q _ _ _ U _ _ (h.below hE.bel) hn (by with_reducible assumption)).mono ?_; rintro e w1 ⟨rfl, hb1⟩)
    go_meet
    exact ⟨rfl, hE.on hb1⟩
  case rest =>
  obtain ⟨rfl, hG⟩ := hcut
  have hbox := hG.box
  have hbig := hG.big
  have hx0 := hG.x0
  have hx1 := hG.x1
  have hx2 := hG.x2
  have hx3 := hG.x3
  have hx4 := hG.x4
  have hres := hG.res
  have hnfr := hG.nfr
  go_wp2_with fail
  refine bodyPost_ret (v := .tuple #[.agg #[.slice none 0 0], .bool false]) (by simp [results, Try.results10, go_sem, *]) rfl ⟨none, 0, rfl, fun R => ?_⟩
  exact ⟨OwnL.nil _ _ _ _ _, hG.bel.setCell (by simp; omega) _⟩
set_option maxRecDepth 20000 in
set_option maxHeartbeats 4000000 in
theorem put_i (a : Option Addr) (n c : Nat) (U X : Nat → Int) (k : Nat) (w : World) (h : Flat w a (n * 5) U) (hc : n ≤ c) (hn : n ≤ 1048576) (hk : IsAt n U (X 0) k) (hb : broadB n U = true) (hi : itemB X = false) :
    Calls Try.prog 10 #[.agg #[.slice a n c], itemW X] w fun e w' => ∃ a' c', e = .returned (.tuple #[.agg #[.slice a' n c'], .bool false]) ∧ Out w w' a' n c' U := by
  have hset := cset_map
  go_enter Try.func10, Try.ntmps10
  go_upto_region 1 with fail
  go_cut [11] (fun s wc => s = .bool false ∧ PB w wc a n c X)
  case first =>
    have hE : PB w (((w.alloc (.cells #[.slice a n c] 25)).alloc (.cells #[.int .i64 (X 0), .int .i64 (X 1), .int .i64 (X 2), .int .i64 (X 3), .int .i64 (X 4)] 31)).alloc (.cells #[.slice none 0 0] 25)) a n c X := ⟨(((Below.refl _ _).alloc (Nat.le_refl _) _).alloc (by simp) _).alloc (by simp only [World.size_alloc]; omega) _, by simp, by go_simp, by go_simp, by go_simp, by go_simp, by go_simp, by go_simp, by go_simp, by go_simp⟩
    go_wp2_with (go_at_call 13; refine (broadOk_q _ _ _ U _ _ (h.below hE.bel) hn (by with_reducible assumption)).mono ?_; rintro e w1 ⟨rfl, hb1⟩)
    go_meet
    exact ⟨rfl, hE.on hb1⟩
  case rest =>
  obtain ⟨rfl, hG⟩ := hcut
  have hbox := hG.box
  have hbig := hG.big
  have hx0 := hG.x0
  have hx1 := hG.x1
  have hx2 := hG.x2
  have hx3 := hG.x3
  have hx4 := hG.x4
  have hres := hG.res
  have hnfr := hG.nfr
  obtain ⟨th, hth⟩ : ∃ t, thereB n U (X 0) k = t := ⟨_, rfl⟩
  go_upto_region 3 with fail
  go_cut [6, 7] (fun s t wc => s = .int .i64 (k : Int) ∧ t = .bool th ∧ PB w wc a n c X)
  case first =>
    go_wp2_with (go_at_call 38; refine (itemPlace_q _ _ _ U _ k _ _ (h.below hG.bel) hn hk (by with_reducible assumption)).mono ?_; rintro e w1 ⟨rfl, hb1⟩)
    go_meet
    exact ⟨rfl, rfl, hG.on hb1⟩
  case rest =>
  clear hG hbox hbig hx0 hx1 hx2 hx3 hx4 hres hnfr
  obtain ⟨rfl, rfl, hG⟩ := hcut
  have hbox := hG.box
  have hbig := hG.big
  have hx0 := hG.x0
  have hx1 := hG.x1
  have hx2 := hG.x2
  have hx3 := hG.x3
  have hx4 := hG.x4
  have hres := hG.res
  have hnfr := hG.nfr
  go_upto_region 4 with fail
  go_cut [33] (fun s wc => s = .bool true ∧ PB w wc a n c X)
  case first =>
    go_wp2_with (go_at_call 39; refine (itemOk_q X _ _ (by exact hi)).mono ?_; rintro e w2 ⟨rfl, hb2⟩; have hG2 := hG.on hb2; have hbox2 := hG2.box)
    go_meet
    exact ⟨rfl, hG2⟩
  case rest =>
  clear hG hbox hbig hx0 hx1 hx2 hx3 hx4 hres hnfr
  obtain ⟨rfl, hG⟩ := hcut
  have hbox := hG.box
  have hbig := hG.big
  have hx0 := hG.x0
  have hx1 := hG.x1
  have hx2 := hG.x2
  have hx3 := hG.x3
  have hx4 := hG.x4
  have hres := hG.res
  have hnfr := hG.nfr
  go_wp2_with (go_at_call 40; refine (copied_any _ _ _ U _ (h.below hG.bel) hn).mono ?_; rintro e w1 ⟨a1, c1, rfl, hO1⟩; have hG1 := hG.on hO1.bel; have hres1 := hG1.res; have hnfr1 := hG1.nfr; have hbig1 := hG1.big)
  refine bodyPost_ret (v := .tuple #[.agg #[.slice a1 n c1], .bool false]) (by simp [results, Try.results10, go_sem, *]) rfl ⟨a1, c1, rfl, ?_⟩
  have hlt := hO1.own.lt
  have hsz := hG.bel.size
  have hO : Out w w1 a1 n c1 U := ⟨hO1.own.base hsz, hG1.bel⟩
  exact hO.set (p := ⟨w.heap.size + 1 + 1, 0, none⟩) _ (by simp; omega) (fun e => by have := (hlt _ e).1; simp at this; omega)
set_option maxRecDepth 20000 in
set_option maxHeartbeats 4000000 in
theorem put_f (a : Option Addr) (n c : Nat) (U X : Nat → Int) (k : Nat) (w : World) (h : Flat w a (n * 5) U) (hc : n ≤ c) (hn : n ≤ 1048576) (hk : IsAt n U (X 0) k) (hb : broadB n U = true) (hi : itemB X = true) (ht : thereB n U (X 0) k = false) (h24 : n = 24) :
    Calls Try.prog 10 #[.agg #[.slice a n c], itemW X] w fun e w' => ∃ a' c', e = .returned (.tuple #[.agg #[.slice a' n c'], .bool false]) ∧ Out w w' a' n c' U := by
  have hset := cset_map
  have h24' : ((n : Int) == 24) = true := by simp [h24]
  have H24 : Shut (n = 24) := h24
  clear h24
  go_enter Try.func10, Try.ntmps10
  go_upto_region 1 with fail
  go_cut [11] (fun s wc => s = .bool false ∧ PB w wc a n c X)
  case first =>
    have hE : PB w (((w.alloc (.cells #[.slice a n c] 25)).alloc (.cells #[.int .i64 (X 0), .int .i64 (X 1), .int .i64 (X 2), .int .i64 (X 3), .int .i64 (X 4)] 31)).alloc (.cells #[.slice none 0 0] 25)) a n c X := ⟨(((Below.refl _ _).alloc (Nat.le_refl _) _).alloc (by simp) _).alloc (by simp only [World.size_alloc]; omega) _, by simp, by go_simp, by go_simp, by go_simp, by go_simp, by go_simp, by go_simp, by go_simp, by go_simp⟩
    go_wp2_with (go_at_call 13; refine (broadOk_q _ _ _ U _ _ (h.below hE.bel) hn (by with_reducible assumption)).mono ?_; rintro e w1 ⟨rfl, hb1⟩)
    go_meet
    exact ⟨rfl, hE.on hb1⟩
  case rest =>
  obtain ⟨rfl, hG⟩ := hcut
  have hbox := hG.box
  have hbig := hG.big
  have hx0 := hG.x0
  have hx1 := hG.x1
  have hx2 := hG.x2
  have hx3 := hG.x3
  have hx4 := hG.x4
  have hres := hG.res
  have hnfr := hG.nfr
  go_upto_region 3 with fail
  go_cut [6, 7] (fun s t wc => s = .int .i64 (k : Int) ∧ t = .bool false ∧ PB w wc a n c X)
  case first =>
    go_wp2_with (go_at_call 38; refine (itemPlace_q _ _ _ U _ k _ _ (h.below hG.bel) hn hk (by with_reducible assumption)).mono ?_; rintro e w1 ⟨rfl, hb1⟩)
    go_meet
    exact ⟨rfl, rfl, hG.on hb1⟩
  case rest =>
  clear hG hbox hbig hx0 hx1 hx2 hx3 hx4 hres hnfr
  obtain ⟨rfl, rfl, hG⟩ := hcut
  have hbox := hG.box
  have hbig := hG.big
  have hx0 := hG.x0
  have hx1 := hG.x1
  have hx2 := hG.x2
  have hx3 := hG.x3
  have hx4 := hG.x4
  have hres := hG.res
  have hnfr := hG.nfr
  go_upto_region 4 with fail
  go_cut [33] (fun s wc => s = .bool true ∧ PB w wc a n c X)
  case first =>
    go_wp2_with (go_at_call 39; refine (itemOk_q X _ _ (by exact hi)).mono ?_; rintro e w2 ⟨rfl, hb2⟩; have hG2 := hG.on hb2; have hbox2 := hG2.box)
    go_meet
    exact ⟨rfl, hG2⟩
  case rest =>
  clear hG hbox hbig hx0 hx1 hx2 hx3 hx4 hres hnfr
  obtain ⟨rfl, hG⟩ := hcut
  have hbox := hG.box
  have hbig := hG.big
  have hx0 := hG.x0
  have hx1 := hG.x1
  have hx2 := hG.x2
  have hx3 := hG.x3
  have hx4 := hG.x4
  have hres := hG.res
  have hnfr := hG.nfr
  go_wp2_with (go_at_call 40; refine (copied_any _ _ _ U _ (h.below hG.bel) hn).mono ?_; rintro e w1 ⟨a1, c1, rfl, hO1⟩; have hG1 := hG.on hO1.bel; have hres1 := hG1.res; have hnfr1 := hG1.nfr; have hbig1 := hG1.big)
  refine bodyPost_ret (v := .tuple #[.agg #[.slice a1 n c1], .bool false]) (by simp [results, Try.results10, go_sem, *]) rfl ⟨a1, c1, rfl, ?_⟩
  have hlt := hO1.own.lt
  have hsz := hG.bel.size
  have hO : Out w w1 a1 n c1 U := ⟨hO1.own.base hsz, hG1.bel⟩
  exact hO.set (p := ⟨w.heap.size + 1 + 1, 0, none⟩) _ (by simp; omega) (fun e => by have := (hlt _ e).1; simp at this; omega)
set_option maxRecDepth 20000 in
set_option maxHeartbeats 4000000 in
theorem put_t (a : Option Addr) (n c : Nat) (U X : Nat → Int) (k : Nat) (w : World) (h : Flat w a (n * 5) U) (hc : n ≤ c) (hn : n ≤ 1048576) (hk : IsAt n U (X 0) k) (ha : ∃ b o, a = some ⟨b, o, none⟩) (hb : broadB n U = true) (hi : itemB X = true) (ht : thereB n U (X 0) k = true) :
    Calls Try.prog 10 #[.agg #[.slice a n c], itemW X] w fun e w' => ∃ a' c', e = .returned (.tuple #[.agg #[.slice a' n c'], .bool true]) ∧ Out w w' a' n c' (insU k U X (k + 1)) := by
  have hset := cset_map
  obtain ⟨b, o, rfl⟩ := ha
  have hkn : k < n := by unfold thereB at ht; simp only [decide_eq_true_eq] at ht; exact ht.1
  go_enter Try.func10, Try.ntmps10
  go_upto_region 1 with fail
  go_cut [11] (fun s wc => s = .bool false ∧ PB w wc (some ⟨b, o, none⟩) n c X)
  case first =>
    have hE : PB w (((w.alloc (.cells #[.slice (some ⟨b, o, none⟩) n c] 25)).alloc (.cells #[.int .i64 (X 0), .int .i64 (X 1), .int .i64 (X 2), .int .i64 (X 3), .int .i64 (X 4)] 31)).alloc (.cells #[.slice none 0 0] 25)) (some ⟨b, o, none⟩) n c X := ⟨(((Below.refl _ _).alloc (Nat.le_refl _) _).alloc (by simp) _).alloc (by simp only [World.size_alloc]; omega) _, by simp, by go_simp, by go_simp, by go_simp, by go_simp, by go_simp, by go_simp, by go_simp, by go_simp⟩
    go_wp2_with (go_at_call 13; refine (broadOk_q _ _ _ U _ _ (h.below hE.bel) hn (by with_reducible assumption)).mono ?_; rintro e w1 ⟨rfl, hb1⟩)
    go_meet
    exact ⟨rfl, hE.on hb1⟩
  case rest =>
  obtain ⟨rfl, hG⟩ := hcut
  have hbox := hG.box
  have hbig := hG.big
  have hx0 := hG.x0
  have hx1 := hG.x1
  have hx2 := hG.x2
  have hx3 := hG.x3
  have hx4 := hG.x4
  have hres := hG.res
  have hnfr := hG.nfr
  go_upto_region 3 with fail
  go_cut [6, 7] (fun s t wc => s = .int .i64 (k : Int) ∧ t = .bool true ∧ PB w wc (some ⟨b, o, none⟩) n c X)
  case first =>
    go_wp2_with (go_at_call 38; refine (itemPlace_q _ _ _ U _ k _ _ (h.below hG.bel) hn hk (by with_reducible assumption)).mono ?_; rintro e w1 ⟨rfl, hb1⟩)
    go_meet
    exact ⟨rfl, rfl, hG.on hb1⟩
  case rest =>
  clear hG hbox hbig hx0 hx1 hx2 hx3 hx4 hres hnfr
  obtain ⟨rfl, rfl, hG⟩ := hcut
  have hbox := hG.box
  have hbig := hG.big
  have hx0 := hG.x0
  have hx1 := hG.x1
  have hx2 := hG.x2
  have hx3 := hG.x3
  have hx4 := hG.x4
  have hres := hG.res
  have hnfr := hG.nfr
  go_upto_region 4 with fail
  go_cut [33] (fun s wc => s = .bool false ∧ PB w wc (some ⟨b, o, none⟩) n c X)
  case first =>
    go_wp2_with (go_at_call 39; refine (itemOk_q X _ _ (by exact hi)).mono ?_; rintro e w2 ⟨rfl, hb2⟩; have hG2 := hG.on hb2; have hbox2 := hG2.box)
    go_meet
    exact ⟨rfl, hG2⟩
  case rest =>
  clear hG hbox hbig hx0 hx1 hx2 hx3 hx4 hres hnfr
  obtain ⟨rfl, hG⟩ := hcut
  have hbox := hG.box
  have hbig := hG.big
  have hx0 := hG.x0
  have hx1 := hG.x1
  have hx2 := hG.x2
  have hx3 := hG.x3
  have hx4 := hG.x4
  have hres := hG.res
  have hnfr := hG.nfr
  have hkc : (k : Int) ≤ (c : Int) := by omega
  have hdn : (k : Int) + 1 ≤ (n : Int) := by omega
  obtain ⟨at2, hat2⟩ : ∃ x, (if c = k + 1 then some (⟨b, o, none⟩ : Addr) else some ⟨b, o + (k + 1) * 5, none⟩) = x := ⟨_, rfl⟩
  have hF1 : ∀ wz, Flat wz (some ⟨b, o, none⟩) (n * 5) U → Flat wz (some ⟨b, o, none⟩) (k * 5) U := fun wz q h0 => by
    obtain ⟨b', o', e, l, cc⟩ := q (by omega)
    exact ⟨b', o', e, l, fun q hq => cc q (by omega)⟩
  have hF2 : ∀ wz, Flat wz (some ⟨b, o, none⟩) (n * 5) U → Flat wz at2 ((n - (k + 1)) * 5) (fun q => U (q + (k + 1) * 5)) := fun wz q h0 => by
    obtain ⟨b', o', e, l, cc⟩ := q (by omega)
    simp only [Option.some.injEq, Addr.mk.injEq, and_true] at e
    obtain ⟨rfl, rfl⟩ := e
    refine ⟨b, o + (k + 1) * 5, by rw [← hat2, if_neg (by omega)], l, fun q hq => ?_⟩
    rw [show o + (k + 1) * 5 + q = o + (q + (k + 1) * 5) by omega]
    exact cc _ (by omega)
  have hw1 : IntKind.i64.wrap ((k : Int) + 1) = (k : Int) + 1 := i64w (by omega)
  have ht1 : ((k : Int) + 1).toNat = k + 1 := by omega
  have hk1 : (0 : Int) ≤ (k : Int) + 1 := by omega
  go_upto_region 9 with fail
  refine wp_region_held_drew (S := fun w' => w'.cell? ⟨w.heap.size, 0, none⟩ = some (.slice (some ⟨b, o, none⟩) n c) ∧ w'.cell? ⟨w.heap.size + 1, 0, none⟩ = some (.int .i64 (X 0)) ∧ w'.cell? ⟨w.heap.size + 1, 1, none⟩ = some (.int .i64 (X 1)) ∧ w'.cell? ⟨w.heap.size + 1, 2, none⟩ = some (.int .i64 (X 2)) ∧ w'.cell? ⟨w.heap.size + 1, 3, none⟩ = some (.int .i64 (X 3)) ∧ w'.cell? ⟨w.heap.size + 1, 4, none⟩ = some (.int .i64 (X 4))) (by kernel_rfl) ?_ (fun hHeld => ?_)
  · (try dsimp only)
    (first | (go_simp; done) | (go_keep; done))
  refine tq 0 hHeld ?_
  refine tq 1 hHeld ?_
  refine tq 2 hHeld ?_
  refine tq 3 hHeld ?_
  refine tq 4 hHeld ?_
  refine tq 6 hHeld ?_
  refine tq 7 hHeld ?_
  refine tq 8 hHeld ?_
  refine tq 9 hHeld ?_
  have hE1 : Below wc.heap.size wc (wc.drew.alloc (.cells #[.int .i64 (X 0), .int .i64 (X 1), .int .i64 (X 2), .int .i64 (X 3), .int .i64 (X 4)] 31)) := (Below.refl _ _).drew.alloc (by simp) _
  have hE2 : Below wc.heap.size wc ((wc.drew.alloc (.cells #[.int .i64 (X 0), .int .i64 (X 1), .int .i64 (X 2), .int .i64 (X 3), .int .i64 (X 4)] 31)).alloc (.cells #[.slice (some ⟨b, o, none⟩) k c, .slice (some ⟨wc.heap.size, 0, none⟩) 1 1, .slice at2 (n - (k + 1)) (c - (k + 1))] 23)) := hE1.alloc (by simp) _
  have hG2 := hG.on hE2
  have e0 : ((wc.drew.alloc (.cells #[.int .i64 (X 0), .int .i64 (X 1), .int .i64 (X 2), .int .i64 (X 3), .int .i64 (X 4)] 31)).alloc (.cells #[.slice (some ⟨b, o, none⟩) k c, .slice (some ⟨wc.heap.size, 0, none⟩) 1 1, .slice at2 (n - (k + 1)) (c - (k + 1))] 23)).cell? ⟨wc.heap.size + 1, 0, none⟩ = some (.slice (some ⟨b, o, none⟩) k c) := by go_simp
  have e1 : ((wc.drew.alloc (.cells #[.int .i64 (X 0), .int .i64 (X 1), .int .i64 (X 2), .int .i64 (X 3), .int .i64 (X 4)] 31)).alloc (.cells #[.slice (some ⟨b, o, none⟩) k c, .slice (some ⟨wc.heap.size, 0, none⟩) 1 1, .slice at2 (n - (k + 1)) (c - (k + 1))] 23)).cell? ⟨wc.heap.size + 1, 1, none⟩ = some (.slice (some ⟨wc.heap.size, 0, none⟩) 1 1) := by go_simp
  have e2 : ((wc.drew.alloc (.cells #[.int .i64 (X 0), .int .i64 (X 1), .int .i64 (X 2), .int .i64 (X 3), .int .i64 (X 4)] 31)).alloc (.cells #[.slice (some ⟨b, o, none⟩) k c, .slice (some ⟨wc.heap.size, 0, none⟩) 1 1, .slice at2 (n - (k + 1)) (c - (k + 1))] 23)).cell? ⟨wc.heap.size + 1, 2, none⟩ = some (.slice at2 (n - (k + 1)) (c - (k + 1))) := by go_simp
  have ez : ((wc.drew.alloc (.cells #[.int .i64 (X 0), .int .i64 (X 1), .int .i64 (X 2), .int .i64 (X 3), .int .i64 (X 4)] 31)).alloc (.cells #[.slice (some ⟨b, o, none⟩) k c, .slice (some ⟨wc.heap.size, 0, none⟩) 1 1, .slice at2 (n - (k + 1)) (c - (k + 1))] 23)).heap.size = wc.heap.size + 1 + 1 := by simp
  have hFx : Flat ((wc.drew.alloc (.cells #[.int .i64 (X 0), .int .i64 (X 1), .int .i64 (X 2), .int .i64 (X 3), .int .i64 (X 4)] 31)).alloc (.cells #[.slice (some ⟨b, o, none⟩) k c, .slice (some ⟨wc.heap.size, 0, none⟩) 1 1, .slice at2 (n - (k + 1)) (c - (k + 1))] 23)) (some ⟨wc.heap.size, 0, none⟩) (1 * 5) X := fun _ => ⟨_, 0, rfl, by simp; omega, fun q hq => by
    rcases (show q = 0 ∨ q = 1 ∨ q = 2 ∨ q = 3 ∨ q = 4 by omega) with rfl | rfl | rfl | rfl | rfl <;> go_simp⟩
  (refine tc 5 fun K hK => ?_; go_simp; refine tr hK (fun hHeld => ?_); clear hK K)
  (refine tc 10 fun K hK => ?_; go_simp; refine tr hK (fun hHeld => ?_); clear hK K)
  (refine tc 11 fun K hK => ?_; go_simp; (go_at_call 41; refine (concat3 _ _ _ _ _ _ _ _ _ _ _ U X (fun q => U (q + (k + 1) * 5)) _ (by simp) e0 e1 e2 (hF1 _ (h.below hG2.bel)) hFx (hF2 _ (h.below hG2.bel)) (by omega)).mono ?_; rintro e w1 ⟨a1, c1, rfl, ho1, hb1⟩; have hG1 := hG2.on hb1; have hres1 := hG1.res; have hnfr1 := hG1.nfr; have hbig1 := hG1.big; have hbox1 := hG1.box; have hy0 := hG1.x0; have hy1 := hG1.x1; have hy2 := hG1.x2; have hy3 := hG1.x3; have hy4 := hG1.x4); (try go_wp2_with fail); refine tr hK (fun hHeld => ?_); clear hK K)
  have hlen : k + 1 + (n - (k + 1)) = n := by omega
  rw [hlen] at ho1
  (try simp only [hlen])
  refine tq 12 hHeld ?_
  (refine tc 13 fun K hK => ?_; go_simp; refine tr hK (fun hHeld => ?_); clear hK K)
  refine tq 14 hHeld ?_
  refine wpAnyH_done (by kernel_rfl) ?_ _
  go_wp2_with fail
  refine bodyPost_ret (v := .tuple #[.agg #[.slice a1 n c1], .bool true]) (by simp [results, Try.results10, go_sem, *]) rfl ⟨a1, c1, rfl, ?_⟩
  have hO : Out w w1 a1 n c1 (insU k U X (k + 1)) := ⟨ho1.base (by rw [ez]; have := hG.bel.size; omega), hG1.bel⟩
  exact hO.set (p := ⟨w.heap.size + 1 + 1, 0, none⟩) _ (by simp; omega) (fun e => by have := (ho1.lt _ e).1; rw [ez] at this; simp at this; omega)
set_option maxRecDepth 20000 in
set_option maxHeartbeats 4000000 in
theorem put_n (a : Option Addr) (n c : Nat) (U X : Nat → Int) (k : Nat) (w : World) (h : Flat w a (n * 5) U) (hc : n ≤ c) (hn : n ≤ 1048576) (hk : IsAt n U (X 0) k) (ha : ∃ b o, a = some ⟨b, o, none⟩) (hb : broadB n U = true) (hi : itemB X = true) (ht : thereB n U (X 0) k = false) (h24 : n < 24) :
    Calls Try.prog 10 #[.agg #[.slice a n c], itemW X] w fun e w' => ∃ a' c', e = .returned (.tuple #[.agg #[.slice a' (n + 1) c'], .bool true]) ∧ Out w w' a' (n + 1) c' (insU k U X k) := by
  have hset := cset_map
  obtain ⟨b, o, rfl⟩ := ha
  have hkn := hk.le
  have h24' : ((n : Int) == 24) = false := by rw [beq_eq_false_iff_ne]; omega
  go_enter Try.func10, Try.ntmps10
  go_upto_region 1 with fail
  go_cut [11] (fun s wc => s = .bool false ∧ PB w wc (some ⟨b, o, none⟩) n c X)
  case first =>
    have hE : PB w (((w.alloc (.cells #[.slice (some ⟨b, o, none⟩) n c] 25)).alloc (.cells #[.int .i64 (X 0), .int .i64 (X 1), .int .i64 (X 2), .int .i64 (X 3), .int .i64 (X 4)] 31)).alloc (.cells #[.slice none 0 0] 25)) (some ⟨b, o, none⟩) n c X := ⟨(((Below.refl _ _).alloc (Nat.le_refl _) _).alloc (by simp) _).alloc (by simp only [World.size_alloc]; omega) _, by simp, by go_simp, by go_simp, by go_simp, by go_simp, by go_simp, by go_simp, by go_simp, by go_simp⟩
    go_wp2_with (go_at_call 13; refine (broadOk_q _ _ _ U _ _ (h.below hE.bel) hn (by with_reducible assumption)).mono ?_; rintro e w1 ⟨rfl, hb1⟩)
    go_meet
    exact ⟨rfl, hE.on hb1⟩
  case rest =>
  obtain ⟨rfl, hG⟩ := hcut
  have hbox := hG.box
  have hbig := hG.big
  have hx0 := hG.x0
  have hx1 := hG.x1
  have hx2 := hG.x2
  have hx3 := hG.x3
  have hx4 := hG.x4
  have hres := hG.res
  have hnfr := hG.nfr
  go_upto_region 3 with fail
  go_cut [6, 7] (fun s t wc => s = .int .i64 (k : Int) ∧ t = .bool false ∧ PB w wc (some ⟨b, o, none⟩) n c X)
  case first =>
    go_wp2_with (go_at_call 38; refine (itemPlace_q _ _ _ U _ k _ _ (h.below hG.bel) hn hk (by with_reducible assumption)).mono ?_; rintro e w1 ⟨rfl, hb1⟩)
    go_meet
    exact ⟨rfl, rfl, hG.on hb1⟩
  case rest =>
  clear hG hbox hbig hx0 hx1 hx2 hx3 hx4 hres hnfr
  obtain ⟨rfl, rfl, hG⟩ := hcut
  have hbox := hG.box
  have hbig := hG.big
  have hx0 := hG.x0
  have hx1 := hG.x1
  have hx2 := hG.x2
  have hx3 := hG.x3
  have hx4 := hG.x4
  have hres := hG.res
  have hnfr := hG.nfr
  go_upto_region 4 with fail
  go_cut [33] (fun s wc => s = .bool false ∧ PB w wc (some ⟨b, o, none⟩) n c X)
  case first =>
    go_wp2_with (go_at_call 39; refine (itemOk_q X _ _ (by exact hi)).mono ?_; rintro e w2 ⟨rfl, hb2⟩; have hG2 := hG.on hb2; have hbox2 := hG2.box)
    go_meet
    exact ⟨rfl, hG2⟩
  case rest =>
  clear hG hbox hbig hx0 hx1 hx2 hx3 hx4 hres hnfr
  obtain ⟨rfl, hG⟩ := hcut
  have hbox := hG.box
  have hbig := hG.big
  have hx0 := hG.x0
  have hx1 := hG.x1
  have hx2 := hG.x2
  have hx3 := hG.x3
  have hx4 := hG.x4
  have hres := hG.res
  have hnfr := hG.nfr
  have hkc : (k : Int) ≤ (c : Int) := by omega
  have hdn : (k : Int) ≤ (n : Int) := by omega
  obtain ⟨at2, hat2⟩ : ∃ x, (if c = k then some (⟨b, o, none⟩ : Addr) else some ⟨b, o + k * 5, none⟩) = x := ⟨_, rfl⟩
  have hF1 : ∀ wz, Flat wz (some ⟨b, o, none⟩) (n * 5) U → Flat wz (some ⟨b, o, none⟩) (k * 5) U := fun wz q h0 => by
    obtain ⟨b', o', e, l, cc⟩ := q (by omega)
    exact ⟨b', o', e, l, fun q hq => cc q (by omega)⟩
  have hF2 : ∀ wz, Flat wz (some ⟨b, o, none⟩) (n * 5) U → Flat wz at2 ((n - k) * 5) (fun q => U (q + k * 5)) := fun wz q h0 => by
    obtain ⟨b', o', e, l, cc⟩ := q (by omega)
    simp only [Option.some.injEq, Addr.mk.injEq, and_true] at e
    obtain ⟨rfl, rfl⟩ := e
    refine ⟨b, o + k * 5, by rw [← hat2, if_neg (by omega)], l, fun q hq => ?_⟩
    rw [show o + k * 5 + q = o + (q + k * 5) by omega]
    exact cc _ (by omega)
  have hk1 : (0 : Int) ≤ (k : Int) := by omega
  go_upto_region 9 with fail
  refine wp_region_held_drew (S := fun w' => w'.cell? ⟨w.heap.size, 0, none⟩ = some (.slice (some ⟨b, o, none⟩) n c) ∧ w'.cell? ⟨w.heap.size + 1, 0, none⟩ = some (.int .i64 (X 0)) ∧ w'.cell? ⟨w.heap.size + 1, 1, none⟩ = some (.int .i64 (X 1)) ∧ w'.cell? ⟨w.heap.size + 1, 2, none⟩ = some (.int .i64 (X 2)) ∧ w'.cell? ⟨w.heap.size + 1, 3, none⟩ = some (.int .i64 (X 3)) ∧ w'.cell? ⟨w.heap.size + 1, 4, none⟩ = some (.int .i64 (X 4))) (by kernel_rfl) ?_ (fun hHeld => ?_)
  · (try dsimp only)
    (first | (go_simp; done) | (go_keep; done))
  refine tq 0 hHeld ?_
  refine tq 1 hHeld ?_
  refine tq 2 hHeld ?_
  refine tq 3 hHeld ?_
  refine tq 4 hHeld ?_
  refine tq 6 hHeld ?_
  refine tq 7 hHeld ?_
  refine tq 8 hHeld ?_
  refine tq 9 hHeld ?_
  have hE1 : Below wc.heap.size wc (wc.drew.alloc (.cells #[.int .i64 (X 0), .int .i64 (X 1), .int .i64 (X 2), .int .i64 (X 3), .int .i64 (X 4)] 31)) := (Below.refl _ _).drew.alloc (by simp) _
  have hE2 : Below wc.heap.size wc ((wc.drew.alloc (.cells #[.int .i64 (X 0), .int .i64 (X 1), .int .i64 (X 2), .int .i64 (X 3), .int .i64 (X 4)] 31)).alloc (.cells #[.slice (some ⟨b, o, none⟩) k c, .slice (some ⟨wc.heap.size, 0, none⟩) 1 1, .slice at2 (n - k) (c - k)] 23)) := hE1.alloc (by simp) _
  have hG2 := hG.on hE2
  have e0 : ((wc.drew.alloc (.cells #[.int .i64 (X 0), .int .i64 (X 1), .int .i64 (X 2), .int .i64 (X 3), .int .i64 (X 4)] 31)).alloc (.cells #[.slice (some ⟨b, o, none⟩) k c, .slice (some ⟨wc.heap.size, 0, none⟩) 1 1, .slice at2 (n - k) (c - k)] 23)).cell? ⟨wc.heap.size + 1, 0, none⟩ = some (.slice (some ⟨b, o, none⟩) k c) := by go_simp
  have e1 : ((wc.drew.alloc (.cells #[.int .i64 (X 0), .int .i64 (X 1), .int .i64 (X 2), .int .i64 (X 3), .int .i64 (X 4)] 31)).alloc (.cells #[.slice (some ⟨b, o, none⟩) k c, .slice (some ⟨wc.heap.size, 0, none⟩) 1 1, .slice at2 (n - k) (c - k)] 23)).cell? ⟨wc.heap.size + 1, 1, none⟩ = some (.slice (some ⟨wc.heap.size, 0, none⟩) 1 1) := by go_simp
  have e2 : ((wc.drew.alloc (.cells #[.int .i64 (X 0), .int .i64 (X 1), .int .i64 (X 2), .int .i64 (X 3), .int .i64 (X 4)] 31)).alloc (.cells #[.slice (some ⟨b, o, none⟩) k c, .slice (some ⟨wc.heap.size, 0, none⟩) 1 1, .slice at2 (n - k) (c - k)] 23)).cell? ⟨wc.heap.size + 1, 2, none⟩ = some (.slice at2 (n - k) (c - k)) := by go_simp
  have ez : ((wc.drew.alloc (.cells #[.int .i64 (X 0), .int .i64 (X 1), .int .i64 (X 2), .int .i64 (X 3), .int .i64 (X 4)] 31)).alloc (.cells #[.slice (some ⟨b, o, none⟩) k c, .slice (some ⟨wc.heap.size, 0, none⟩) 1 1, .slice at2 (n - k) (c - k)] 23)).heap.size = wc.heap.size + 1 + 1 := by simp
  have hFx : Flat ((wc.drew.alloc (.cells #[.int .i64 (X 0), .int .i64 (X 1), .int .i64 (X 2), .int .i64 (X 3), .int .i64 (X 4)] 31)).alloc (.cells #[.slice (some ⟨b, o, none⟩) k c, .slice (some ⟨wc.heap.size, 0, none⟩) 1 1, .slice at2 (n - k) (c - k)] 23)) (some ⟨wc.heap.size, 0, none⟩) (1 * 5) X := fun _ => ⟨_, 0, rfl, by simp; omega, fun q hq => by
    rcases (show q = 0 ∨ q = 1 ∨ q = 2 ∨ q = 3 ∨ q = 4 by omega) with rfl | rfl | rfl | rfl | rfl <;> go_simp⟩
  (refine tc 5 fun K hK => ?_; go_simp; refine tr hK (fun hHeld => ?_); clear hK K)
  (refine tc 10 fun K hK => ?_; go_simp; refine tr hK (fun hHeld => ?_); clear hK K)
  (refine tc 11 fun K hK => ?_; go_simp; (go_at_call 41; refine (concat3 _ _ _ _ _ _ _ _ _ _ _ U X (fun q => U (q + k * 5)) _ (by simp) e0 e1 e2 (hF1 _ (h.below hG2.bel)) hFx (hF2 _ (h.below hG2.bel)) (by omega)).mono ?_; rintro e w1 ⟨a1, c1, rfl, ho1, hb1⟩; have hG1 := hG2.on hb1; have hres1 := hG1.res; have hnfr1 := hG1.nfr; have hbig1 := hG1.big; have hbox1 := hG1.box; have hy0 := hG1.x0; have hy1 := hG1.x1; have hy2 := hG1.x2; have hy3 := hG1.x3; have hy4 := hG1.x4); (try go_wp2_with fail); refine tr hK (fun hHeld => ?_); clear hK K)
  have hlen : k + 1 + (n - k) = (n + 1) := by omega
  rw [hlen] at ho1
  (try simp only [hlen])
  refine tq 12 hHeld ?_
  (refine tc 13 fun K hK => ?_; go_simp; refine tr hK (fun hHeld => ?_); clear hK K)
  refine tq 14 hHeld ?_
  refine wpAnyH_done (by kernel_rfl) ?_ _
  go_wp2_with fail
  refine bodyPost_ret (v := .tuple #[.agg #[.slice a1 (n + 1) c1], .bool true]) (by simp [results, Try.results10, go_sem, *]) rfl ⟨a1, c1, rfl, ?_⟩
  have hO : Out w w1 a1 (n + 1) c1 (insU k U X k) := ⟨ho1.base (by rw [ez]; have := hG.bel.size; omega), hG1.bel⟩
  exact hO.set (p := ⟨w.heap.size + 1 + 1, 0, none⟩) _ (by simp; omega) (fun e => by have := (ho1.lt _ e).1; rw [ez] at this; simp at this; omega)
end Go.Proofs.Ytbngdlbecdloiaa
