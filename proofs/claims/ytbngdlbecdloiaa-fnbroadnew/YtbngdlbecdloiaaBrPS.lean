/- A box put: the specification's side. -/
import Derived.Test.YtbngdlbecdloiaaB16
set_option maxHeartbeats 16000000
set_option maxRecDepth 20000
namespace Go.Proofs.Ytbngdlbecdloiaa
open Go.RowKit
set_option linter.unusedVariables false
set_option linter.unusedSimpArgs false
set_option maxRecDepth 20000 in
set_option maxHeartbeats 4000000 in
theorem sPut_r (a : Option Addr) (n c : Nat) (U X : Nat → Int) (k : Nat) (w : World) (h : Flat w a (n * 5) U) (hc : n ≤ c) (hn : n ≤ 1048576) (hk : IsAt n U (X 0) k) (hb : broadB n U = false) :
    Calls Try.prog 11 #[.agg #[.slice a n c], itemW X] w fun e w' => ∃ a' c', e = .returned (.tuple #[.agg #[.slice a' 0 c'], .bool false]) ∧ ∀ R, Out w w' a' 0 c' R := by
  have hset := cset_map
  go_enter Try.func11, Try.ntmps11
  go_upto_region 1 with fail
  go_cut [11] (fun s wc => s = .bool true ∧ PB w wc a n c X)
  case first =>
    have hE : PB w (((w.alloc (.cells #[.slice a n c] 25)).alloc (.cells #[.int .i64 (X 0), .int .i64 (X 1), .int .i64 (X 2), .int .i64 (X 3), .int .i64 (X 4)] 31)).alloc (.cells #[.slice none 0 0] 25)) a n c X := ⟨(((Below.refl _ _).alloc (Nat.le_refl _) _).alloc (by simp) _).alloc (by simp only [World.size_alloc]; omega) _, by simp, by go_simp, by go_simp, by go_simp, by go_simp, by go_simp, by go_simp, by go_simp, by go_simp⟩
    go_wp2_with (go_at_call 14; refine (sBroadOk_q _ _ _ U _ _ (h.below hE.bel) hn (by with_reducible assumption)).mono ?_; rintro e w1 ⟨rfl, hb1⟩)
    go_meet
    exact ⟨rfl, hE.on hb1⟩
  case rest =>
  obtain ⟨rfl, hG⟩ := hcut
  have hbox := hG.box
  have hbig := hG.big
  have hx0 := hG.x0
  have hx1 := hG.x1
  have hx2 := hG.x2
  have hx3 := hG.x3
  have hx4 := hG.x4
  have hres := hG.res
  have hnfr := hG.nfr
  go_wp2_with fail
  refine bodyPost_ret (v := .tuple #[.agg #[.slice none 0 0], .bool false]) (by simp [results, Try.results11, go_sem, *]) rfl ⟨none, 0, rfl, fun R => ?_⟩
  exact ⟨OwnL.nil _ _ _ _ _, hG.bel.setCell (by simp; omega) _⟩
set_option maxRecDepth 20000 in
set_option maxHeartbeats 4000000 in
theorem sPut_i (a : Option Addr) (n c : Nat) (U X : Nat → Int) (k : Nat) (w : World) (h : Flat w a (n * 5) U) (hc : n ≤ c) (hn : n ≤ 1048576) (hk : IsAt n U (X 0) k) (hb : broadB n U = true) (hi : itemB X = false) :
    Calls Try.prog 11 #[.agg #[.slice a n c], itemW X] w fun e w' => ∃ a' c', e = .returned (.tuple #[.agg #[.slice a' n c'], .bool false]) ∧ Out w w' a' n c' U := by
  have hset := cset_map
  go_enter Try.func11, Try.ntmps11
  go_upto_region 1 with fail
  go_cut [11] (fun s wc => s = .bool false ∧ PB w wc a n c X)
  case first =>
    have hE : PB w (((w.alloc (.cells #[.slice a n c] 25)).alloc (.cells #[.int .i64 (X 0), .int .i64 (X 1), .int .i64 (X 2), .int .i64 (X 3), .int .i64 (X 4)] 31)).alloc (.cells #[.slice none 0 0] 25)) a n c X := ⟨(((Below.refl _ _).alloc (Nat.le_refl _) _).alloc (by simp) _).alloc (by simp only [World.size_alloc]; omega) _, by simp, by go_simp, by go_simp, by go_simp, by go_simp, by go_simp, by go_simp, by go_simp, by go_simp⟩
    go_wp2_with (go_at_call 14; refine (sBroadOk_q _ _ _ U _ _ (h.below hE.bel) hn (by with_reducible assumption)).mono ?_; rintro e w1 ⟨rfl, hb1⟩)
    go_meet
    exact ⟨rfl, hE.on hb1⟩
  case rest =>
  obtain ⟨rfl, hG⟩ := hcut
  have hbox := hG.box
  have hbig := hG.big
  have hx0 := hG.x0
  have hx1 := hG.x1
  have hx2 := hG.x2
  have hx3 := hG.x3
  have hx4 := hG.x4
  have hres := hG.res
  have hnfr := hG.nfr
  go_upto_region 3 with fail
  go_cut [22] (fun s wc => s = .bool true ∧ PB w wc a n c X)
  case first =>
    cases hi1 : decide (0 ≤ X 0 ∧ X 0 ≤ 1000000000) with
    | false =>
      go_wp2_with (go_at_call 42; refine (l1In_q _ _ _ _ _ (by with_reducible assumption)).mono ?_; rintro e w1 ⟨rfl, rfl⟩)
      go_meet
      exact ⟨rfl, hG⟩
    | true =>
      have hi2 : bokB (X 1) (X 2) (X 3) (X 4) = false := by unfold itemB at hi; rw [hi1, Bool.true_and] at hi; exact hi
      go_wp2_with (first
        | (go_at_call 42; refine (l1In_q _ _ _ _ _ (by with_reducible assumption)).mono ?_; rintro e w1 ⟨rfl, rfl⟩)
        | (go_at_call 28; refine (sBox_q _ _ _ _ _ _ (by with_reducible assumption)).mono ?_; rintro e w2 ⟨rfl, hb2⟩))
      go_meet
      exact ⟨rfl, hG.on hb2⟩
  case rest =>
  clear hG hbox hbig hx0 hx1 hx2 hx3 hx4 hres hnfr
  obtain ⟨rfl, hG⟩ := hcut
  have hbox := hG.box
  have hbig := hG.big
  have hx0 := hG.x0
  have hx1 := hG.x1
  have hx2 := hG.x2
  have hx3 := hG.x3
  have hx4 := hG.x4
  have hres := hG.res
  have hnfr := hG.nfr
  go_wp2_with (go_at_call 43; refine (l4Copy_any _ _ _ U _ (h.below hG.bel) hn).mono ?_; rintro e w1 ⟨a1, c1, rfl, hO1⟩; have hG1 := hG.on hO1.bel; have hres1 := hG1.res; have hnfr1 := hG1.nfr; have hbig1 := hG1.big)
  refine bodyPost_ret (v := .tuple #[.agg #[.slice a1 n c1], .bool false]) (by simp [results, Try.results11, go_sem, *]) rfl ⟨a1, c1, rfl, ?_⟩
  have hlt := hO1.own.lt
  have hsz := hG.bel.size
  have hO : Out w w1 a1 n c1 U := ⟨hO1.own.base hsz, hG1.bel⟩
  exact hO.set (p := ⟨w.heap.size + 1 + 1, 0, none⟩) _ (by simp; omega) (fun e => by have := (hlt _ e).1; simp at this; omega)
set_option maxRecDepth 20000 in
set_option maxHeartbeats 4000000 in
theorem sPut_t (a : Option Addr) (n c : Nat) (U X : Nat → Int) (k : Nat) (w : World) (h : Flat w a (n * 5) U) (hc : n ≤ c) (hn : n ≤ 1048576) (hk : IsAt n U (X 0) k) (hb : broadB n U = true) (hi : itemB X = true) (ht : thereB n U (X 0) k = true) :
    Calls Try.prog 11 #[.agg #[.slice a n c], itemW X] w fun e w' => ∃ a' c', e = .returned (.tuple #[.agg #[.slice a' n c'], .bool true]) ∧ Out w w' a' n c' (insU k U X (k + 1)) := by
  have hset := cset_map
  have hkn : k < n := by unfold thereB at ht; simp only [decide_eq_true_eq] at ht; exact ht.1
  go_enter Try.func11, Try.ntmps11
  go_upto_region 1 with fail
  go_cut [11] (fun s wc => s = .bool false ∧ PB w wc a n c X)
  case first =>
    have hE : PB w (((w.alloc (.cells #[.slice a n c] 25)).alloc (.cells #[.int .i64 (X 0), .int .i64 (X 1), .int .i64 (X 2), .int .i64 (X 3), .int .i64 (X 4)] 31)).alloc (.cells #[.slice none 0 0] 25)) a n c X := ⟨(((Below.refl _ _).alloc (Nat.le_refl _) _).alloc (by simp) _).alloc (by simp only [World.size_alloc]; omega) _, by simp, by go_simp, by go_simp, by go_simp, by go_simp, by go_simp, by go_simp, by go_simp, by go_simp⟩
    go_wp2_with (go_at_call 14; refine (sBroadOk_q _ _ _ U _ _ (h.below hE.bel) hn (by with_reducible assumption)).mono ?_; rintro e w1 ⟨rfl, hb1⟩)
    go_meet
    exact ⟨rfl, hE.on hb1⟩
  case rest =>
  obtain ⟨rfl, hG⟩ := hcut
  have hbox := hG.box
  have hbig := hG.big
  have hx0 := hG.x0
  have hx1 := hG.x1
  have hx2 := hG.x2
  have hx3 := hG.x3
  have hx4 := hG.x4
  have hres := hG.res
  have hnfr := hG.nfr
  have hi1 : decide (0 ≤ X 0 ∧ X 0 ≤ 1000000000) = true := by unfold itemB at hi; simp only [Bool.and_eq_true] at hi; exact hi.1
  have hi2 : bokB (X 1) (X 2) (X 3) (X 4) = true := by unfold itemB at hi; simp only [Bool.and_eq_true] at hi; exact hi.2
  go_upto_region 3 with fail
  go_cut [22] (fun s wc => s = .bool false ∧ PB w wc a n c X)
  case first =>
    go_wp2_with (first
      | (go_at_call 42; refine (l1In_q _ _ _ _ _ (by with_reducible assumption)).mono ?_; rintro e w1 ⟨rfl, rfl⟩)
      | (go_at_call 28; refine (sBox_q _ _ _ _ _ _ (by with_reducible assumption)).mono ?_; rintro e w2 ⟨rfl, hb2⟩))
    go_meet
    exact ⟨rfl, hG.on hb2⟩
  case rest =>
  clear hG hbox hbig hx0 hx1 hx2 hx3 hx4 hres hnfr
  obtain ⟨rfl, hG⟩ := hcut
  have hbox := hG.box
  have hbig := hG.big
  have hx0 := hG.x0
  have hx1 := hG.x1
  have hx2 := hG.x2
  have hx3 := hG.x3
  have hx4 := hG.x4
  have hres := hG.res
  have hnfr := hG.nfr
  go_upto_region 5 with fail
  go_cut [6, 7] (fun s t wc => s = .int .i64 (k : Int) ∧ t = .bool true ∧ PB w wc a n c X)
  case first =>
    go_wp2_with (go_at_call 44; refine (l4At_q _ _ _ U _ k _ _ (h.below hG.bel) hn hk (by with_reducible assumption)).mono ?_; rintro e w1 ⟨rfl, hb1⟩)
    go_meet
    exact ⟨rfl, rfl, hG.on hb1⟩
  case rest =>
  clear hG hbox hbig hx0 hx1 hx2 hx3 hx4 hres hnfr
  obtain ⟨rfl, rfl, hG⟩ := hcut
  have hbox := hG.box
  have hbig := hG.big
  have hx0 := hG.x0
  have hx1 := hG.x1
  have hx2 := hG.x2
  have hx3 := hG.x3
  have hx4 := hG.x4
  have hres := hG.res
  have hnfr := hG.nfr
  go_upto_region 6 with fail
  go_cut [8] (fun s wc => ∃ bx a1 c1, s = .pointer (some ⟨bx, 0, none⟩) ∧ wc.cell? ⟨bx, 0, none⟩ = some (.slice a1 n c1) ∧ wc.frozen? ⟨bx, 0, none⟩ = false ∧ w.heap.size + 1 + 1 < bx ∧ bx < wc.heap.size ∧ PB w wc a n c X ∧ OwnL wc (w.heap.size + 1 + 1) 31 5 (.slice a1 n c1) n U ∧ (∀ b, (Value.slice a1 n c1).ownBlock = some b → w.heap.size + 1 + 1 < b ∧ b < bx))
  case first =>
    go_wp2_with (go_at_call 43; refine (l4Copy_any _ _ _ U _ (h.below hG.bel) hn).mono ?_; rintro e w1 ⟨a1, c1, rfl, hO1⟩; have hG1 := hG.on hO1.bel)
    go_meet
    have q1 := hG1.big
    have hsz := hG.big
    exact ⟨_, a1, c1, rfl, by go_simp, by go_simp, by omega, by simp, hG1.on ((Below.refl _ _).alloc (Nat.le_refl _) _), (hO1.own.base (by omega)).below ((Below.refl _ _).alloc (Nat.le_refl _) _), fun b e => by have := hO1.own.lt b e; omega⟩
  case rest =>
  clear hG hbox hbig hx0 hx1 hx2 hx3 hx4 hres hnfr
  obtain ⟨bx, a1, c1, rfl, hx, hxf, hbx1, hbx2, hG, ho, hown⟩ := hcut
  have hbox := hG.box
  have hbig := hG.big
  have hx0 := hG.x0
  have hx1 := hG.x1
  have hx2 := hG.x2
  have hx3 := hG.x3
  have hx4 := hG.x4
  have hres := hG.res
  have hnfr := hG.nfr
  obtain ⟨g, rfl, hgb, hgl⟩ := ho.at (by omega)
  have hg2 := hown g rfl
  have d0 := ho.cell (q := k * 5) (by omega)
  have d1 := ho.cell (q := k * 5 + 1) (by omega)
  have d2 := ho.cell (q := k * 5 + 2) (by omega)
  have d3 := ho.cell (q := k * 5 + 3) (by omega)
  have d4 := ho.cell (q := k * 5 + 4) (by omega)
  have f0 := ho.fro
  have hkn' : (k : Int) < (n : Int) := by omega
  have ho5 := ((((ho.set (k * 5) (by omega) (X 0)).set (k * 5 + 1) (by omega) (X 1)).set (k * 5 + 2) (by omega) (X 2)).set (k * 5 + 3) (by omega) (X 3)).set (k * 5 + 4) (by omega) (X 4)
  have hB5 : Below w.heap.size w (((((wc.setCell ⟨g, k * 5, none⟩ (.int .i64 (X 0))).setCell ⟨g, k * 5 + 1, none⟩ (.int .i64 (X 1))).setCell ⟨g, k * 5 + 2, none⟩ (.int .i64 (X 2))).setCell ⟨g, k * 5 + 3, none⟩ (.int .i64 (X 3))).setCell ⟨g, k * 5 + 4, none⟩ (.int .i64 (X 4))) := ((((hG.bel.setCell (by simp; omega) _).setCell (by simp; omega) _).setCell (by simp; omega) _).setCell (by simp; omega) _).setCell (by simp; omega) _
  have m1 : (g = bx) = False := eq_false (by omega)
  have m2 : (bx = g) = False := eq_false (by omega)
  have m3 : (g = w.heap.size + 1 + 1) = False := eq_false (by omega)
  have m4 : (w.heap.size + 1 + 1 = g) = False := eq_false (by omega)
  have m5 : (g = w.heap.size + 1) = False := eq_false (by omega)
  have m6 : (w.heap.size + 1 = g) = False := eq_false (by omega)
  go_wp2_with fail
  refine bodyPost_ret (v := .tuple #[.agg #[.slice (some ⟨g, 0, none⟩) n c1], .bool true]) (by simp [results, Try.results11, go_sem, *]) rfl ⟨_, c1, rfl, ?_⟩
  have hO : Out w (((((wc.setCell ⟨g, k * 5, none⟩ (.int .i64 (X 0))).setCell ⟨g, k * 5 + 1, none⟩ (.int .i64 (X 1))).setCell ⟨g, k * 5 + 2, none⟩ (.int .i64 (X 2))).setCell ⟨g, k * 5 + 3, none⟩ (.int .i64 (X 3))).setCell ⟨g, k * 5 + 4, none⟩ (.int .i64 (X 4))) (some ⟨g, 0, none⟩) n c1 (insU k U X (k + 1)) := ⟨(ho5.congr fun q _ => ins_set k U X q).base (by omega), hB5⟩
  exact hO.set (p := ⟨w.heap.size + 1 + 1, 0, none⟩) _ (by simp; omega) (fun e => by simp [Value.ownBlock] at e; omega)
set_option maxRecDepth 20000 in
set_option maxHeartbeats 4000000 in
theorem sPut_f (a : Option Addr) (n c : Nat) (U X : Nat → Int) (k : Nat) (w : World) (h : Flat w a (n * 5) U) (hc : n ≤ c) (hn : n ≤ 1048576) (hk : IsAt n U (X 0) k) (hb : broadB n U = true) (hi : itemB X = true) (ht : thereB n U (X 0) k = false) (h24 : n = 24) :
    Calls Try.prog 11 #[.agg #[.slice a n c], itemW X] w fun e w' => ∃ a' c', e = .returned (.tuple #[.agg #[.slice a' n c'], .bool false]) ∧ Out w w' a' n c' U := by
  have hset := cset_map
  have h24' : (24 : Int) ≤ (n : Int) := by omega
  clear h24
  go_enter Try.func11, Try.ntmps11
  go_upto_region 1 with fail
  go_cut [11] (fun s wc => s = .bool false ∧ PB w wc a n c X)
  case first =>
    have hE : PB w (((w.alloc (.cells #[.slice a n c] 25)).alloc (.cells #[.int .i64 (X 0), .int .i64 (X 1), .int .i64 (X 2), .int .i64 (X 3), .int .i64 (X 4)] 31)).alloc (.cells #[.slice none 0 0] 25)) a n c X := ⟨(((Below.refl _ _).alloc (Nat.le_refl _) _).alloc (by simp) _).alloc (by simp only [World.size_alloc]; omega) _, by simp, by go_simp, by go_simp, by go_simp, by go_simp, by go_simp, by go_simp, by go_simp, by go_simp⟩
    go_wp2_with (go_at_call 14; refine (sBroadOk_q _ _ _ U _ _ (h.below hE.bel) hn (by with_reducible assumption)).mono ?_; rintro e w1 ⟨rfl, hb1⟩)
    go_meet
    exact ⟨rfl, hE.on hb1⟩
  case rest =>
  obtain ⟨rfl, hG⟩ := hcut
  have hbox := hG.box
  have hbig := hG.big
  have hx0 := hG.x0
  have hx1 := hG.x1
  have hx2 := hG.x2
  have hx3 := hG.x3
  have hx4 := hG.x4
  have hres := hG.res
  have hnfr := hG.nfr
  have hi1 : decide (0 ≤ X 0 ∧ X 0 ≤ 1000000000) = true := by unfold itemB at hi; simp only [Bool.and_eq_true] at hi; exact hi.1
  have hi2 : bokB (X 1) (X 2) (X 3) (X 4) = true := by unfold itemB at hi; simp only [Bool.and_eq_true] at hi; exact hi.2
  go_upto_region 3 with fail
  go_cut [22] (fun s wc => s = .bool false ∧ PB w wc a n c X)
  case first =>
    go_wp2_with (first
      | (go_at_call 42; refine (l1In_q _ _ _ _ _ (by with_reducible assumption)).mono ?_; rintro e w1 ⟨rfl, rfl⟩)
      | (go_at_call 28; refine (sBox_q _ _ _ _ _ _ (by with_reducible assumption)).mono ?_; rintro e w2 ⟨rfl, hb2⟩))
    go_meet
    exact ⟨rfl, hG.on hb2⟩
  case rest =>
  clear hG hbox hbig hx0 hx1 hx2 hx3 hx4 hres hnfr
  obtain ⟨rfl, hG⟩ := hcut
  have hbox := hG.box
  have hbig := hG.big
  have hx0 := hG.x0
  have hx1 := hG.x1
  have hx2 := hG.x2
  have hx3 := hG.x3
  have hx4 := hG.x4
  have hres := hG.res
  have hnfr := hG.nfr
  go_upto_region 5 with fail
  go_cut [6, 7] (fun s t wc => s = .int .i64 (k : Int) ∧ t = .bool false ∧ PB w wc a n c X)
  case first =>
    go_wp2_with (go_at_call 44; refine (l4At_q _ _ _ U _ k _ _ (h.below hG.bel) hn hk (by with_reducible assumption)).mono ?_; rintro e w1 ⟨rfl, hb1⟩)
    go_meet
    exact ⟨rfl, rfl, hG.on hb1⟩
  case rest =>
  clear hG hbox hbig hx0 hx1 hx2 hx3 hx4 hres hnfr
  obtain ⟨rfl, rfl, hG⟩ := hcut
  have hbox := hG.box
  have hbig := hG.big
  have hx0 := hG.x0
  have hx1 := hG.x1
  have hx2 := hG.x2
  have hx3 := hG.x3
  have hx4 := hG.x4
  have hres := hG.res
  have hnfr := hG.nfr
  go_upto_region 6 with fail
  go_cut [8] (fun s wc => ∃ bx a1 c1, s = .pointer (some ⟨bx, 0, none⟩) ∧ wc.cell? ⟨bx, 0, none⟩ = some (.slice a1 n c1) ∧ wc.frozen? ⟨bx, 0, none⟩ = false ∧ w.heap.size + 1 + 1 < bx ∧ bx < wc.heap.size ∧ PB w wc a n c X ∧ OwnL wc (w.heap.size + 1 + 1) 31 5 (.slice a1 n c1) n U ∧ (∀ b, (Value.slice a1 n c1).ownBlock = some b → w.heap.size + 1 + 1 < b ∧ b < bx))
  case first =>
    go_wp2_with (go_at_call 43; refine (l4Copy_any _ _ _ U _ (h.below hG.bel) hn).mono ?_; rintro e w1 ⟨a1, c1, rfl, hO1⟩; have hG1 := hG.on hO1.bel)
    go_meet
    have q1 := hG1.big
    have hsz := hG.big
    exact ⟨_, a1, c1, rfl, by go_simp, by go_simp, by omega, by simp, hG1.on ((Below.refl _ _).alloc (Nat.le_refl _) _), (hO1.own.base (by omega)).below ((Below.refl _ _).alloc (Nat.le_refl _) _), fun b e => by have := hO1.own.lt b e; omega⟩
  case rest =>
  clear hG hbox hbig hx0 hx1 hx2 hx3 hx4 hres hnfr
  obtain ⟨bx, a1, c1, rfl, hx, hxf, hbx1, hbx2, hG, ho, hown⟩ := hcut
  have hbox := hG.box
  have hbig := hG.big
  have hx0 := hG.x0
  have hx1 := hG.x1
  have hx2 := hG.x2
  have hx3 := hG.x3
  have hx4 := hG.x4
  have hres := hG.res
  have hnfr := hG.nfr
  go_wp2_with fail
  refine bodyPost_ret (v := .tuple #[.agg #[.slice a1 n c1], .bool false]) (by simp [results, Try.results11, go_sem, *]) rfl ⟨_, c1, rfl, ?_⟩
  have hO : Out w wc a1 n c1 U := ⟨ho.base (by omega), hG.bel⟩
  exact hO.set (p := ⟨w.heap.size + 1 + 1, 0, none⟩) _ (by simp; omega) (fun e => by have := hown _ e; simp at this)
end Go.Proofs.Ytbngdlbecdloiaa
