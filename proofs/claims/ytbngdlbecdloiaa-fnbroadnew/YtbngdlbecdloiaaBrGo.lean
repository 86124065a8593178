/- A box taken away: the specification's side. -/
import Derived.Test.YtbngdlbecdloiaaBrAt
import Derived.Test.YtbngdlbecdloiaaB4
import Derived.Deep.RegionHeld3
import Derived.Deep.DeepCutAuto
set_option maxHeartbeats 16000000
set_option maxRecDepth 20000
namespace Go.Proofs.Ytbngdlbecdloiaa
open Go.RowKit
set_option linter.unusedVariables false
set_option linter.unusedSimpArgs false
theorem sBroadOk_q (a : Option Addr) (n c : Nat) (U : Nat → Int) (r : Bool) (w : World) (h : Flat w a (n * 5) U) (hn : n ≤ 1048576) (e : broadB n U = r) :
    Calls Try.prog 14 #[.agg #[.slice a n c]] w fun e w' => e = .returned (.bool r) ∧ Below w.heap.size w w' := by subst e; exact sBroadOk_any a n c U w h hn
theorem broadOk_q (a : Option Addr) (n c : Nat) (U : Nat → Int) (r : Bool) (w : World) (h : Flat w a (n * 5) U) (hn : n ≤ 1048576) (e : broadB n U = r) :
    Calls Try.prog 13 #[.agg #[.slice a n c]] w fun e w' => e = .returned (.bool r) ∧ Below w.heap.size w w' := by subst e; exact broadOk_any a n c U w h hn
theorem l4At_q (a : Option Addr) (n c : Nat) (U : Nat → Int) (id : Int) (k : Nat) (r : Bool) (w : World) (h : Flat w a (n * 5) U) (hn : n ≤ 1048576) (hk : IsAt n U id k) (e : thereB n U id k = r) :
    Calls Try.prog 44 #[.agg #[.slice a n c], .int .i64 id] w fun e w' => e = .returned (.tuple #[.int .i64 (k : Int), .bool r]) ∧ Below w.heap.size w w' := by subst e; exact l4At_any a n c U id k w h hn hk
theorem itemPlace_q (a : Option Addr) (n c : Nat) (U : Nat → Int) (id : Int) (k : Nat) (r : Bool) (w : World) (h : Flat w a (n * 5) U) (hn : n ≤ 1048576) (hk : IsAt n U id k) (e : thereB n U id k = r) :
    Calls Try.prog 38 #[.slice a n c, .int .i64 id] w fun e w' => e = .returned (.tuple #[.int .i64 (k : Int), .bool r]) ∧ Below w.heap.size w w' := by subst e; exact itemPlace_any a n c U id k w h hn hk
/-- what lies where inside: the box that came in, and the answer's -/
structure GB (w wr : World) (a : Option Addr) (n c : Nat) : Prop where
  bel : Below w.heap.size w wr
  big : w.heap.size + 1 < wr.heap.size
  box : wr.cell? ⟨w.heap.size, 0, none⟩ = some (.slice a n c)
  res : wr.cell? ⟨w.heap.size + 1, 0, none⟩ = some (.slice none 0 0)
  nfr : wr.frozen? ⟨w.heap.size + 1, 0, none⟩ = false
theorem GB.on {w wr w' : World} {a : Option Addr} {n c : Nat} (h : GB w wr a n c) (hb : Below wr.heap.size wr w') : GB w w' a n c :=
  ⟨h.bel.trans (hb.mono (by have := h.big; omega)), Nat.lt_of_lt_of_le h.big hb.size, (hb.cell (p := ⟨w.heap.size, 0, none⟩) (by have := h.big; simp; omega)).trans h.box, (hb.cell (p := ⟨w.heap.size + 1, 0, none⟩) h.big).trans h.res, (hb.frozen (p := ⟨w.heap.size + 1, 0, none⟩) h.big).trans h.nfr⟩
def GoIs (n : Nat) (U : Nat → Int) (id : Int) (k N : Nat) (R : Nat → Int) (B : Bool) : Prop :=
  (broadB n U = false ∧ N = 0 ∧ B = false) ∨ (broadB n U = true ∧ thereB n U id k = false ∧ N = n ∧ B = false ∧ R = U) ∨
  (broadB n U = true ∧ thereB n U id k = true ∧ N + 1 = n ∧ B = true ∧ R = cat (k * 5) U (fun q => U (q + (k + 1) * 5)))
set_option maxRecDepth 20000 in
set_option maxHeartbeats 4000000 in
theorem sGone_t (a : Option Addr) (n c : Nat) (U : Nat → Int) (id : Int) (k : Nat) (w : World) (h : Flat w a (n * 5) U) (hc : n ≤ c) (hn : n ≤ 1048576) (hk : IsAt n U id k) (hb : broadB n U = true) (ht : thereB n U id k = true) :
    Calls Try.prog 19 #[.agg #[.slice a n c], .int .i64 id] w fun e w' => ∃ a' c', e = .returned (.tuple #[.agg #[.slice a' (n - 1) c'], .bool true]) ∧ Out w w' a' (n - 1) c' (cat (k * 5) U (fun q => U (q + (k + 1) * 5))) := by
  have hset := cset_map
  have hkn : k < n := by unfold thereB at ht; simp only [decide_eq_true_eq] at ht; exact ht.1
  obtain ⟨b, o, rfl, hbl, _⟩ := h (by omega)
  go_enter Try.func19, Try.ntmps19
  go_upto_region 1 with fail
  go_cut [11] (fun s wc => s = .bool false ∧ GB w wc (some ⟨b, o, none⟩) n c)
  case first =>
    have hE : GB w ((w.alloc (.cells #[.slice (some ⟨b, o, none⟩) n c] 25)).alloc (.cells #[.slice none 0 0] 25)) (some ⟨b, o, none⟩) n c := ⟨((Below.refl _ _).alloc (Nat.le_refl _) _).alloc (by simp) _, by simp, by go_simp, by go_simp, by go_simp⟩
    go_wp2_with (go_at_call 14; refine (sBroadOk_q _ _ _ U _ _ (h.below hE.bel) hn (by with_reducible assumption)).mono ?_; rintro e w1 ⟨rfl, hb1⟩)
    go_meet
    exact ⟨rfl, hE.on hb1⟩
  case rest =>
  obtain ⟨rfl, hG⟩ := hcut
  have hbox := hG.box
  have hbig := hG.big
  go_upto_region 3 with fail
  go_cut [6, 7] (fun s t wc => s = .int .i64 (k : Int) ∧ t = .bool true ∧ GB w wc (some ⟨b, o, none⟩) n c)
  case first =>
    go_wp2_with (go_at_call 44; refine (l4At_q _ _ _ U _ k _ _ (h.below hG.bel) hn hk (by with_reducible assumption)).mono ?_; rintro e w1 ⟨rfl, hb1⟩)
    go_meet
    exact ⟨rfl, rfl, hG.on hb1⟩
  case rest =>
  clear hG hbox hbig
  obtain ⟨rfl, rfl, hG⟩ := hcut
  have hbox := hG.box
  have hbig := hG.big
  go_upto_region 4 with fail
  go_cut [8] (fun s wc => ∃ bx v, s = .pointer (some ⟨bx, 0, none⟩) ∧ wc.cell? ⟨bx, 0, none⟩ = some v ∧ wc.frozen? ⟨bx, 0, none⟩ = false ∧ w.heap.size + 1 < bx ∧ bx < wc.heap.size ∧ GB w wc (some ⟨b, o, none⟩) n c)
  case first =>
    go_wp2_with (go_at_call 43; refine (l4Copy_any _ _ _ U _ (h.below hG.bel) hn).mono ?_; rintro e w1 ⟨a1, c1, rfl, hO1⟩; have hG1 := hG.on hO1.bel)
    go_meet
    have := hG1.big
    exact ⟨_, .slice a1 n c1, rfl, by go_simp, by go_simp, by omega, by simp, hG1.on ((Below.refl _ _).alloc (Nat.le_refl _) _)⟩
  case rest =>
  clear hG hbox hbig
  obtain ⟨bx, v, rfl, hx, hxf, hx1, hx2, hG⟩ := hcut
  have hbox := hG.box
  have hbig := hG.big
  have hkc : (k : Int) ≤ (c : Int) := by omega
  have hkn1 : (k : Int) + 1 ≤ (n : Int) := by omega
  go_upto_region 7 with fail
  have hw1 : IntKind.i64.wrap ((k : Int) + 1) = (k : Int) + 1 := i64w (by omega)
  have ht1 : ((k : Int) + 1).toNat = k + 1 := by omega
  have hk1 : (0 : Int) ≤ (k : Int) + 1 := by omega
  obtain ⟨at2, hat2⟩ : ∃ x, (if c = k + 1 then some (⟨b, o, none⟩ : Addr) else some ⟨b, o + (k + 1) * 5, none⟩) = x := ⟨_, rfl⟩
  have hF1 : ∀ wz, Flat wz (some ⟨b, o, none⟩) (n * 5) U → Flat wz (some ⟨b, o, none⟩) (k * 5) U := fun wz q h0 => by
    obtain ⟨b', o', e, l, cc⟩ := q (by omega)
    exact ⟨b', o', e, l, fun q hq => cc q (by omega)⟩
  have hF2 : ∀ wz, Flat wz (some ⟨b, o, none⟩) (n * 5) U → Flat wz at2 ((n - (k + 1)) * 5) (fun q => U (q + (k + 1) * 5)) := fun wz q h0 => by
    obtain ⟨b', o', e, l, cc⟩ := q (by omega)
    simp only [Option.some.injEq, Addr.mk.injEq, and_true] at e
    obtain ⟨rfl, rfl⟩ := e
    refine ⟨b, o + (k + 1) * 5, by rw [← hat2, if_neg (by omega)], l, fun q hq => ?_⟩
    rw [show o + (k + 1) * 5 + q = o + (q + (k + 1) * 5) by omega]
    exact cc _ (by omega)
  refine wp_region_held_drew (S := fun w' => w'.cell? ⟨w.heap.size, 0, none⟩ = some (.slice (some ⟨b, o, none⟩) n c)) (by kernel_rfl) ?_ (fun hHeld => ?_)
  · (try dsimp only)
    (first | (go_simp; done) | (go_keep; done))
  refine tq 1 hHeld ?_
  refine tq 2 hHeld ?_
  refine tq 3 hHeld ?_
  refine tq 4 hHeld ?_
  refine tq 6 hHeld ?_
  refine tq 7 hHeld ?_
  refine tq 8 hHeld ?_
  refine tq 9 hHeld ?_
  refine tq 10 hHeld ?_
  have hEa : Below wc.heap.size wc (wc.drew.alloc (.cells #[] 31)) := (Below.refl _ _).drew.alloc (by simp) _
  have ho0 := OwnL.fresh wc.drew wc.heap.size 31 5 U (by simp)
  simp only [World.size_drew] at ho0
  (refine tc 0 fun K hK => ?_; go_simp; refine tr hK (fun hHeld => ?_); clear hK K)
  refine tc 5 fun K hK => ?_
  refine step_app rfl _ _ _ rfl wc.heap.size 31 5 40 zeroI Try.underlying23 infoIt rfl (by decide) (.slice (some ⟨wc.heap.size, 0, none⟩) 0 0) 0 U rfl ho0 _ k c U rfl (hF1 _ (h.below (hG.bel.trans (hEa.mono hG.bel.size)))) (by unfold maxLen; omega) (by omega) (by simp) ?_
  intro a1 c1 w1 ho1 hg1
  rw [Nat.zero_add] at ho1 ⊢
  have hB1 : Below wc.heap.size wc w1 := hEa.grown hg1 hEa.size (fun b hb => (ho0.lt b hb).1)
  have hG1 := hG.on hB1
  have hbox1 := hG1.box
  (refine tr hK (fun hHeld => ?_); clear hK K)
  refine tc 11 fun K hK => ?_
  refine step_app rfl _ _ _ rfl wc.heap.size 31 5 40 zeroI Try.underlying23 infoIt rfl (by decide) (.slice a1 k c1) k _ rfl ho1 at2 (n - (k + 1)) _ _ rfl (hF2 _ (h.below hG1.bel)) (by unfold maxLen; omega) (by omega) hB1.size ?_
  intro a2 c2 w2 ho2 hg2
  have hlen : k + (n - (k + 1)) = n - 1 := by omega
  rw [hlen] at ho2 ⊢
  have hB2 : Below wc.heap.size wc w2 := hB1.grown hg2 hB1.size (fun b hb => (ho1.lt b hb).1)
  have hG2 := hG.on hB2
  have hbox2 := hG2.box
  have hres2 := hG2.res
  have hnfr2 := hG2.nfr
  have hbig2 := hG2.big
  have hx3 := (hB2.cell (p := ⟨bx, 0, none⟩) hx2).trans hx
  have hxf3 := (hB2.frozen (p := ⟨bx, 0, none⟩) hx2).trans hxf
  have hbx3 : bx < w2.heap.size := Nat.lt_of_lt_of_le hx2 hB2.size
  have n1 : (bx = w.heap.size) = False := eq_false (by omega)
  have n2 : (w.heap.size = bx) = False := eq_false (by omega)
  have n3 : (bx = w.heap.size + 1) = False := eq_false (by omega)
  have n4 : (w.heap.size + 1 = bx) = False := eq_false (by omega)
  (refine tr hK (fun hHeld => ?_); clear hK K)
  refine tq 12 hHeld ?_
  (refine tc 13 fun K hK => ?_; go_simp; refine tr hK (fun hHeld => ?_); clear hK K)
  refine wpAnyH_done (by kernel_rfl) ?_ _
  go_wp2_with fail
  refine bodyPost_ret (v := .tuple #[.agg #[.slice a2 (n - 1) c2], .bool true]) (by simp [results, Try.results19, go_sem, *]) rfl ⟨a2, c2, rfl, ?_⟩
  have hO : Out w w2 a2 (n - 1) c2 (cat (k * 5) U (fun q => U (q + (k + 1) * 5))) := ⟨(ho2.congr fun q _ => by simp [cat]).base hG.bel.size, hG2.bel⟩
  exact (hO.set _ (by simp; omega) (fun e => by have := (ho2.lt _ e).1; simp at this; omega)).set _ (by simp) (fun e => by have := (ho2.lt _ e).1; simp at this; omega)
set_option maxHeartbeats 4000000 in
theorem sGone_r (a : Option Addr) (n c : Nat) (U : Nat → Int) (id : Int) (k : Nat) (w : World) (h : Flat w a (n * 5) U) (hc : n ≤ c) (hn : n ≤ 1048576) (hk : IsAt n U id k) (hb : broadB n U = false) :
    Calls Try.prog 19 #[.agg #[.slice a n c], .int .i64 id] w fun e w' => ∃ a' c', e = .returned (.tuple #[.agg #[.slice a' 0 c'], .bool false]) ∧ ∀ R, Out w w' a' 0 c' R := by
  have hset := cset_map
  go_enter Try.func19, Try.ntmps19
  go_upto_region 1 with fail
  go_cut [11] (fun s wc => s = .bool true ∧ GB w wc a n c)
  case first =>
    have hE : GB w ((w.alloc (.cells #[.slice a n c] 25)).alloc (.cells #[.slice none 0 0] 25)) a n c := ⟨((Below.refl _ _).alloc (Nat.le_refl _) _).alloc (by simp) _, by simp, by go_simp, by go_simp, by go_simp⟩
    go_wp2_with (go_at_call 14; refine (sBroadOk_q _ _ _ U _ _ (h.below hE.bel) hn (by with_reducible assumption)).mono ?_; rintro e w1 ⟨rfl, hb1⟩)
    go_meet
    exact ⟨rfl, hE.on hb1⟩
  case rest =>
  obtain ⟨rfl, hG⟩ := hcut
  have hbox := hG.box
  have hbig := hG.big
  have hres := hG.res
  have hnfr := hG.nfr
  go_wp2_with fail
  refine bodyPost_ret (v := .tuple #[.agg #[.slice none 0 0], .bool false]) (by simp [results, Try.results19, go_sem, *]) rfl ⟨none, 0, rfl, fun R => ?_⟩
  exact ⟨OwnL.nil _ _ _ _ _, hG.bel.setCell (by simp) _⟩
set_option maxHeartbeats 4000000 in
theorem gone_r (a : Option Addr) (n c : Nat) (U : Nat → Int) (id : Int) (k : Nat) (w : World) (h : Flat w a (n * 5) U) (hc : n ≤ c) (hn : n ≤ 1048576) (hk : IsAt n U id k) (hb : broadB n U = false) :
    Calls Try.prog 15 #[.agg #[.slice a n c], .int .i64 id] w fun e w' => ∃ a' c', e = .returned (.tuple #[.agg #[.slice a' 0 c'], .bool false]) ∧ ∀ R, Out w w' a' 0 c' R := by
  have hset := cset_map
  go_enter Try.func15, Try.ntmps15
  go_upto_region 1 with fail
  go_cut [10] (fun s wc => s = .bool true ∧ GB w wc a n c)
  case first =>
    have hE : GB w ((w.alloc (.cells #[.slice a n c] 25)).alloc (.cells #[.slice none 0 0] 25)) a n c := ⟨((Below.refl _ _).alloc (Nat.le_refl _) _).alloc (by simp) _, by simp, by go_simp, by go_simp, by go_simp⟩
    go_wp2_with (go_at_call 13; refine (broadOk_q _ _ _ U _ _ (h.below hE.bel) hn (by with_reducible assumption)).mono ?_; rintro e w1 ⟨rfl, hb1⟩)
    go_meet
    exact ⟨rfl, hE.on hb1⟩
  case rest =>
  obtain ⟨rfl, hG⟩ := hcut
  have hbox := hG.box
  have hbig := hG.big
  have hres := hG.res
  have hnfr := hG.nfr
  go_wp2_with fail
  refine bodyPost_ret (v := .tuple #[.agg #[.slice none 0 0], .bool false]) (by simp [results, Try.results15, go_sem, *]) rfl ⟨none, 0, rfl, fun R => ?_⟩
  exact ⟨OwnL.nil _ _ _ _ _, hG.bel.setCell (by simp) _⟩
set_option maxHeartbeats 4000000 in
theorem sGone_n (a : Option Addr) (n c : Nat) (U : Nat → Int) (id : Int) (k : Nat) (w : World) (h : Flat w a (n * 5) U) (hc : n ≤ c) (hn : n ≤ 1048576) (hk : IsAt n U id k) (hb : broadB n U = true) (ht : thereB n U id k = false) :
    Calls Try.prog 19 #[.agg #[.slice a n c], .int .i64 id] w fun e w' => ∃ a' c', e = .returned (.tuple #[.agg #[.slice a' n c'], .bool false]) ∧ Out w w' a' n c' U := by
  have hset := cset_map
  go_enter Try.func19, Try.ntmps19
  go_upto_region 1 with fail
  go_cut [11] (fun s wc => s = .bool false ∧ GB w wc a n c)
  case first =>
    have hE : GB w ((w.alloc (.cells #[.slice a n c] 25)).alloc (.cells #[.slice none 0 0] 25)) a n c := ⟨((Below.refl _ _).alloc (Nat.le_refl _) _).alloc (by simp) _, by simp, by go_simp, by go_simp, by go_simp⟩
    go_wp2_with (go_at_call 14; refine (sBroadOk_q _ _ _ U _ _ (h.below hE.bel) hn (by with_reducible assumption)).mono ?_; rintro e w1 ⟨rfl, hb1⟩)
    go_meet
    exact ⟨rfl, hE.on hb1⟩
  case rest =>
  obtain ⟨rfl, hG⟩ := hcut
  have hbox := hG.box
  have hbig := hG.big
  have hres := hG.res
  have hnfr := hG.nfr
  go_upto_region 3 with fail
  go_cut [6, 7] (fun s t wc => s = .int .i64 (k : Int) ∧ t = .bool false ∧ GB w wc a n c)
  case first =>
    go_wp2_with (go_at_call 44; refine (l4At_q _ _ _ U _ k _ _ (h.below hG.bel) hn hk (by with_reducible assumption)).mono ?_; rintro e w1 ⟨rfl, hb1⟩)
    go_meet
    exact ⟨rfl, rfl, hG.on hb1⟩
  case rest =>
  clear hG hbox hbig hres hnfr
  obtain ⟨rfl, rfl, hG⟩ := hcut
  have hbox := hG.box
  have hbig := hG.big
  have hres := hG.res
  have hnfr := hG.nfr
  go_wp2_with (go_at_call 43; refine (l4Copy_any _ _ _ U _ (h.below hG.bel) hn).mono ?_; rintro e w1 ⟨a1, c1, rfl, hO1⟩; have hG1 := hG.on hO1.bel; have hres1 := hG1.res; have hnfr1 := hG1.nfr; have hbig1 := hG1.big; have hq1 : w.heap.size + 1 < w1.heap.size := (by omega))
  refine bodyPost_ret (v := .tuple #[.agg #[.slice a1 n c1], .bool false]) (by simp [results, Try.results19, go_sem, *]) rfl ⟨a1, c1, rfl, ?_⟩
  have hlt := hO1.own.lt
  have hsz := hG.bel.size
  have hO : Out w w1 a1 n c1 U := ⟨hO1.own.base hsz, hG1.bel⟩
  have hO2 := hO.set (p := ⟨w.heap.size + 1, 0, none⟩) (.slice a1 n c1) (by simp) (fun e => by have := (hlt _ e).1; simp at this; omega)
  exact ⟨hO2.own.below ((Below.refl _ _).alloc (Nat.le_refl _) _), hO2.bel.alloc hO2.bel.size _⟩
set_option maxHeartbeats 4000000 in
theorem gone_n (a : Option Addr) (n c : Nat) (U : Nat → Int) (id : Int) (k : Nat) (w : World) (h : Flat w a (n * 5) U) (hc : n ≤ c) (hn : n ≤ 1048576) (hk : IsAt n U id k) (hb : broadB n U = true) (ht : thereB n U id k = false) :
    Calls Try.prog 15 #[.agg #[.slice a n c], .int .i64 id] w fun e w' => ∃ a' c', e = .returned (.tuple #[.agg #[.slice a' n c'], .bool false]) ∧ Out w w' a' n c' U := by
  have hset := cset_map
  go_enter Try.func15, Try.ntmps15
  go_upto_region 1 with fail
  go_cut [10] (fun s wc => s = .bool false ∧ GB w wc a n c)
  case first =>
    have hE : GB w ((w.alloc (.cells #[.slice a n c] 25)).alloc (.cells #[.slice none 0 0] 25)) a n c := ⟨((Below.refl _ _).alloc (Nat.le_refl _) _).alloc (by simp) _, by simp, by go_simp, by go_simp, by go_simp⟩
    go_wp2_with (go_at_call 13; refine (broadOk_q _ _ _ U _ _ (h.below hE.bel) hn (by with_reducible assumption)).mono ?_; rintro e w1 ⟨rfl, hb1⟩)
    go_meet
    exact ⟨rfl, hE.on hb1⟩
  case rest =>
  obtain ⟨rfl, hG⟩ := hcut
  have hbox := hG.box
  have hbig := hG.big
  have hres := hG.res
  have hnfr := hG.nfr
  go_upto_region 3 with fail
  go_cut [6, 7] (fun s t wc => s = .int .i64 (k : Int) ∧ t = .bool false ∧ GB w wc a n c)
  case first =>
    go_wp2_with (go_at_call 38; refine (itemPlace_q _ _ _ U _ k _ _ (h.below hG.bel) hn hk (by with_reducible assumption)).mono ?_; rintro e w1 ⟨rfl, hb1⟩)
    go_meet
    exact ⟨rfl, rfl, hG.on hb1⟩
  case rest =>
  clear hG hbox hbig hres hnfr
  obtain ⟨rfl, rfl, hG⟩ := hcut
  have hbox := hG.box
  have hbig := hG.big
  have hres := hG.res
  have hnfr := hG.nfr
  go_wp2_with (go_at_call 40; refine (copied_any _ _ _ U _ (h.below hG.bel) hn).mono ?_; rintro e w1 ⟨a1, c1, rfl, hO1⟩; have hG1 := hG.on hO1.bel; have hres1 := hG1.res; have hnfr1 := hG1.nfr; have hbig1 := hG1.big)
  refine bodyPost_ret (v := .tuple #[.agg #[.slice a1 n c1], .bool false]) (by simp [results, Try.results15, go_sem, *]) rfl ⟨a1, c1, rfl, ?_⟩
  have hlt := hO1.own.lt
  have hsz := hG.bel.size
  have hO : Out w w1 a1 n c1 U := ⟨hO1.own.base hsz, hG1.bel⟩
  exact hO.set (p := ⟨w.heap.size + 1, 0, none⟩) _ (by simp) (fun e => by have := (hlt _ e).1; simp at this; omega)
set_option maxRecDepth 20000 in
set_option maxHeartbeats 4000000 in
theorem gone_t (a : Option Addr) (n c : Nat) (U : Nat → Int) (id : Int) (k : Nat) (w : World) (h : Flat w a (n * 5) U) (hc : n ≤ c) (hn : n ≤ 1048576) (hk : IsAt n U id k) (hb : broadB n U = true) (ht : thereB n U id k = true) :
    Calls Try.prog 15 #[.agg #[.slice a n c], .int .i64 id] w fun e w' => ∃ a' c', e = .returned (.tuple #[.agg #[.slice a' (n - 1) c'], .bool true]) ∧ Out w w' a' (n - 1) c' (cat (k * 5) U (fun q => U (q + (k + 1) * 5))) := by
  have hset := cset_map
  have hkn : k < n := by unfold thereB at ht; simp only [decide_eq_true_eq] at ht; exact ht.1
  obtain ⟨b, o, rfl, hbl, _⟩ := h (by omega)
  go_enter Try.func15, Try.ntmps15
  go_upto_region 1 with fail
  go_cut [10] (fun s wc => s = .bool false ∧ GB w wc (some ⟨b, o, none⟩) n c)
  case first =>
    have hE : GB w ((w.alloc (.cells #[.slice (some ⟨b, o, none⟩) n c] 25)).alloc (.cells #[.slice none 0 0] 25)) (some ⟨b, o, none⟩) n c := ⟨((Below.refl _ _).alloc (Nat.le_refl _) _).alloc (by simp) _, by simp, by go_simp, by go_simp, by go_simp⟩
    go_wp2_with (go_at_call 13; refine (broadOk_q _ _ _ U _ _ (h.below hE.bel) hn (by with_reducible assumption)).mono ?_; rintro e w1 ⟨rfl, hb1⟩)
    go_meet
    exact ⟨rfl, hE.on hb1⟩
  case rest =>
  obtain ⟨rfl, hG⟩ := hcut
  have hbox := hG.box
  have hbig := hG.big
  have hres := hG.res
  have hnfr := hG.nfr
  go_upto_region 3 with fail
  go_cut [6, 7] (fun s t wc => s = .int .i64 (k : Int) ∧ t = .bool true ∧ GB w wc (some ⟨b, o, none⟩) n c)
  case first =>
    go_wp2_with (go_at_call 38; refine (itemPlace_q _ _ _ U _ k _ _ (h.below hG.bel) hn hk (by with_reducible assumption)).mono ?_; rintro e w1 ⟨rfl, hb1⟩)
    go_meet
    exact ⟨rfl, rfl, hG.on hb1⟩
  case rest =>
  clear hG hbox hbig hres hnfr
  obtain ⟨rfl, rfl, hG⟩ := hcut
  have hbox := hG.box
  have hbig := hG.big
  have hres := hG.res
  have hnfr := hG.nfr
  have hw1 : IntKind.i64.wrap ((k : Int) + 1) = (k : Int) + 1 := i64w (by omega)
  have ht1 : ((k : Int) + 1).toNat = k + 1 := by omega
  have hk1 : (0 : Int) ≤ (k : Int) + 1 := by omega
  have hkc : (k : Int) ≤ (c : Int) := by omega
  have hkn1 : (k : Int) + 1 ≤ (n : Int) := by omega
  obtain ⟨at2, hat2⟩ : ∃ x, (if c = k + 1 then some (⟨b, o, none⟩ : Addr) else some ⟨b, o + (k + 1) * 5, none⟩) = x := ⟨_, rfl⟩
  have hF1 : ∀ wz, Flat wz (some ⟨b, o, none⟩) (n * 5) U → Flat wz (some ⟨b, o, none⟩) (k * 5) U := fun wz q h0 => by
    obtain ⟨b', o', e, l, cc⟩ := q (by omega)
    exact ⟨b', o', e, l, fun q hq => cc q (by omega)⟩
  have hF2 : ∀ wz, Flat wz (some ⟨b, o, none⟩) (n * 5) U → Flat wz at2 ((n - (k + 1)) * 5) (fun q => U (q + (k + 1) * 5)) := fun wz q h0 => by
    obtain ⟨b', o', e, l, cc⟩ := q (by omega)
    simp only [Option.some.injEq, Addr.mk.injEq, and_true] at e
    obtain ⟨rfl, rfl⟩ := e
    refine ⟨b, o + (k + 1) * 5, by rw [← hat2, if_neg (by omega)], l, fun q hq => ?_⟩
    rw [show o + (k + 1) * 5 + q = o + (q + (k + 1) * 5) by omega]
    exact cc _ (by omega)
  go_upto_region 6 with fail
  refine wp_region_held_drew (S := fun w' => w'.cell? ⟨w.heap.size, 0, none⟩ = some (.slice (some ⟨b, o, none⟩) n c)) (by kernel_rfl) ?_ (fun hHeld => ?_)
  · (try dsimp only)
    (first | (go_simp; done) | (go_keep; done))
  refine tq 0 hHeld ?_
  refine tq 1 hHeld ?_
  refine tq 2 hHeld ?_
  refine tq 3 hHeld ?_
  refine tq 4 hHeld ?_
  refine tq 5 hHeld ?_
  refine tq 6 hHeld ?_
  refine tq 7 hHeld ?_
  refine tq 8 hHeld ?_
  have hE2 : Below wc.heap.size wc (wc.drew.alloc (.cells #[.slice (some ⟨b, o, none⟩) k c, .slice at2 (n - (k + 1)) (c - (k + 1))] 23)) := (Below.refl _ _).drew.alloc (by simp) _
  have hG2 := hG.on hE2
  have e0 : (wc.drew.alloc (.cells #[.slice (some ⟨b, o, none⟩) k c, .slice at2 (n - (k + 1)) (c - (k + 1))] 23)).cell? ⟨wc.heap.size, 0, none⟩ = some (.slice (some ⟨b, o, none⟩) k c) := by go_simp
  have e1 : (wc.drew.alloc (.cells #[.slice (some ⟨b, o, none⟩) k c, .slice at2 (n - (k + 1)) (c - (k + 1))] 23)).cell? ⟨wc.heap.size, 1, none⟩ = some (.slice at2 (n - (k + 1)) (c - (k + 1))) := by go_simp
  have ez : (wc.drew.alloc (.cells #[.slice (some ⟨b, o, none⟩) k c, .slice at2 (n - (k + 1)) (c - (k + 1))] 23)).heap.size = wc.heap.size + 1 := by simp
  (refine tc 9 fun K hK => ?_; go_simp; refine tr hK (fun hHeld => ?_); clear hK K)
  (refine tc 10 fun K hK => ?_; go_simp; (go_at_call 41; refine (concat2 _ _ _ _ _ _ _ _ U (fun q => U (q + (k + 1) * 5)) _ (by simp) e0 e1 (hF1 _ (h.below hG2.bel)) (hF2 _ (h.below hG2.bel)) (by omega)).mono ?_; rintro e w1 ⟨a1, c1, rfl, ho1, hb1⟩; have hG1 := hG2.on hb1; have hres1 := hG1.res; have hnfr1 := hG1.nfr; have hbig1 := hG1.big; have hbox1 := hG1.box); (try go_wp2_with fail); refine tr hK (fun hHeld => ?_); clear hK K)
  have hlen : k + (n - (k + 1)) = n - 1 := by omega
  rw [hlen] at ho1
  (try simp only [hlen])
  refine tq 11 hHeld ?_
  (refine tc 12 fun K hK => ?_; go_simp; refine tr hK (fun hHeld => ?_); clear hK K)
  refine tq 13 hHeld ?_
  refine wpAnyH_done (by kernel_rfl) ?_ _
  go_wp2_with fail
  refine bodyPost_ret (v := .tuple #[.agg #[.slice a1 (n - 1) c1], .bool true]) (by simp [results, Try.results15, go_sem, *]) rfl ⟨a1, c1, rfl, ?_⟩
  have hO : Out w w1 a1 (n - 1) c1 (cat (k * 5) U (fun q => U (q + (k + 1) * 5))) := ⟨ho1.base (by rw [ez]; have := hG.bel.size; omega), hG1.bel⟩
  exact hO.set _ (by simp) (fun e => by have := (ho1.lt _ e).1; rw [ez] at this; simp at this; omega)
theorem goIs_ex (n : Nat) (U : Nat → Int) (id : Int) (k : Nat) : ∃ N R B, GoIs n U id k N R B ∧ N ≤ n := by
  cases hb : broadB n U with
  | false => exact ⟨0, U, false, .inl ⟨hb, rfl, rfl⟩, Nat.zero_le _⟩
  | true =>
    cases ht : thereB n U id k with
    | false => exact ⟨n, U, false, .inr (.inl ⟨hb, ht, rfl, rfl, rfl⟩), Nat.le_refl _⟩
    | true =>
      have hkn : k < n := by unfold thereB at ht; simp only [decide_eq_true_eq] at ht; exact ht.1
      exact ⟨n - 1, _, true, .inr (.inr ⟨hb, ht, by omega, rfl, rfl⟩), by omega⟩
theorem sGone_any (a : Option Addr) (n c : Nat) (U : Nat → Int) (id : Int) (k : Nat) (w : World) (h : Flat w a (n * 5) U) (hc : n ≤ c) (hn : n ≤ 1048576) (hk : IsAt n U id k) (N : Nat) (R : Nat → Int) (B : Bool) (hg : GoIs n U id k N R B) :
    Calls Try.prog 19 #[.agg #[.slice a n c], .int .i64 id] w fun e w' => ∃ a' c', e = .returned (.tuple #[.agg #[.slice a' N c'], .bool B]) ∧ Out w w' a' N c' R := by
  rcases hg with ⟨hb, rfl, rfl⟩ | ⟨hb, ht, rfl, rfl, rfl⟩ | ⟨hb, ht, hN, rfl, rfl⟩
  · refine (sGone_r a n c U id k w h hc hn hk hb).mono ?_
    rintro e w' ⟨a', c', h1, h2⟩
    exact ⟨a', c', h1, h2 R⟩
  · exact sGone_n a N c _ id k w h hc hn hk hb ht
  · obtain rfl : N = n - 1 := by omega
    exact sGone_t a n c U id k w h hc hn hk hb ht
theorem gone_any (a : Option Addr) (n c : Nat) (U : Nat → Int) (id : Int) (k : Nat) (w : World) (h : Flat w a (n * 5) U) (hc : n ≤ c) (hn : n ≤ 1048576) (hk : IsAt n U id k) (N : Nat) (R : Nat → Int) (B : Bool) (hg : GoIs n U id k N R B) :
    Calls Try.prog 15 #[.agg #[.slice a n c], .int .i64 id] w fun e w' => ∃ a' c', e = .returned (.tuple #[.agg #[.slice a' N c'], .bool B]) ∧ Out w w' a' N c' R := by
  rcases hg with ⟨hb, rfl, rfl⟩ | ⟨hb, ht, rfl, rfl, rfl⟩ | ⟨hb, ht, hN, rfl, rfl⟩
  · refine (gone_r a n c U id k w h hc hn hk hb).mono ?_
    rintro e w' ⟨a', c', h1, h2⟩
    exact ⟨a', c', h1, h2 R⟩
  · exact gone_n a N c _ id k w h hc hn hk hb ht
  · obtain rfl : N = n - 1 := by omega
    exact gone_t a n c U id k w h hc hn hk hb ht
end Go.Proofs.Ytbngdlbecdloiaa
