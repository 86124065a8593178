/- What meets a box: both sides. -/
import Derived.Test.YtbngdlbecdloiaaBrMt
import Derived.Test.YtbngdlbecdloiaaBrGo
import Derived.Test.YtbngdlbecdloiaaB10
import Derived.Deep.RegionHeld3
import Derived.Deep.DeepCutAuto
set_option maxHeartbeats 16000000
set_option maxRecDepth 20000
namespace Go.Proofs.Ytbngdlbecdloiaa
open Go.RowKit
set_option linter.unusedVariables false
set_option linter.unusedSimpArgs false
theorem allB_at {U : Nat → Int} : ∀ {n k : Nat}, allB U n = true → k < n → stepB U k = true
  | 0, _, _, l => absurd l (Nat.not_lt_zero _)
  | n + 1, k, h, l => by
    unfold allB at h
    rw [Bool.and_eq_true] at h
    rcases Nat.lt_succ_iff_lt_or_eq.1 l with l | rfl
    · exact allB_at h.1 l
    · exact h.2
theorem broadB_n {n : Nat} {U : Nat → Int} (h : broadB n U = true) : n ≤ 24 := by unfold broadB at h; rw [Bool.and_eq_true] at h; exact of_decide_eq_true h.1
theorem broadB_bd {n : Nat} {U : Nat → Int} (h : broadB n U = true) : ∀ q, q < n * 5 → B1 (U q) := by
  intro q hq
  unfold broadB at h
  rw [Bool.and_eq_true] at h
  have hs := allB_at h.2 (k := q / 5) (by omega)
  unfold stepB itemB at hs
  rw [Bool.and_eq_true, Bool.and_eq_true] at hs
  obtain ⟨⟨h1, h2⟩, -⟩ := hs
  have h1 := of_decide_eq_true h1
  unfold bokB at h2
  rw [Bool.and_eq_true, Bool.and_eq_true] at h2
  obtain ⟨h3, h4, -⟩ := h2
  unfold vokB at h3 h4
  simp only [Bool.and_eq_true, decide_eq_true_eq, Nat.add_zero] at h1 h3 h4
  have hq5 : q / 5 * 5 + q % 5 = q := by omega
  unfold B1
  rcases (show q % 5 = 0 ∨ q % 5 = 1 ∨ q % 5 = 2 ∨ q % 5 = 3 ∨ q % 5 = 4 by omega) with e | e | e | e | e <;> rw [e] at hq5 <;> rw [← hq5] <;> (try simp only [Nat.add_zero]) <;> omega
def askL (n : Nat) (U : Nat → Int) (a b c d : Int) : List Int := bif broadB n U && bokB a b c d then ((List.range n).filter (Mt U a b c d)).map (fun i => U (i * 5)) else []
theorem LI.own {w : World} {base n c : Nat} {a : Option Addr} {zs : List Int} (h : LI w base (.slice a n c) n zs) : OwnL w base 3 1 (.slice a n c) n (ofL zs) := by
  have e : zs.map (Value.int .i64) = numL (n * 1) (ofL zs) := by
    have hl := h.1
    apply List.ext_getElem?
    intro j
    by_cases hj : j < n
    · rw [numL_get (by omega), List.getElem?_map, List.getElem?_eq_getElem (by omega)]
      unfold ofL
      simp [List.getD, List.getElem?_eq_getElem (show j < zs.length by omega)]
    · rw [List.getElem?_eq_none (by rw [List.length_map]; omega), List.getElem?_eq_none (by rw [numL_len]; omega)]
  unfold OwnL
  rw [← e]
  exact h.2
theorem LI.new (w : World) (base : Nat) (hb : base ≤ w.heap.size) : LI (w.alloc (.cells #[] 3)) base (.slice (some ⟨w.heap.size, 0, none⟩) 0 0) 0 [] :=
  ⟨rfl, by simp, .inr ⟨w.heap.size, 0, #[], rfl, hb, Go.Deep.blk_alloc_new _ _, Nat.le_refl _, Nat.zero_le _, by simp, by simp⟩⟩
theorem LI.newAt (w : World) (base s : Nat) (hb : base ≤ w.heap.size) (e : w.heap.size = s) : LI (w.alloc (.cells #[] 3)) base (.slice (some ⟨s, 0, none⟩) 0 0) 0 [] := by subst e; exact LI.new w base hb
theorem filt_next (M : Nat → Bool) (f : Nat → Int) (k : Nat) : ((List.range (k + 1)).filter M).map f = ((List.range k).filter M).map f ++ (if M k = true then [f k] else []) := by
  rw [List.range_succ, List.filter_append, List.map_append]
  congr 1
  by_cases h : M k = true <;> simp [List.filter, h]
theorem sBoxOk_qq (a b c d : Int) (r : Bool) (w : World) (e : bokB a b c d = r) : Calls Try.prog 28 #[b4 a b c d] w fun e w' => e = .returned (.bool r) ∧ Below w.heap.size w w' := by subst e; exact sBoxOk_any a b c d w
theorem boxOk_qq (a b c d : Int) (r : Bool) (w : World) (e : bokB a b c d = r) : Calls Try.prog 45 #[b4 a b c d] w fun e w' => e = .returned (.bool r) ∧ Below w.heap.size w w' := by subst e; exact boxOk_any a b c d w
set_option maxRecDepth 20000 in
set_option maxHeartbeats 1000000 in
theorem sAsk_f (ai : Option Addr) (n ci : Nat) (U : Nat → Int) (a b c d : Int) (N : Nat) (w : World) (h : Flat w ai (n * 5) U) (hn : n ≤ 1048576) (hk : (broadB n U && bokB a b c d) = false) :
    Calls Try.prog 27 #[.agg #[.slice ai n ci], b4 a b c d] w fun e w' => ∃ a' c', e = .returned (.slice a' 0 c') ∧ OutL w w' 3 1 a' 0 c' (ofL []) := by
  have hset := cset_map
  have fl : ∀ w', Below w.heap.size w w' → Flat w' ai (n * 5) U := fun w' hb => h.below hb
  cases k1 : broadB n U with
  | false =>
    go_enter Try.func27, Try.ntmps27
    go_wp2_with (first
    | (go_at_call 14; refine (sBroadOk_q _ _ _ U _ _ (fl _ bel_a) hn k1).mono ?_; rintro e w2 ⟨rfl, hb2⟩; obtain ⟨hc2, hf2⟩ := bcell hb2; have hz2 := hb2.size; (try simp only [World.size_drew, World.size_alloc, World.size_setCell] at hc2 hf2 hz2); have hd2 := fun o => hc2 w.heap.size o (by omega); have he2 := fun o => hc2 (w.heap.size + 1) o (by omega); clear hc2 hf2)
    | (go_at_call 28; refine (sBoxOk_qq _ _ _ _ _ _ (by with_reducible assumption)).mono ?_; rintro e w3 ⟨rfl, hb3⟩; have hz3 := hb3.size; (try simp only [World.size_drew, World.size_alloc, World.size_setCell] at hz3)))
    go_ret
    exact ⟨_, _, rfl, bel_a, ((LI.newAt ((w.alloc (.cells #[.slice ai n ci] 25)).alloc (.cells #[.int .i64 a, .int .i64 b, .int .i64 c, .int .i64 d] 29)) w.heap.size _ (by simp; omega) (by simp)).below (by exact bel_a)).own⟩
  | true =>
    rw [k1, Bool.true_and] at hk
    go_enter Try.func27, Try.ntmps27
    go_wp2_with (first
    | (go_at_call 14; refine (sBroadOk_q _ _ _ U _ _ (fl _ bel_a) hn k1).mono ?_; rintro e w2 ⟨rfl, hb2⟩; obtain ⟨hc2, hf2⟩ := bcell hb2; have hz2 := hb2.size; (try simp only [World.size_drew, World.size_alloc, World.size_setCell] at hc2 hf2 hz2); have hd2 := fun o => hc2 w.heap.size o (by omega); have he2 := fun o => hc2 (w.heap.size + 1) o (by omega); clear hc2 hf2)
    | (go_at_call 28; refine (sBoxOk_qq _ _ _ _ _ _ hk).mono ?_; rintro e w3 ⟨rfl, hb3⟩; have hz3 := hb3.size; (try simp only [World.size_drew, World.size_alloc, World.size_setCell] at hz3)))
    go_ret
    exact ⟨_, _, rfl, bel_a, ((LI.newAt ((w.alloc (.cells #[.slice ai n ci] 25)).alloc (.cells #[.int .i64 a, .int .i64 b, .int .i64 c, .int .i64 d] 29)) w.heap.size _ (by simp; omega) (by simp)).below (by exact bel_a)).own⟩
set_option maxRecDepth 20000 in
set_option maxHeartbeats 1000000 in
theorem iAsk_f (ai : Option Addr) (n ci : Nat) (U : Nat → Int) (a b c d : Int) (N : Nat) (w : World) (h : Flat w ai (n * 5) U) (hn : n ≤ 1048576) (hk : (broadB n U && bokB a b c d) = false) :
    Calls Try.prog 17 #[.agg #[.slice ai n ci], b4 a b c d] w fun e w' => ∃ a' c', e = .returned (.slice a' 0 c') ∧ OutL w w' 3 1 a' 0 c' (ofL []) := by
  have hset := cset_map
  have fl : ∀ w', Below w.heap.size w w' → Flat w' ai (n * 5) U := fun w' hb => h.below hb
  cases k1 : broadB n U with
  | false =>
    go_enter Try.func17, Try.ntmps17
    go_wp2_with (first
    | (go_at_call 13; refine (broadOk_q _ _ _ U _ _ (fl _ bel_a) hn k1).mono ?_; rintro e w2 ⟨rfl, hb2⟩; obtain ⟨hc2, hf2⟩ := bcell hb2; have hz2 := hb2.size; (try simp only [World.size_drew, World.size_alloc, World.size_setCell] at hc2 hf2 hz2); have hd2 := fun o => hc2 w.heap.size o (by omega); have he2 := fun o => hc2 (w.heap.size + 1) o (by omega); clear hc2 hf2)
    | (go_at_call 45; refine (boxOk_qq _ _ _ _ _ _ (by with_reducible assumption)).mono ?_; rintro e w3 ⟨rfl, hb3⟩; have hz3 := hb3.size; (try simp only [World.size_drew, World.size_alloc, World.size_setCell] at hz3)))
    go_ret
    exact ⟨_, _, rfl, bel_a, OwnL.nil _ _ _ _ _⟩
  | true =>
    rw [k1, Bool.true_and] at hk
    go_enter Try.func17, Try.ntmps17
    go_wp2_with (first
    | (go_at_call 13; refine (broadOk_q _ _ _ U _ _ (fl _ bel_a) hn k1).mono ?_; rintro e w2 ⟨rfl, hb2⟩; obtain ⟨hc2, hf2⟩ := bcell hb2; have hz2 := hb2.size; (try simp only [World.size_drew, World.size_alloc, World.size_setCell] at hc2 hf2 hz2); have hd2 := fun o => hc2 w.heap.size o (by omega); have he2 := fun o => hc2 (w.heap.size + 1) o (by omega); clear hc2 hf2)
    | (go_at_call 45; refine (boxOk_qq _ _ _ _ _ _ hk).mono ?_; rintro e w3 ⟨rfl, hb3⟩; have hz3 := hb3.size; (try simp only [World.size_drew, World.size_alloc, World.size_setCell] at hz3)))
    go_ret
    exact ⟨_, _, rfl, bel_a, OwnL.nil _ _ _ _ _⟩
/-- what lies where inside: the boxes, the box, and the answer's memory behind them -/
structure AQ (w wr : World) (ai : Option Addr) (n ci : Nat) (a b c d : Int) : Prop where
  bel : Below w.heap.size w wr
  big : w.heap.size + 1 < wr.heap.size
  box : wr.cell? ⟨w.heap.size, 0, none⟩ = some (.slice ai n ci)
  q0 : wr.cell? ⟨w.heap.size + 1, 0, none⟩ = some (.int .i64 a)
  q1 : wr.cell? ⟨w.heap.size + 1, 1, none⟩ = some (.int .i64 b)
  q2 : wr.cell? ⟨w.heap.size + 1, 2, none⟩ = some (.int .i64 c)
  q3 : wr.cell? ⟨w.heap.size + 1, 3, none⟩ = some (.int .i64 d)
theorem AQ.new (w : World) (ai : Option Addr) (n ci : Nat) (a b c d : Int) : AQ w ((w.alloc (.cells #[.slice ai n ci] 25)).alloc (.cells #[.int .i64 a, .int .i64 b, .int .i64 c, .int .i64 d] 29)) ai n ci a b c d :=
  ⟨bel_a, by simp, by go_simp, by go_simp, by go_simp, by go_simp, by go_simp⟩
theorem AQ.on {w wr w' : World} {ai : Option Addr} {n ci : Nat} {a b c d : Int} (h : AQ w wr ai n ci a b c d) (hb : Below wr.heap.size wr w') : AQ w w' ai n ci a b c d :=
  ⟨h.bel.trans (hb.mono (by have := h.big; omega)), Nat.lt_of_lt_of_le h.big hb.size, keepc hb h.box, keepc hb h.q0, keepc hb h.q1, keepc hb h.q2, keepc hb h.q3⟩
theorem AQ.gr {w wr w' : World} {ai : Option Addr} {n ci : Nat} {a b c d : Int} {row : Option Nat} (h : AQ w wr ai n ci a b c d) (hg : wr.grownBy w' row) (hr : ∀ k, row = some k → w.heap.size + 1 < k) : AQ w w' ai n ci a b c d := by
  have hb : Below (w.heap.size + 2) wr w' := (Below.refl _ _).grown hg (by have := h.big; omega) (fun k e => by have := hr k e; omega)
  exact ⟨h.bel.trans (hb.mono (by omega)), Nat.lt_of_lt_of_le h.big hb.size, (hb.cell (p := ⟨w.heap.size, 0, none⟩) (by show w.heap.size < _; omega)).trans h.box, (hb.cell (p := ⟨w.heap.size + 1, 0, none⟩) (by show w.heap.size + 1 < _; omega)).trans h.q0, (hb.cell (p := ⟨w.heap.size + 1, 1, none⟩) (by show w.heap.size + 1 < _; omega)).trans h.q1, (hb.cell (p := ⟨w.heap.size + 1, 2, none⟩) (by show w.heap.size + 1 < _; omega)).trans h.q2, (hb.cell (p := ⟨w.heap.size + 1, 3, none⟩) (by show w.heap.size + 1 < _; omega)).trans h.q3⟩
set_option maxRecDepth 20000 in
set_option maxHeartbeats 1000000 in
theorem sAsk_t (ai : Option Addr) (n ci : Nat) (U : Nat → Int) (a b c d : Int) (N : Nat) (w : World) (h : Flat w ai (n * 5) U) (hn : n ≤ 1048576) (k1 : broadB n U = true) (k2 : bokB a b c d = true) :
    Calls Try.prog 27 #[.agg #[.slice ai n ci], b4 a b c d] w fun e w' => ∃ a' N c' zs, e = .returned (.slice a' N c') ∧ LI w' w.heap.size (.slice a' N c') N zs ∧ zs = ((List.range n).filter (Mt U a b c d)).map (fun i => U (i * 5)) ∧ Below w.heap.size w w' := by
  have hset := cset_map
  have hn24 := broadB_n k1
  have fl : ∀ w', Below w.heap.size w w' → Flat w' ai (n * 5) U := fun w' hb => h.below hb
  go_enter Try.func27, Try.ntmps27
  go_upto_region 1 with fail
  go_cut [5] (fun s wc => ∃ g c', s = .slice (some ⟨g, 0, none⟩) 0 c' ∧ LI wc (w.heap.size + 2) s 0 [] ∧ AQ w wc ai n ci a b c d)
  case first =>
    go_wp2_with fail
    go_meet
    exact ⟨_, _, rfl, by exact LI.newAt ((w.alloc (.cells #[.slice ai n ci] 25)).alloc (.cells #[.int .i64 a, .int .i64 b, .int .i64 c, .int .i64 d] 29)) (w.heap.size + 2) _ (by simp) (by simp), (AQ.new w ai n ci a b c d).on (by exact bel_a)⟩
  case rest =>
  obtain ⟨g, c', rfl, hL, hA⟩ := hcut
  have hbx := hA.box
  have hbg := hA.big
  have y0 := hA.q0
  have y1 := hA.q1
  have y2 := hA.q2
  have y3 := hA.q3
  go_upto_region 2 with fail
  go_cut [15] (fun s wd => s = .bool false ∧ LI wd (w.heap.size + 2) (.slice (some ⟨g, 0, none⟩) 0 c') 0 [] ∧ AQ w wd ai n ci a b c d)
  case first =>
    go_wp2_with (first
      | (go_at_call 14; refine (sBroadOk_q _ _ _ U _ _ (fl _ hA.bel) hn k1).mono ?_; rintro e w2 ⟨rfl, hb2⟩; have hc2 := keepc hb2 y0; have hc3 := keepc hb2 y1; have hc4 := keepc hb2 y2; have hc5 := keepc hb2 y3)
      | (go_at_call 28; refine (sBoxOk_qq _ _ _ _ _ _ k2).mono ?_; rintro e w3 ⟨rfl, hb3⟩))
    go_meet
    have hb23 := hb2.trans (hb3.mono hb2.size)
    exact ⟨rfl, hL.below hb23, hA.on hb23⟩
  case rest =>
  clear hL hA hbx hbg y0 y1 y2 y3
  obtain ⟨rfl, hL, hA⟩ := hcut
  go_wp2
  go_loopg [5, 6] n (fun gg sv si wr => ∃ k no zs, k ≤ n ∧ n - k ≤ gg ∧ si = .int .i64 (k : Int) ∧ LI wr (w.heap.size + 2) sv no zs ∧ zs = ((List.range k).filter (Mt U a b c d)).map (fun i => U (i * 5)) ∧ no ≤ k ∧ AQ w wr ai n ci a b c d)
  case atStart => exact ⟨0, 0, [], by omega, by omega, rfl, hL, rfl, by omega, hA⟩
  case round =>
    clear hL hA
    obtain ⟨k, no, zs, hk, hgg, rfl, hL, hzs, hno, hA⟩ := hrel
    have hbx := hA.box
    have hbg := hA.big
    have hblt : w.heap.size < wr.heap.size := by omega
    by_cases hlt : k < n
    · have hlt1 : (k : Int) < (n : Int) := by omega
      obtain ⟨b', o', rfl, hbl, hc⟩ := h (by omega)
      obtain ⟨j0, j1, j2, j3, j4⟩ := box_cells hc hlt
      obtain ⟨mI, hmI⟩ : ∃ q, Mt U a b c d k = q := ⟨_, rfl⟩
      have hmI2 : (leB (U (k * 5 + 1)) (U (k * 5 + 2)) c d && leB a b (U (k * 5 + 3)) (U (k * 5 + 4))) = mI := hmI
      have hnext := filt_next (Mt U a b c d) (fun i => U (i * 5)) k
      rw [hmI, ← hzs] at hnext
      have FF : ∀ w', Below wr.heap.size wr w' → w'.cell? ⟨w.heap.size, 0, none⟩ = some (.slice (some ⟨b', o', none⟩) n ci) ∧ w'.cell? ⟨b', o' + k * 5 + 1, none⟩ = some (.int .i64 (U (k * 5 + 1))) ∧ w'.cell? ⟨b', o' + k * 5 + 1 + 1, none⟩ = some (.int .i64 (U (k * 5 + 2))) ∧ w'.cell? ⟨b', o' + k * 5 + 1 + 2, none⟩ = some (.int .i64 (U (k * 5 + 3))) ∧ w'.cell? ⟨b', o' + k * 5 + 1 + 3, none⟩ = some (.int .i64 (U (k * 5 + 4))) ∧ w'.cell? ⟨w.heap.size + 1, 0, none⟩ = some (.int .i64 a) ∧ w'.cell? ⟨w.heap.size + 1, 1, none⟩ = some (.int .i64 b) ∧ w'.cell? ⟨w.heap.size + 1, 2, none⟩ = some (.int .i64 c) ∧ w'.cell? ⟨w.heap.size + 1, 3, none⟩ = some (.int .i64 d) :=
        fun w' s => ⟨keepc s hA.box, keepc s (keepc hA.bel j1), keepc s (keepc hA.bel j2), keepc s (keepc hA.bel j3), keepc s (keepc hA.bel j4), keepc s hA.q0, keepc s hA.q1, keepc s hA.q2, keepc s hA.q3⟩
      go_upto_region 7 with fail
      go_cut [31] (fun s wc => s = .bool mI ∧ Below wr.heap.size wr wc)
      case first =>
        refine wp_region_held_drew (S := fun w' => Below wr.heap.size wr w') (by kernel_rfl) ((Below.refl _ _).drew) (fun hHeld => ?_)
        refine tq 0 hHeld ?_
        refine tq 1 hHeld ?_ (hv := by (intro w' s; obtain ⟨q1, q2, q3, q4, q5, q6, q7, q8, q9⟩ := FF w' s; go_simp; (try with_reducible rfl)))
        refine tq 2 hHeld ?_
        refine tq 3 hHeld ?_
        refine tq 4 hHeld ?_
        refine tq 5 hHeld ?_ (hv := by (intro w' s; obtain ⟨q1, q2, q3, q4, q5, q6, q7, q8, q9⟩ := FF w' s; go_simp; (try with_reducible rfl)))
        refine tq 6 hHeld ?_ (hv := by (intro w' s; obtain ⟨q1, q2, q3, q4, q5, q6, q7, q8, q9⟩ := FF w' s; go_simp; (try with_reducible rfl)))
        refine tc 7 fun K hK => ?_
        (go_simp; (go_at_call 52; refine (l3Meets_any _ _ _ _ _ _ _ _ _).mono ?_; rintro e w8 ⟨rfl, hb8⟩; rw [hmI2]); (try go_wp2_with fail); refine tr hK (fun hHeld => ?_) (hHeld.trans (hb8.mono hHeld.size)); clear hK K)
        refine wpAnyH_done (by kernel_rfl) ?_ _
        go_wp2_with fail
        go_meet
        exact ⟨rfl, hHeld⟩
      case rest =>
      obtain ⟨rfl, hB7⟩ := hcut
      obtain ⟨w8, rfl⟩ : ∃ x, x = wc := ⟨_, rfl⟩
      have hA8 := hA.on hB7
      have hL8 := hL.below hB7
      have hx8 := hA8.box
      have hz8 := hA8.big
      have hy8 : w.heap.size < w8.heap.size := by omega
      have e0 := keepc hB7 (keepc hA.bel j0)
      clear FF hA hL hbx hbg hblt
      cases mI with
      | true =>
        go_wp2_with (refine wpList_li rfl _ _ _ rfl Try.underlying40 (w.heap.size + 2) _ no zs rfl (hL8.below bel_a) _ [U (k * 5)] 1 _ rfl rfl (one_li (by go_simp)) (by omega) (by omega) (by first | omega | (simp only [World.size_alloc]; omega) | (simp; omega)) ?_; intro g7 c7 w7 ho7 hg7 hgo hlt7)
        go_roundg (n - k - 1)
        case measure => omega
        case rel => exact ⟨k + 1, no + 1, zs ++ [U (k * 5)], by omega, by omega, by go_num, ho7, (by rw [hnext]; rfl), by omega, (hA8.on (by exact bel_a)).gr hg7 (fun q e => by have := (hL8.lt q e).1; omega)⟩
      | false =>
        go_wp2_with fail
        go_roundg (n - k - 1)
        case measure => omega
        case rel => exact ⟨k + 1, no, zs, by omega, by omega, by go_num, hL8, (by rw [hnext]; simp), by omega, hA8⟩
    · have hlt1 : ¬ ((k : Int) < (n : Int)) := by omega
      obtain rfl : k = n := by omega
      obtain ⟨av, cv, rfl⟩ := hL.form
      go_wp2
      go_ret
      exact ⟨_, _, _, rfl, zs, hL.base (by omega), hzs, hA.bel⟩
theorem filt_len (M : Nat → Bool) (n : Nat) : ((List.range n).filter M).length ≤ n := Nat.le_trans (List.length_filter_le _ _) (by rw [List.length_range]; exact Nat.le_refl _)
theorem map_take_next (f : Int → Int) (zs : List Int) (k : Nat) (hk : k < zs.length) : (zs.take (k + 1)).map f = (zs.take k).map f ++ [f zs[k]] := by
  rw [← List.take_append_getElem hk, List.map_append]
  rfl
set_option maxRecDepth 20000 in
set_option maxHeartbeats 1000000 in
theorem iAsk_t (ai : Option Addr) (n ci : Nat) (U : Nat → Int) (a b c d : Int) (N : Nat) (w : World) (h : Flat w ai (n * 5) U) (hn : n ≤ 1048576) (k1 : broadB n U = true) (k2 : bokB a b c d = true) :
    Calls Try.prog 17 #[.agg #[.slice ai n ci], b4 a b c d] w fun e w' => ∃ a' N c' zs, e = .returned (.slice a' N c') ∧ LI w' w.heap.size (.slice a' N c') N zs ∧ zs = ((List.range n).filter (Mt U a b c d)).map (fun i => U (i * 5)) ∧ Below w.heap.size w w' := by
  have hset := cset_map
  have hn24 := broadB_n k1
  have fl : ∀ w', Below w.heap.size w w' → Flat w' ai (n * 5) U := fun w' hb => h.below hb
  go_enter Try.func17, Try.ntmps17
  go_upto_region 1 with fail
  have hA0 : AQ w ((w.alloc (.cells #[.slice ai n ci] 25)).alloc (.cells #[.int .i64 a, .int .i64 b, .int .i64 c, .int .i64 d] 29)) ai n ci a b c d := AQ.new w ai n ci a b c d
  have y0 := hA0.q0
  have y1 := hA0.q1
  have y2 := hA0.q2
  have y3 := hA0.q3
  go_cut [16] (fun s wd => s = .bool false ∧ AQ w wd ai n ci a b c d)
  case first =>
    go_wp2_with (first
      | (go_at_call 13; refine (broadOk_q _ _ _ U _ _ (fl _ hA0.bel) hn k1).mono ?_; rintro e w2 ⟨rfl, hb2⟩; have hc2 := keepc hb2 y0; have hc3 := keepc hb2 y1; have hc4 := keepc hb2 y2; have hc5 := keepc hb2 y3)
      | (go_at_call 45; refine (boxOk_qq _ _ _ _ _ _ k2).mono ?_; rintro e w3 ⟨rfl, hb3⟩))
    go_meet
    exact ⟨rfl, hA0.on (hb2.trans (hb3.mono hb2.size))⟩
  case rest =>
  clear hA0 y0 y1 y2 y3
  obtain ⟨rfl, hA⟩ := hcut
  have hbx := hA.box
  have hbg := hA.big
  go_upto_region 4 with fail
  go_cut [6] (fun s wd => ∃ tb v base, s = .pointer (some ⟨tb, 0, none⟩) ∧ AQ w wd ai n ci a b c d ∧ wd.cell? ⟨tb, 0, none⟩ = some (.slice ai n ci) ∧ wd.cell? ⟨tb, 1, none⟩ = some v ∧ Tree wd base n U v)
  case first =>
    go_wp2_with (go_at_call 46; refine (treeOf_any ai n ci U _ (fl _ hA.bel) hn24 (broadB_bd k1)).mono ?_; rintro e w4 ⟨v, rfl, hb4, hT4⟩; obtain ⟨gv, nv, cv, rfl⟩ : ∃ gv nv cv, v = .slice gv nv cv := (by rcases hT4 with ⟨_, q⟩ | ⟨_, m, D, hNL, _⟩; exact ⟨_, _, _, q⟩; rcases hNL.is with ⟨_, q⟩ | ⟨g, c0, q⟩; exact ⟨_, _, _, q⟩; exact ⟨_, _, _, q⟩))
    go_meet
    have hE : Below w4.heap.size w4 (w4.alloc (.cells #[.slice ai n ci, .slice gv nv cv] 77)) := (Below.refl _ _).alloc (Nat.le_refl _) _
    exact ⟨_, .slice gv nv cv, _, rfl, (hA.on hb4).on hE, by go_simp, by go_simp, hT4.below hE⟩
  case rest =>
  clear hA hbx hbg
  obtain ⟨tb, v, base, rfl, hA, t0, t1, hT⟩ := hcut
  have y0 := hA.q0
  have y1 := hA.q1
  have y2 := hA.q2
  have y3 := hA.q3
  have hbx := hA.box
  have hbg := hA.big
  go_upto_region 5 with fail
  go_cut [22, 23, 24] (fun s t u wd => ∃ ar nr cr zs lo, s = .slice ar nr cr ∧ t = .int .i64 (nr : Int) ∧ u = .int .i64 0 ∧ AQ w wd ai n ci a b c d ∧ LI wd lo s nr zs ∧ w.heap.size ≤ lo ∧ lo ≤ wd.heap.size ∧ zs = ((List.range n).filter (Mt U a b c d)).map Int.ofNat)
  case first =>
    go_wp2_with (first
      | (go_at_call 48; refine (spanOf_any _ _ _ _ _).mono ?_; rintro e w5 ⟨rfl, hb5⟩)
      | (go_at_call 47; refine (meeting_any base tb ai n ci U v a b c d _ (fl _ (hA.bel.trans (hb5.mono (by omega)))) (keepc hb5 t0) (keepc hb5 t1) (hT.below hb5) hn24).mono ?_; rintro e w6 ⟨r, nr, zs, rfl, hL6, hz6, hb6⟩; obtain ⟨ar, cr, rfl⟩ := hL6.form))
    go_meet
    exact ⟨_, _, _, zs, w5.heap.size, rfl, rfl, rfl, (hA.on hb5).on hb6, hL6, by have := hb5.size; omega, hb6.size, hz6⟩
  case rest =>
  clear hA hbx hbg y0 y1 y2 y3 t0 t1 hT
  obtain ⟨ar, nr, cr, zs, lo, rfl, rfl, rfl, hA, hL, hlo, hlw, hzs⟩ := hcut
  obtain ⟨w7, rfl⟩ : ∃ x, x = wc := ⟨_, rfl⟩
  have hlen : nr ≤ n := by rw [← hL.1, hzs, List.length_map]; exact filt_len _ _
  go_wp2
  go_loopg [5, 24] nr (fun gg sv si wr => ∃ k no os, k ≤ nr ∧ nr - k ≤ gg ∧ si = .int .i64 (k : Int) ∧ LI wr w7.heap.size sv no os ∧ os = (zs.take k).map (fun z => U (z.toNat * 5)) ∧ no = k ∧ Below w7.heap.size w7 wr)
  case atStart => exact ⟨0, 0, [], by omega, by omega, rfl, LI.nil _ _, rfl, rfl, Below.refl _ _⟩
  case round =>
    obtain ⟨k, no, os, hk, hgg, rfl, hLo, hos, rfl, hB⟩ := hrel
    have hAr := hA.on hB
    have hbx := hAr.box
    have hbg := hAr.big
    have hblt : w.heap.size < wr.heap.size := by omega
    by_cases hlt : no < nr
    · have hlt1 : (no : Int) < (nr : Int) := by omega
      obtain ⟨_, q, _⟩ | ⟨gr, cr', hsl, hcr⟩ := hL.is
      · omega
      cases hsl
      have hzl : no < zs.length := by rw [hL.1]; exact hlt
      have hcz := keepc hB (hL.cell hzl)
      obtain ⟨i, hi, hin⟩ : ∃ i : Nat, zs[no] = (i : Int) ∧ i < n := by
        have hm : zs[no] ∈ ((List.range n).filter (Mt U a b c d)).map Int.ofNat := hzs ▸ List.getElem_mem hzl
        obtain ⟨i, hi, e⟩ := List.mem_map.1 hm
        exact ⟨i, e.symm, List.mem_range.1 ((List.mem_filter.1 hi).1)⟩
      have hnext := map_take_next (fun z => U (z.toNat * 5)) zs no hzl
      rw [← hos, hi, Int.toNat_natCast] at hnext
      rw [hi] at hcz
      obtain ⟨b', o', rfl, hbl, hc⟩ := h (by omega)
      obtain ⟨j0, -⟩ := box_cells hc hin
      have e0 := keepc hAr.bel j0
      have hii : (i : Int) < (n : Int) := by omega
      have hsz7 := hB.size
      go_wp2_with (refine wpList_li rfl _ _ _ rfl Try.underlying40 w7.heap.size _ no os rfl (hLo.below bel_a) _ [U (i * 5)] 1 _ rfl rfl (one_li (by go_simp)) (by omega) (by omega) (by first | omega | (simp only [World.size_alloc]; omega) | (simp; omega)) ?_; intro g7 c7 w7 ho7 hg7 hgo hlt7)
      go_roundg (nr - no - 1)
      case measure => omega
      case rel => exact ⟨no + 1, no + 1, os ++ [U (i * 5)], by omega, by omega, by go_num, ho7, hnext.symm, rfl, Below.grown (hB.trans (by exact bel_a)) hg7 (by first | omega | (simp; omega)) (fun q e => (hLo.lt q e).1)⟩
    · have hlt1 : ¬ ((no : Int) < (nr : Int)) := by omega
      obtain rfl : no = nr := by omega
      obtain ⟨av, cv, rfl⟩ := hLo.form
      go_wp2
      go_ret
      refine ⟨_, _, _, rfl, os, hLo.base (by omega), ?_, hAr.bel⟩
      rw [hos, List.take_of_length_le (by rw [hL.1]; exact Nat.le_refl _), hzs, List.map_map]
      rfl
end Go.Proofs.Ytbngdlbecdloiaa
