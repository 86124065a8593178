/- The walk of the law of promise 21. -/
import Derived.Test.YtbngdlbecdloiaaDrawBa
import Derived.Test.YtbngdlbecdloiaaB40
import Derived.Test.YtbngdlbecdloiaaPqI
import Derived.Test.YtbngdlbecdloiaaBrGo
import Derived.Test.YtbngdlbecdloiaaSpanB
import Derived.Deep.RegionHeld3
import Derived.Deep.DeepCutAuto
set_option maxHeartbeats 16000000
set_option maxRecDepth 20000
namespace Go.Proofs.Ytbngdlbecdloiaa
open Go.RowKit
set_option linter.unusedVariables false
set_option linter.unusedSimpArgs false
theorem both_okA {a b c d r s t u : Int} (h1 : bokB a b c d = true) (h2 : bokB r s t u = true) : bokB (mn a r) (mn b s) (mx c t) (mx d u) = true := by
  unfold bokB vokB leB at *
  simp only [Bool.and_eq_true, decide_eq_true_eq] at *
  unfold mn mx
  repeat' split
  all_goals omega
theorem ask_more {n : Nat} {U : Nat → Int} {a b c d r s t u z : Int} (h : broadB n U = true) (h1 : bokB a b c d = true) (h2 : bokB r s t u = true) (hz : z ∈ askL n U a b c d) : z ∈ askL n U (mn a r) (mn b s) (mx c t) (mx d u) := by
  obtain ⟨i, hi, hm, e⟩ := (mem_ask h h1).1 hz
  refine (mem_ask h (both_okA h1 h2)).2 ⟨i, hi, ?_, e⟩
  unfold Mt leB at *
  simp only [Bool.and_eq_true, decide_eq_true_eq] at *
  have l1 : mn a r ≤ a := by unfold mn; split <;> omega
  have l2 : mn b s ≤ b := by unfold mn; split <;> omega
  have l3 : c ≤ mx c t := by unfold mx; split <;> omega
  have l4 : d ≤ mx d u := by unfold mx; split <;> omega
  omega
theorem ask_up {n : Nat} {U : Nat → Int} {a b c d : Int} (h : broadB n U = true) (h1 : bokB a b c d = true) {j : Nat} (hj : j + 1 < (askL n U a b c d).length) : ofL (askL n U a b c d) j < ofL (askL n U a b c d) (j + 1) := by
  have hp : (askL n U a b c d).Pairwise (· < ·) := by
    unfold askL
    rw [h, h1]
    show (List.map _ _).Pairwise _
    rw [List.pairwise_map]
    refine List.Pairwise.imp_of_mem ?_ (List.Pairwise.filter _ (List.pairwise_lt_range (n := n)))
    intro i k _ hk l
    have hk' := List.mem_range.1 (List.mem_filter.1 hk).1
    exact broad_asc h l hk'
  have gd : ∀ {q : Nat} (hq : q < (askL n U a b c d).length), ofL (askL n U a b c d) q = (askL n U a b c d)[q] := fun {q} hq => by unfold ofL; rw [List.getD_eq_getElem?_getD, List.getElem?_eq_getElem hq]; rfl
  rw [gd (by omega), gd hj]
  exact List.pairwise_iff_getElem.1 hp j (j + 1) (by omega) hj (by omega)
set_option maxRecDepth 20000 in
set_option maxHeartbeats 8000000 in
theorem fnBroadAsk_walk (ac : Option Addr) (len cap : Nat) (ac1 : Option Addr) (len1 cap1 : Nat) (w : World) (hb : Bytes w ac len cap) (hb' : Bytes w ac1 len1 cap1) :
    Calls Try.prog 6 #[.slice ac len cap, .slice ac1 len1 cap1] w fun e w' => e = .returned (.bool true) ∧ Below w.heap.size w w' := by
  have hset := cset_map
  by_cases hlen : 1048576 < len
  · have hl : (1048576 : Int) < (len : Int) := by omega
    go_enter Try.func6, Try.ntmps6
    go_wp2_with fail
    go_ret
    exact ⟨rfl, Below.refl _ _⟩
  have hl : ¬ (1048576 : Int) < (len : Int) := by omega
  by_cases hlen1 : 1048576 < len1
  · have hl1 : (1048576 : Int) < (len1 : Int) := by omega
    go_enter Try.func6, Try.ntmps6
    go_wp2_with fail
    go_ret
    exact ⟨rfl, Below.refl _ _⟩
  have hl1 : ¬ (1048576 : Int) < (len1 : Int) := by omega
  go_enter Try.func6, Try.ntmps6
  go_upto_region 3 with fail
  go_cut [5, 6] (fun s5 s6 wc => ∃ (bb xb : Nat) (a : Option Addr) (n c : Nat) (U : Nat → Int) (x y u v : Int), s5 = .pointer (some ⟨bb, 0, none⟩) ∧ s6 = .pointer (some ⟨xb, 0, none⟩) ∧ n ≤ 25 ∧ Below w.heap.size w wc ∧ Blk wc bb #[.slice a n c] 25 ∧ Blk wc xb #[.int .i64 x, .int .i64 y, .int .i64 u, .int .i64 v] 29 ∧ OwnL wc w.heap.size 31 5 (.slice a n c) n U)
  case first =>
    go_wp2_with (go_at_call 25; refine (drawBroadAsk_k _ _ _ _ hb).mono ?_; rintro e w1 ⟨a, n, c, U, x, y, u, v, rfl, hn, hb1, hO1⟩)
    go_meet
    have q1 := Blk.new w1 #[.slice a n c] 25
    have q2 := Blk.new (w1.alloc (.cells #[.slice a n c] 25)) #[.int .i64 x, .int .i64 y, .int .i64 u, .int .i64 v] 29
    rw [show (w1.alloc (.cells #[.slice a n c] 25)).heap.size = w1.heap.size + 1 by simp] at q2
    exact ⟨_, _, a, n, c, U, x, y, u, v, rfl, rfl, hn, (hb1.alloc hb1.size _).alloc (by simp; have := hb1.size; omega) _, q1.al _, q2, (hO1.al _).al _⟩
  case rest =>
  obtain ⟨bb, xb, a, n, c, U, x, y, u, v, rfl, rfl, hn, bel, hA, hB, hO⟩ := hcut
  have hAc0 := hA.cell 0 rfl
  have hBc0 := hB.cell 0 rfl
  have hBc1 := hB.cell 1 rfl
  have hBc2 := hB.cell 2 rfl
  have hBc3 := hB.cell 3 rfl
  obtain ⟨K1, hK10⟩ : ∃ k, (askL n U x y u v).length = k := ⟨_, rfl⟩
  have hKb1 : K1 ≤ 25 := by have := askL_len n U x y u v; omega
  have hK1 : Shut ((askL n U x y u v).length = K1) := hK10
  clear hK10
  obtain ⟨W1, hW10⟩ : ∃ k, k = ofL (askL n U x y u v) := ⟨_, rfl⟩
  have hW1 : Shut (W1 = ofL (askL n U x y u v)) := hW10
  clear hW10
  go_upto_region 4 with fail
  go_cut [7] (fun s wc => ∃ (a1 : Option Addr) (c1 : Nat), s = .slice a1 K1 c1 ∧ Below w.heap.size w wc ∧ Blk wc bb #[.slice a n c] 25 ∧ Blk wc xb #[.int .i64 x, .int .i64 y, .int .i64 u, .int .i64 v] 29 ∧ OwnL wc w.heap.size 31 5 (.slice a n c) n U ∧ OwnL wc w.heap.size 3 1 (.slice a1 K1 c1) K1 W1)
  case first =>
    go_wp2_with (go_at_call 17; refine (ask_i a n c U x y u v K1 W1 _ hO.flat (by omega) hK1.out hW1.out).mono ?_; rintro e w1 ⟨a1, c1, rfl, hOu⟩)
    go_meet
    have bz := hOu.bel
    exact ⟨a1, c1, rfl, bel.trans (bz.mono bel.size), hA.on bz, hB.on bz, hO.below bz, hOu.own.base bel.size⟩
  case rest =>
  clear bel hA hB hO hAc0 hBc0 hBc1 hBc2 hBc3
  obtain ⟨a1, c1, rfl, bel, hA, hB, hO, hL⟩ := hcut
  have hAc0 := hA.cell 0 rfl
  have hBc0 := hB.cell 0 rfl
  have hBc1 := hB.cell 1 rfl
  have hBc2 := hB.cell 2 rfl
  have hBc3 := hB.cell 3 rfl
  obtain ⟨OK, hOK0⟩ : ∃ b, broadB n U = b := ⟨_, rfl⟩
  have hOK : Shut (broadB n U = OK) := hOK0
  obtain ⟨XK, hXK0⟩ : ∃ b, bokB x y u v = b := ⟨_, rfl⟩
  have hXK : Shut (bokB x y u v = XK) := hXK0
  clear hOK0 hXK0
  cases OK with
  | false =>
    go_upto_region 6 with (first
      | (have _ := hb3; go_at_call 14; refine (sBroadOk_q a n c U false _ (hO.below b3).flat (by omega) hOK.out).mono ?_; rintro e w4 ⟨rfl, hb4⟩; have b4 := b3.trans (hb4.mono b3.size); have y40 := (hB.on b4).cell 0 rfl; have y41 := (hB.on b4).cell 1 rfl; have y42 := (hB.on b4).cell 2 rfl; have y43 := (hB.on b4).cell 3 rfl)
      | (have _ := hb2; go_at_call 26; refine (pqInts_eq a1 a2 K1 _ _ W1 _ (hL.below hb2).flat hO2.own.flat (by omega)).mono ?_; rintro e w3 ⟨rfl, hb3⟩; have b3 := hb2.trans (hb3.mono hb2.size); have x3 := (hA.on b3).cell 0 rfl; have y30 := (hB.on b3).cell 0 rfl; have y31 := (hB.on b3).cell 1 rfl; have y32 := (hB.on b3).cell 2 rfl; have y33 := (hB.on b3).cell 3 rfl)
      | (go_at_call 27; refine (ask_s a n c U x y u v K1 W1 _ hO.flat (by omega) hK1.out hW1.out).mono ?_; rintro e w2 ⟨a2, c2, rfl, hO2⟩; have hb2 := hO2.bel; have x2 := (hA.on hb2).cell 0 rfl; have y20 := (hB.on hb2).cell 0 rfl; have y21 := (hB.on hb2).cell 1 rfl; have y22 := (hB.on hb2).cell 2 rfl; have y23 := (hB.on hb2).cell 3 rfl))
    have bel := bel.trans (b4.mono bel.size)
    have hA := hA.on b4
    have hB := hB.on b4
    have hO := hO.below b4
    have hL := hL.below b4
    clear hb2 b3 hb3 b4 hb4 x2 x3 y20 y21 y22 y23 y30 y31 y32 y33 hO2
    have hAc0 := hA.cell 0 rfl
    have hBc0 := hB.cell 0 rfl
    have hBc1 := hB.cell 1 rfl
    have hBc2 := hB.cell 2 rfl
    have hBc3 := hB.cell 3 rfl
    go_wp2_with (first
      | (have _ := hbq; go_at_call 26; refine (pqInts_eq a1 aq K1 _ _ W1 _ (hL.below hbq).flat hOq.own.flat (by omega)).mono ?_; rintro e w3 ⟨rfl, hb3⟩; have b3 := hbq.trans (hb3.mono hbq.size); have x3 := (hA.on b3).cell 0 rfl; have y30 := (hB.on b3).cell 0 rfl; have y31 := (hB.on b3).cell 1 rfl; have y32 := (hB.on b3).cell 2 rfl; have y33 := (hB.on b3).cell 3 rfl)
      | (go_at_call 27; refine (ask_s a n c U x y u v K1 W1 _ hO.flat (by omega) hK1.out hW1.out).mono ?_; rintro e w2 ⟨aq, cq, rfl, hOq⟩; have hbq := hOq.bel; have x2 := (hA.on hbq).cell 0 rfl; have y20 := (hB.on hbq).cell 0 rfl; have y21 := (hB.on hbq).cell 1 rfl; have y22 := (hB.on hbq).cell 2 rfl; have y23 := (hB.on hbq).cell 3 rfl))
    go_ret
    exact ⟨rfl, bel.trans (b3.mono bel.size)⟩
  | true =>
    cases XK with
    | false =>
      go_upto_region 6 with (first
        | (have _ := hb4; go_at_call 28; refine (sBoxOk_qq x y u v false _ hXK.out).mono ?_; rintro e w5 ⟨rfl, hb5⟩; have b5 := b4.trans (hb5.mono b4.size))
        | (have _ := hb3; go_at_call 14; refine (sBroadOk_q a n c U true _ (hO.below b3).flat (by omega) hOK.out).mono ?_; rintro e w4 ⟨rfl, hb4⟩; have b4 := b3.trans (hb4.mono b3.size); have y40 := (hB.on b4).cell 0 rfl; have y41 := (hB.on b4).cell 1 rfl; have y42 := (hB.on b4).cell 2 rfl; have y43 := (hB.on b4).cell 3 rfl)
        | (have _ := hb2; go_at_call 26; refine (pqInts_eq a1 a2 K1 _ _ W1 _ (hL.below hb2).flat hO2.own.flat (by omega)).mono ?_; rintro e w3 ⟨rfl, hb3⟩; have b3 := hb2.trans (hb3.mono hb2.size); have x3 := (hA.on b3).cell 0 rfl; have y30 := (hB.on b3).cell 0 rfl; have y31 := (hB.on b3).cell 1 rfl; have y32 := (hB.on b3).cell 2 rfl; have y33 := (hB.on b3).cell 3 rfl)
        | (go_at_call 27; refine (ask_s a n c U x y u v K1 W1 _ hO.flat (by omega) hK1.out hW1.out).mono ?_; rintro e w2 ⟨a2, c2, rfl, hO2⟩; have hb2 := hO2.bel; have x2 := (hA.on hb2).cell 0 rfl; have y20 := (hB.on hb2).cell 0 rfl; have y21 := (hB.on hb2).cell 1 rfl; have y22 := (hB.on hb2).cell 2 rfl; have y23 := (hB.on hb2).cell 3 rfl))
      have bel := bel.trans (b5.mono bel.size)
      have hA := hA.on b5
      have hB := hB.on b5
      have hO := hO.below b5
      have hL := hL.below b5
      clear hb2 b3 hb3 b4 hb4 x2 x3 y20 y21 y22 y23 y30 y31 y32 y33 hO2
      have hAc0 := hA.cell 0 rfl
      have hBc0 := hB.cell 0 rfl
      have hBc1 := hB.cell 1 rfl
      have hBc2 := hB.cell 2 rfl
      have hBc3 := hB.cell 3 rfl
      go_wp2_with (first
        | (have _ := hbq; go_at_call 26; refine (pqInts_eq a1 aq K1 _ _ W1 _ (hL.below hbq).flat hOq.own.flat (by omega)).mono ?_; rintro e w3 ⟨rfl, hb3⟩; have b3 := hbq.trans (hb3.mono hbq.size); have x3 := (hA.on b3).cell 0 rfl; have y30 := (hB.on b3).cell 0 rfl; have y31 := (hB.on b3).cell 1 rfl; have y32 := (hB.on b3).cell 2 rfl; have y33 := (hB.on b3).cell 3 rfl)
        | (go_at_call 27; refine (ask_s a n c U x y u v K1 W1 _ hO.flat (by omega) hK1.out hW1.out).mono ?_; rintro e w2 ⟨aq, cq, rfl, hOq⟩; have hbq := hOq.bel; have x2 := (hA.on hbq).cell 0 rfl; have y20 := (hB.on hbq).cell 0 rfl; have y21 := (hB.on hbq).cell 1 rfl; have y22 := (hB.on hbq).cell 2 rfl; have y23 := (hB.on hbq).cell 3 rfl))
      go_ret
      exact ⟨rfl, bel.trans (b3.mono bel.size)⟩
    | true =>
      go_upto_region 5 with fail
      go_cut [43] (fun s wc => s = .bool false ∧ Below w.heap.size w wc ∧ Blk wc bb #[.slice a n c] 25 ∧ Blk wc xb #[.int .i64 x, .int .i64 y, .int .i64 u, .int .i64 v] 29 ∧ OwnL wc w.heap.size 31 5 (.slice a n c) n U ∧ OwnL wc w.heap.size 3 1 (.slice a1 K1 c1) K1 W1)
      case first =>
        go_wp2_with (first
          | (have _ := hb4; go_at_call 28; refine (sBoxOk_qq x y u v true _ hXK.out).mono ?_; rintro e w5 ⟨rfl, hb5⟩; have b5 := b4.trans (hb5.mono b4.size))
          | (have _ := hb3; go_at_call 14; refine (sBroadOk_q a n c U true _ (hO.below b3).flat (by omega) hOK.out).mono ?_; rintro e w4 ⟨rfl, hb4⟩; have b4 := b3.trans (hb4.mono b3.size); have y40 := (hB.on b4).cell 0 rfl; have y41 := (hB.on b4).cell 1 rfl; have y42 := (hB.on b4).cell 2 rfl; have y43 := (hB.on b4).cell 3 rfl)
          | (have _ := hb2; go_at_call 26; refine (pqInts_eq a1 a2 K1 _ _ W1 _ (hL.below hb2).flat hO2.own.flat (by omega)).mono ?_; rintro e w3 ⟨rfl, hb3⟩; have b3 := hb2.trans (hb3.mono hb2.size); have x3 := (hA.on b3).cell 0 rfl; have y30 := (hB.on b3).cell 0 rfl; have y31 := (hB.on b3).cell 1 rfl; have y32 := (hB.on b3).cell 2 rfl; have y33 := (hB.on b3).cell 3 rfl)
          | (go_at_call 27; refine (ask_s a n c U x y u v K1 W1 _ hO.flat (by omega) hK1.out hW1.out).mono ?_; rintro e w2 ⟨a2, c2, rfl, hO2⟩; have hb2 := hO2.bel; have x2 := (hA.on hb2).cell 0 rfl; have y20 := (hB.on hb2).cell 0 rfl; have y21 := (hB.on hb2).cell 1 rfl; have y22 := (hB.on hb2).cell 2 rfl; have y23 := (hB.on hb2).cell 3 rfl))
        go_meet
        exact ⟨rfl, bel.trans (b5.mono bel.size), hA.on b5, hB.on b5, hO.below b5, hL.below b5⟩
      case rest =>
      clear bel hA hB hO hL hAc0 hBc0 hBc1 hBc2 hBc3
      obtain ⟨rfl, bel, hA, hB, hO, hL⟩ := hcut
      have hAc0 := hA.cell 0 rfl
      have hBc0 := hB.cell 0 rfl
      have hBc1 := hB.cell 1 rfl
      have hBc2 := hB.cell 2 rfl
      have hBc3 := hB.cell 3 rfl
      go_upto_region 7 with fail
      go_cut [9] (fun s wc => ∃ (db : Nat) (r d1 t q : Int), s = .pointer (some ⟨db, 0, none⟩) ∧ Below w.heap.size w wc ∧ Blk wc bb #[.slice a n c] 25 ∧ Blk wc xb #[.int .i64 x, .int .i64 y, .int .i64 u, .int .i64 v] 29 ∧ Blk wc db #[.int .i64 r, .int .i64 d1, .int .i64 t, .int .i64 q] 29 ∧ OwnL wc w.heap.size 31 5 (.slice a n c) n U ∧ OwnL wc w.heap.size 3 1 (.slice a1 K1 c1) K1 W1)
      case first =>
        go_wp2_with (go_at_call 25; refine (drawBroadAsk_k _ _ _ _ (hb'.below bel)).mono ?_; rintro e w7 ⟨a7, n7, c7, U7, r, d1, t, q, rfl, hn7, hb7, hO7⟩)
        go_meet
        have bz := (hb7.alloc hb7.size (.cells #[.slice a7 n7 c7] 25)).alloc (by simp; have := hb7.size; omega) (.cells #[.int .i64 r, .int .i64 d1, .int .i64 t, .int .i64 q] 29)
        have q2 := Blk.new (w7.alloc (.cells #[.slice a7 n7 c7] 25)) #[.int .i64 r, .int .i64 d1, .int .i64 t, .int .i64 q] 29
        rw [show (w7.alloc (.cells #[.slice a7 n7 c7] 25)).heap.size = w7.heap.size + 1 by simp] at q2
        exact ⟨_, r, d1, t, q, rfl, bel.trans (bz.mono bel.size), hA.on bz, hB.on bz, q2, hO.below bz, hL.below bz⟩
      case rest =>
      clear bel hA hB hO hL hAc0 hBc0 hBc1 hBc2 hBc3
      obtain ⟨db, r, d1, t, q, rfl, bel, hA, hB, hD, hO, hL⟩ := hcut
      have hAc0 := hA.cell 0 rfl
      have hBc0 := hB.cell 0 rfl
      have hBc1 := hB.cell 1 rfl
      have hBc2 := hB.cell 2 rfl
      have hBc3 := hB.cell 3 rfl
      have hDc0 := hD.cell 0 rfl
      have hDc1 := hD.cell 1 rfl
      have hDc2 := hD.cell 2 rfl
      have hDc3 := hD.cell 3 rfl
      obtain ⟨YK, hYK0⟩ : ∃ b, bokB r d1 t q = b := ⟨_, rfl⟩
      have hYK : Shut (bokB r d1 t q = YK) := hYK0
      clear hYK0
      cases YK with
      | false =>
        go_wp2_with (go_at_call 28; refine (sBoxOk_qq r d1 t q false _ hYK.out).mono ?_; rintro e w8 ⟨rfl, hb8⟩)
        go_ret
        exact ⟨rfl, bel.trans (hb8.mono bel.size)⟩
      | true =>
        obtain ⟨K2, hK20⟩ : ∃ k, (askL n U (mn x r) (mn y d1) (mx u t) (mx v q)).length = k := ⟨_, rfl⟩
        have hKb2 : K2 ≤ 25 := by have := askL_len n U (mn x r) (mn y d1) (mx u t) (mx v q); omega
        have hK2 : Shut ((askL n U (mn x r) (mn y d1) (mx u t) (mx v q)).length = K2) := hK20
        clear hK20
        obtain ⟨W2, hW20⟩ : ∃ k, k = ofL (askL n U (mn x r) (mn y d1) (mx u t) (mx v q)) := ⟨_, rfl⟩
        have hW2 : Shut (W2 = ofL (askL n U (mn x r) (mn y d1) (mx u t) (mx v q))) := hW20
        clear hW20
        go_upto_region 8 with fail
        go_cut [56] (fun s wc => s = .bool false ∧ Below w.heap.size w wc ∧ Blk wc bb #[.slice a n c] 25 ∧ Blk wc xb #[.int .i64 x, .int .i64 y, .int .i64 u, .int .i64 v] 29 ∧ Blk wc db #[.int .i64 r, .int .i64 d1, .int .i64 t, .int .i64 q] 29 ∧ OwnL wc w.heap.size 31 5 (.slice a n c) n U ∧ OwnL wc w.heap.size 3 1 (.slice a1 K1 c1) K1 W1)
        case first =>
          go_wp2_with (go_at_call 28; refine (sBoxOk_qq r d1 t q true _ hYK.out).mono ?_; rintro e w8 ⟨rfl, hb8⟩)
          go_meet
          exact ⟨rfl, bel.trans (hb8.mono bel.size), hA.on hb8, hB.on hb8, hD.on hb8, hO.below hb8, hL.below hb8⟩
        case rest =>
        clear bel hA hB hD hO hL hAc0 hBc0 hBc1 hBc2 hBc3 hDc0 hDc1 hDc2 hDc3
        obtain ⟨rfl, bel, hA, hB, hD, hO, hL⟩ := hcut
        have hAc0 := hA.cell 0 rfl
        have hBc0 := hB.cell 0 rfl
        have hBc1 := hB.cell 1 rfl
        have hBc2 := hB.cell 2 rfl
        have hBc3 := hB.cell 3 rfl
        have hDc0 := hD.cell 0 rfl
        have hDc1 := hD.cell 1 rfl
        have hDc2 := hD.cell 2 rfl
        have hDc3 := hD.cell 3 rfl
        go_upto_region 10 with fail
        go_cut [10] (fun s wc => ∃ (a2 : Option Addr) (c2 : Nat), s = .slice a2 K2 c2 ∧ Below w.heap.size w wc ∧ Blk wc bb #[.slice a n c] 25 ∧ Blk wc xb #[.int .i64 x, .int .i64 y, .int .i64 u, .int .i64 v] 29 ∧ Blk wc db #[.int .i64 r, .int .i64 d1, .int .i64 t, .int .i64 q] 29 ∧ OwnL wc w.heap.size 31 5 (.slice a n c) n U ∧ OwnL wc w.heap.size 3 1 (.slice a1 K1 c1) K1 W1 ∧ OwnL wc w.heap.size 3 1 (.slice a2 K2 c2) K2 W2)
        case first =>
          refine wp_region_held_drew (S := fun w' => w'.cell? ⟨bb, 0, none⟩ = some (.slice a n c) ∧ w'.cell? ⟨xb, 0, none⟩ = some (.int .i64 x) ∧ w'.cell? ⟨xb, 1, none⟩ = some (.int .i64 y) ∧ w'.cell? ⟨xb, 2, none⟩ = some (.int .i64 u) ∧ w'.cell? ⟨xb, 3, none⟩ = some (.int .i64 v) ∧ w'.cell? ⟨db, 0, none⟩ = some (.int .i64 r) ∧ w'.cell? ⟨db, 1, none⟩ = some (.int .i64 d1) ∧ w'.cell? ⟨db, 2, none⟩ = some (.int .i64 t) ∧ w'.cell? ⟨db, 3, none⟩ = some (.int .i64 q)) (by kernel_rfl) ?_ (fun hHeld => ?_)
          · (try dsimp only)
            (first | (go_simp; done) | (go_keep; done))
          refine tq 0 hHeld ?_
          refine tq 1 hHeld ?_
          refine tq 2 hHeld ?_
          refine tc 3 fun K hK => ?_
          (go_simp
           have bz := (Below.refl wc.heap.size wc).drew
           (go_at_call 29; refine (both_y x y u v r d1 t q _ hXK.out hYK.out).mono ?_; rintro e w3 ⟨rfl, hb3⟩)
           replace bz := bz.trans (hb3.mono bz.size)
           clear hAc0 hBc0 hBc1 hBc2 hBc3 hDc0 hDc1 hDc2 hDc3
           have hAc0 := (hA.on bz).cell 0 rfl
           have hBc0 := (hB.on bz).cell 0 rfl
           have hBc1 := (hB.on bz).cell 1 rfl
           have hBc2 := (hB.on bz).cell 2 rfl
           have hBc3 := (hB.on bz).cell 3 rfl
           have hDc0 := (hD.on bz).cell 0 rfl
           have hDc1 := (hD.on bz).cell 1 rfl
           have hDc2 := (hD.on bz).cell 2 rfl
           have hDc3 := (hD.on bz).cell 3 rfl
           (try go_wp2_with fail)
           refine tr hK (fun hHeld => ?_)
           clear hK K)
          refine tc 4 fun K hK => ?_
          (go_simp
           (go_at_call 17; refine (ask_i a n c U (mn x r) (mn y d1) (mx u t) (mx v q) K2 W2 _ (by exact (hO.below bz).flat) (by omega) hK2.out hW2.out).mono ?_; rintro e w4 ⟨a2, c2, rfl, hO4⟩; have hM4 := hO4.own.base (B := w.heap.size) (by have := bel.size; have := bz.size; omega))
           have hb4 := hO4.bel
           replace bz := bz.trans (hb4.mono bz.size)
           have hF4 := hO4.own.flat
           clear hAc0 hBc0 hBc1 hBc2 hBc3 hDc0 hDc1 hDc2 hDc3
           have hAc0 := (hA.on bz).cell 0 rfl
           have hBc0 := (hB.on bz).cell 0 rfl
           have hBc1 := (hB.on bz).cell 1 rfl
           have hBc2 := (hB.on bz).cell 2 rfl
           have hBc3 := (hB.on bz).cell 3 rfl
           have hDc0 := (hD.on bz).cell 0 rfl
           have hDc1 := (hD.on bz).cell 1 rfl
           have hDc2 := (hD.on bz).cell 2 rfl
           have hDc3 := (hD.on bz).cell 3 rfl
           (try go_wp2_with fail)
           refine tr hK (fun hHeld => ?_)
           clear hK K)
          refine tq 5 hHeld ?_
          refine wpAnyH_done (by kernel_rfl) ?_ _
          go_wp2_with fail
          go_meet
          exact ⟨a2, c2, rfl, bel.trans (bz.mono bel.size), hA.on bz, hB.on bz, hD.on bz, hO.below bz, hL.below bz, hM4⟩
        case rest =>
        clear bel hA hB hD hO hL hAc0 hBc0 hBc1 hBc2 hBc3 hDc0 hDc1 hDc2 hDc3
        obtain ⟨a2, c2, rfl, bel, hA, hB, hD, hO, hL, hM⟩ := hcut
        have hAc0 := hA.cell 0 rfl
        have hBc0 := hB.cell 0 rfl
        have hBc1 := hB.cell 1 rfl
        have hBc2 := hB.cell 2 rfl
        have hBc3 := hB.cell 3 rfl
        have hDc0 := hD.cell 0 rfl
        have hDc1 := hD.cell 1 rfl
        have hDc2 := hD.cell 2 rfl
        have hDc3 := hD.cell 3 rfl
        go_wp2_with fail
        go_loopw [11] (fun s wr => ∃ i : Nat, i ≤ K1 ∧ s = .int .i64 (i : Int) ∧ Below w.heap.size w wr ∧ Blk wr bb #[.slice a n c] 25 ∧ Blk wr xb #[.int .i64 x, .int .i64 y, .int .i64 u, .int .i64 v] 29 ∧ Blk wr db #[.int .i64 r, .int .i64 d1, .int .i64 t, .int .i64 q] 29 ∧ OwnL wr w.heap.size 31 5 (.slice a n c) n U ∧ OwnL wr w.heap.size 3 1 (.slice a1 K1 c1) K1 W1 ∧ OwnL wr w.heap.size 3 1 (.slice a2 K2 c2) K2 W2) (fun s _ => K1 - (intOf s).toNat)
        case atStart => exact ⟨0, Nat.zero_le _, rfl, bel, hA, hB, hD, hO, hL, hM⟩
        case round =>
          clear bel hA hB hD hO hL hM hAc0 hBc0 hBc1 hBc2 hBc3 hDc0 hDc1 hDc2 hDc3
          obtain ⟨i, hi, rfl, bel, hA, hB, hD, hO, hL, hM⟩ := hrel
          by_cases hlt : i < K1
          · have hil : (i : Int) < (K1 : Int) := by omega
            obtain ⟨lb, rfl, hg1, hg2⟩ := hL.loc (by omega)
            clear hg2
            have l0 := hL.cellq (q := i) (by omega)
            have hHas : Shut (true = true ↔ ∃ z, z < K2 ∧ W2 z = W1 i) := by
              show true = true ↔ _
              rw [← hK2.out, hW2.out, ofL_has]
              simp only [true_iff]
              refine ask_more hOK.out hXK.out hYK.out (ofL_has.1 ⟨i, by rw [hK1.out]; exact hlt, by rw [hW1.out]⟩)
            by_cases h0 : 0 < i
            · have hd0 : decide (0 < i) = true := decide_eq_true h0
              obtain ⟨j, hj⟩ : ∃ j, j + 1 = i := ⟨i - 1, by omega⟩
              have hj' : (i : Int) - 1 = (j : Int) := by omega
              have hwj : IntKind.i64.wrap (j : Int) = (j : Int) := i64w (by omega)
              have hup : W1 j < W1 i := by
                rw [hW1.out, ← hj]
                exact ask_up hOK.out hXK.out (by rw [hK1.out, hj]; exact hlt)
              have hji : j < K1 := by omega
              have hdg : decide (W1 i ≤ W1 j) = false := decide_eq_false (by omega)
              clear hj
              have l1 := hL.cellq (q := j) (by omega)
              go_upto_region 14 with fail
              refine wp_region_held_drew (S := fun w' => w'.cell? ⟨lb, i, none⟩ = some (.int .i64 (W1 i)) ∧ w'.cell? ⟨lb, j, none⟩ = some (.int .i64 (W1 j))) (by kernel_rfl) ?_ (fun hHeld => ?_)
              · (try dsimp only)
                (first | (go_simp; done) | (go_keep; done))
              refine tq 0 hHeld ?_
              refine tq 1 hHeld ?_
              refine tq 2 hHeld ?_
              refine tq 3 hHeld ?_
              refine tq 4 hHeld ?_
              refine tc 5 fun K hK => ?_
              (go_simp
               have bz := (Below.refl wr.heap.size wr).drew
               (go_at_call 16; refine (pqHas_eq a2 K2 c2 W2 (W1 i) true _ (by exact (hM.below bz).flat) (by omega) hHas.out).mono ?_; rintro e w5 ⟨rfl, hb5⟩)
               replace bz := bz.trans (hb5.mono bz.size)
               clear l0 l1
               have l0 := (hL.below bz).cellq (q := i) (by omega)
               have l1 := (hL.below bz).cellq (q := j) (by omega)
               (try go_wp2_with fail)
               refine tr hK (fun hHeld => ?_)
               clear hK K)
              refine tq 6 hHeld ?_
              refine tq 7 hHeld ?_
              refine tq 8 hHeld ?_
              refine tq 9 hHeld ?_
              refine tq 10 hHeld ?_
              refine tq 11 hHeld ?_
              refine tq 12 hHeld ?_
              refine tq 13 hHeld ?_
              refine tq 14 hHeld ?_
              refine tq 15 hHeld ?_
              refine tq 16 hHeld ?_
              refine tq 17 hHeld ?_
              refine tq 18 hHeld ?_
              refine tq 19 hHeld ?_
              refine tq 20 hHeld ?_
              refine tq 21 hHeld ?_
              refine tq 22 hHeld ?_
              refine wpAnyH_done (by kernel_rfl) ?_ _
              go_wp2_with fail
              go_roundw
              case rel => exact ⟨i + 1, by omega, by go_num, bel.trans (bz.mono bel.size), hA.on bz, hB.on bz, hD.on bz, hO.below bz, hL.below bz, hM.below bz⟩
              case measure => simp [intOf]; omega
            · have hd0 : decide (0 < i) = false := decide_eq_false h0
              go_upto_region 14 with fail
              refine wp_region_held_drew (S := fun w' => w'.cell? ⟨lb, i, none⟩ = some (.int .i64 (W1 i))) (by kernel_rfl) ?_ (fun hHeld => ?_)
              · (try dsimp only)
                (first | (go_simp; done) | (go_keep; done))
              refine tq 0 hHeld ?_
              refine tq 1 hHeld ?_
              refine tq 2 hHeld ?_
              refine tq 3 hHeld ?_
              refine tq 4 hHeld ?_
              refine tc 5 fun K hK => ?_
              (go_simp
               have bz := (Below.refl wr.heap.size wr).drew
               (go_at_call 16; refine (pqHas_eq a2 K2 c2 W2 (W1 i) true _ (by exact (hM.below bz).flat) (by omega) hHas.out).mono ?_; rintro e w5 ⟨rfl, hb5⟩)
               replace bz := bz.trans (hb5.mono bz.size)
               clear l0
               have l0 := (hL.below bz).cellq (q := i) (by omega)
               
               (try go_wp2_with fail)
               refine tr hK (fun hHeld => ?_)
               clear hK K)
              refine tq 6 hHeld ?_
              refine tq 7 hHeld ?_
              refine tq 8 hHeld ?_
              refine tq 9 hHeld ?_
              refine tq 10 hHeld ?_
              refine tn 11 hHeld ?_
              refine tn 12 hHeld ?_
              refine tn 13 hHeld ?_
              refine tn 14 hHeld ?_
              refine tn 15 hHeld ?_
              refine tn 16 hHeld ?_
              refine tn 17 hHeld ?_
              refine tn 18 hHeld ?_
              refine tn 19 hHeld ?_
              refine tn 20 hHeld ?_
              refine tq 21 hHeld ?_
              refine tq 22 hHeld ?_
              refine wpAnyH_done (by kernel_rfl) ?_ _
              go_wp2_with fail
              go_roundw
              case rel => exact ⟨i + 1, by omega, by go_num, bel.trans (bz.mono bel.size), hA.on bz, hB.on bz, hD.on bz, hO.below bz, hL.below bz, hM.below bz⟩
              case measure => simp [intOf]; omega
          · obtain rfl : i = K1 := by omega
            go_wp2_with fail
            go_ret
            exact ⟨rfl, bel⟩
end Go.Proofs.Ytbngdlbecdloiaa
