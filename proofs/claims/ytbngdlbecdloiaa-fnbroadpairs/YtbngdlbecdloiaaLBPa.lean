/- The walk of the law of promise 20. -/
import Derived.Test.YtbngdlbecdloiaaDrawBp
import Derived.Test.YtbngdlbecdloiaaBrGm
import Derived.Test.YtbngdlbecdloiaaPqI
import Derived.Test.YtbngdlbecdloiaaBrGo
import Derived.Test.YtbngdlbecdloiaaSpanM
import Derived.Deep.RegionHeld3
import Derived.Deep.DeepCutAuto
set_option maxHeartbeats 16000000
set_option maxRecDepth 20000
namespace Go.Proofs.Ytbngdlbecdloiaa
open Go.RowKit
set_option linter.unusedVariables false
set_option linter.unusedSimpArgs false
theorem bpV_at (U : Nat → Int) : ∀ (l : List (Nat × Nat)) (i x y : Nat), l[i]? = some (x, y) → ofL (bpV U l) (i * 2) = U (x * 5) ∧ ofL (bpV U l) (i * 2 + 1) = U (y * 5)
  | [], i, x, y, h => by simp at h
  | p :: l, 0, x, y, h => by
    simp only [List.getElem?_cons_zero, Option.some.injEq] at h
    subst h
    exact ⟨rfl, rfl⟩
  | p :: l, i + 1, x, y, h => by
    rw [List.getElem?_cons_succ] at h
    have q := bpV_at U l i x y h
    rw [bpV]
    refine ⟨Eq.trans ?_ q.1, Eq.trans ?_ q.2⟩
    · show (U (p.1 * 5) :: U (p.2 * 5) :: bpV U l).getD ((i + 1) * 2) 0 = _
      rw [show (i + 1) * 2 = i * 2 + 1 + 1 by omega, List.getD_cons_succ, List.getD_cons_succ]; rfl
    · show (U (p.1 * 5) :: U (p.2 * 5) :: bpV U l).getD ((i + 1) * 2 + 1) 0 = _
      rw [show (i + 1) * 2 + 1 = i * 2 + 1 + 1 + 1 by omega, List.getD_cons_succ, List.getD_cons_succ]; rfl
theorem mt_self {n i k : Nat} {U : Nat → Int} (h : broadB n U = true) (hi : i < n) (hk : k < n) :
    (bokB (U (i * 5 + 1)) (U (i * 5 + 2)) (U (i * 5 + 3)) (U (i * 5 + 4)) && (bokB (U (k * 5 + 1)) (U (k * 5 + 2)) (U (k * 5 + 3)) (U (k * 5 + 4)) && (leB (U (i * 5 + 1)) (U (i * 5 + 2)) (U (k * 5 + 3)) (U (k * 5 + 4)) && leB (U (k * 5 + 1)) (U (k * 5 + 2)) (U (i * 5 + 3)) (U (i * 5 + 4))))) = Mt U (U (i * 5 + 1)) (U (i * 5 + 2)) (U (i * 5 + 3)) (U (i * 5 + 4)) k := by
  have h1 : bokB (U (i * 5 + 1)) (U (i * 5 + 2)) (U (i * 5 + 3)) (U (i * 5 + 4)) = true := item_box (broad_item h hi)
  have h2 : bokB (U (k * 5 + 1)) (U (k * 5 + 2)) (U (k * 5 + 3)) (U (k * 5 + 4)) = true := item_box (broad_item h hk)
  rw [h1, h2]
  unfold Mt
  rw [Bool.true_and, Bool.true_and, Bool.and_comm]
theorem ask_pair {n i k : Nat} {U : Nat → Int} (h : broadB n U = true) (hi : i < n) (hk : k < n) : Mt U (U (i * 5 + 1)) (U (i * 5 + 2)) (U (i * 5 + 3)) (U (i * 5 + 4)) k = true ↔ U (k * 5) ∈ askL n U (U (i * 5 + 1)) (U (i * 5 + 2)) (U (i * 5 + 3)) (U (i * 5 + 4)) := by
  rw [mem_ask h (item_box (broad_item h hi))]
  constructor
  · intro m; exact ⟨k, hk, m, rfl⟩
  · rintro ⟨j, hj, m, e⟩
    rw [← broad_inj h hj hk e]
    exact m
theorem pair_at {n i k : Nat} {U : Nat → Int} (hi : i < n) (hk : k < n) (hik : i < k) (hm : Mt U (U (i * 5 + 1)) (U (i * 5 + 2)) (U (i * 5 + 3)) (U (i * 5 + 4)) k = true) : (bpL n U n)[(bpL n U i ++ bpOf i (bpK U i k)).length]? = some (i, k) := by
  obtain ⟨r, hr⟩ := bpL_pre n U (i := i + 1) (m := n) (by omega)
  obtain ⟨t, ht⟩ : ∃ t, bpIn n U i = bpK U i (k + 1) ++ t := by
    obtain ⟨d, rfl⟩ : ∃ d, n = k + 1 + d := ⟨n - (k + 1), by omega⟩
    unfold bpIn bpK
    exact ⟨(List.map (k + 1 + ·) (List.range d)).filter _, by rw [List.range_add, List.filter_append]⟩
  have e : bpOf i (bpIn n U i) = bpOf i (bpK U i k) ++ ([(i, k)] ++ bpOf i t) := by
    rw [ht]
    have h1 : bpOf i (bpK U i (k + 1) ++ t) = bpOf i (bpK U i (k + 1)) ++ bpOf i t := by unfold bpOf; rw [List.filter_append, List.map_append]
    rw [h1, bpK_next U hik, if_pos hm, List.append_assoc]
  rw [hr, bpL, e]
  simp only [← List.append_assoc]
  rw [List.getElem?_append_left (by simp), List.getElem?_append_left (by simp), List.getElem?_append_right (Nat.le_refl _)]
  simp
theorem pair_len {n i k : Nat} {U : Nat → Int} (hi : i < n) (hk : k < n) (hik : i < k) (hm : Mt U (U (i * 5 + 1)) (U (i * 5 + 2)) (U (i * 5 + 3)) (U (i * 5 + 4)) k = true) : (bpL n U i ++ bpOf i (bpK U i k)).length < (bpL n U n).length := (List.getElem?_eq_some_iff.1 (pair_at hi hk hik hm)).1
set_option maxRecDepth 20000 in
set_option maxHeartbeats 8000000 in
theorem fnBroadPairs_walk (ac : Option Addr) (len cap : Nat) (w : World) (hb : Bytes w ac len cap) :
    Calls Try.prog 5 #[.slice ac len cap] w fun e w' => e = .returned (.bool true) ∧ Below w.heap.size w w' := by
  have hset := cset_map
  by_cases hlen : 1048576 < len
  · have hl : (1048576 : Int) < (len : Int) := by omega
    go_enter Try.func5, Try.ntmps5
    go_wp2_with fail
    go_ret
    exact ⟨rfl, Below.refl _ _⟩
  have hl : ¬ (1048576 : Int) < (len : Int) := by omega
  go_enter Try.func5, Try.ntmps5
  go_upto_region 3 with fail
  go_cut [3] (fun s3 wc => ∃ (bb : Nat) (a : Option Addr) (n c : Nat) (U : Nat → Int), s3 = .pointer (some ⟨bb, 0, none⟩) ∧ n ≤ 25 ∧ Below w.heap.size w wc ∧ Blk wc bb #[.slice a n c] 25 ∧ OwnL wc w.heap.size 31 5 (.slice a n c) n U)
  case first =>
    go_wp2_with (go_at_call 22; refine (drawBroadPairs_k _ _ _ _ hb).mono ?_; rintro e w1 ⟨a, n, c, U, rfl, hn, hb1, hO1⟩)
    go_meet
    exact ⟨_, a, n, c, U, rfl, hn, hb1.alloc hb1.size _, Blk.new _ _ _, hO1.al _⟩
  case rest =>
  obtain ⟨bb, a, n, c, U, rfl, hn, bel, hA, hO⟩ := hcut
  have hAc0 := hA.cell 0 rfl
  obtain ⟨J, hJ0⟩ : ∃ j, bpN n U = j := ⟨_, rfl⟩
  have hJ5 : J ≤ 576 := by have := bpN_le n U; omega
  have hJ : Shut (bpN n U = J) := hJ0
  clear hJ0
  obtain ⟨V, hV0⟩ : ∃ v, v = ofL (bpT n U) := ⟨_, rfl⟩
  have hV : Shut (V = ofL (bpT n U)) := hV0
  clear hV0
  obtain ⟨OK, hOK0⟩ : ∃ b, broadB n U = b := ⟨_, rfl⟩
  have hOK : Shut (broadB n U = OK) := hOK0
  clear hOK0
  go_upto_region 4 with fail
  go_cut [4] (fun s wc => ∃ (a1 : Option Addr) (c1 : Nat), s = .slice a1 J c1 ∧ Below w.heap.size w wc ∧ Blk wc bb #[.slice a n c] 25 ∧ OwnL wc w.heap.size 31 5 (.slice a n c) n U ∧ OwnL wc w.heap.size 48 2 (.slice a1 J c1) J V)
  case first =>
    go_wp2_with (go_at_call 20; refine (pairs_i a n c U J V _ hO.flat (by omega) hJ.out hV.out).mono ?_; rintro e w1 ⟨a1, c1, rfl, hOu⟩)
    go_meet
    have bz := hOu.bel
    exact ⟨a1, c1, rfl, bel.trans (bz.mono bel.size), hA.on bz, hO.below bz, hOu.own.base bel.size⟩
  case rest =>
  clear bel hA hO hAc0
  obtain ⟨a1, c1, rfl, bel, hA, hO, hL⟩ := hcut
  have hAc0 := hA.cell 0 rfl
  go_upto_region 5 with fail
  go_cut [26] (fun s wc => s = .bool (!OK) ∧ Below w.heap.size w wc ∧ Blk wc bb #[.slice a n c] 25 ∧ OwnL wc w.heap.size 31 5 (.slice a n c) n U ∧ OwnL wc w.heap.size 48 2 (.slice a1 J c1) J V)
  case first =>
    go_wp2_with (first
      | (have _ := hb3; go_at_call 14; refine (sBroadOk_q a n c U OK _ (hO.below b3).flat (by omega) hOK.out).mono ?_; rintro e w4 ⟨rfl, hb4⟩; have b4 := b3.trans (hb4.mono b3.size))
      | (have _ := hb2; go_at_call 21; refine (pqPairs_eq a1 a2 J _ _ V _ (hL.below hb2).flat hO2.own.flat (by omega)).mono ?_; rintro e w3 ⟨rfl, hb3⟩; have b3 := hb2.trans (hb3.mono hb2.size); have x3 := (hA.on b3).cell 0 rfl)
      | (go_at_call 23; refine (pairs_s a n c U J V _ hO.flat (by omega) hJ.out hV.out).mono ?_; rintro e w2 ⟨a2, c2, rfl, hO2⟩; have hb2 := hO2.bel; have x2 := (hA.on hb2).cell 0 rfl))
    go_meet
    exact ⟨by simp, bel.trans (b4.mono bel.size), hA.on b4, hO.below b4, hL.below b4⟩
  case rest =>
  clear bel hA hO hL hAc0
  obtain ⟨rfl, bel, hA, hO, hL⟩ := hcut
  have hAc0 := hA.cell 0 rfl
  cases OK with
  | false =>
    go_wp2_with (first
      | (have _ := hb2; go_at_call 21; refine (pqPairs_eq a1 a2 J _ _ V _ (hL.below hb2).flat hO2.own.flat (by omega)).mono ?_; rintro e w3 ⟨rfl, hb3⟩; have b3 := hb2.trans (hb3.mono hb2.size); have x3 := (hA.on b3).cell 0 rfl)
      | (go_at_call 23; refine (pairs_s a n c U J V _ hO.flat (by omega) hJ.out hV.out).mono ?_; rintro e w2 ⟨a2, c2, rfl, hO2⟩; have hb2 := hO2.bel; have x2 := (hA.on hb2).cell 0 rfl))
    go_ret
    exact ⟨rfl, bel.trans (b3.mono bel.size)⟩
  | true =>
    have hok := hOK.out
    have h24 := broad_le hok
    have hJL : Shut ((bpL n U n).length = J) := by have h := hJ.out; unfold bpN at h; rw [hok] at h; exact h
    have hVL : Shut (V = ofL (bpV U (bpL n U n))) := by have h := hV.out; unfold bpT at h; rw [hok] at h; exact h
    clear hJ hV
    have hOK' : Shut (broadB n U = true) := hOK
    clear hOK hok
    go_wp2_with fail
    go_loopw [5, 6, 7, 8, 9] (fun s5 s6 _ _ _ wr => ∃ i : Nat, i ≤ n ∧ s5 = .int .i64 ((bpL n U i).length : Int) ∧ s6 = .int .i64 (i : Int) ∧ Below w.heap.size w wr ∧ Blk wr bb #[.slice a n c] 25 ∧ OwnL wr w.heap.size 31 5 (.slice a n c) n U ∧ OwnL wr w.heap.size 48 2 (.slice a1 J c1) J V) (fun _ s6 _ _ _ _ => n - (intOf s6).toNat)
    case atStart => exact ⟨0, Nat.zero_le _, rfl, rfl, bel, hA, hO, hL⟩
    case round =>
      clear bel hA hO hL hAc0
      obtain ⟨i, hi, rfl, rfl, bel, hA, hO, hL⟩ := hrel
      have hAc0 := hA.cell 0 rfl
      by_cases hlt : i < n
      · have hil : (i : Int) < (n : Int) := by omega
        obtain ⟨g, rfl, hg1, hg2⟩ := hO.loc (by omega)
        clear hg2
        have u1 := hO.cellq (q := i * 5 + 1) (by omega)
        have u2 := hO.cellq (q := i * 5 + 2) (by omega)
        have u3 := hO.cellq (q := i * 5 + 3) (by omega)
        have u4 := hO.cellq (q := i * 5 + 4) (by omega)
        obtain ⟨L, hL0⟩ : ∃ L, askL n U (U (i * 5 + 1)) (U (i * 5 + 2)) (U (i * 5 + 3)) (U (i * 5 + 4)) = L := ⟨_, rfl⟩
        obtain ⟨KN, hK0⟩ : ∃ K, (askL n U (U (i * 5 + 1)) (U (i * 5 + 2)) (U (i * 5 + 3)) (U (i * 5 + 4))).length = K := ⟨_, rfl⟩
        have hKb : KN ≤ 25 := by have := askL_len n U (U (i * 5 + 1)) (U (i * 5 + 2)) (U (i * 5 + 3)) (U (i * 5 + 4)); omega
        have hKN : Shut ((askL n U (U (i * 5 + 1)) (U (i * 5 + 2)) (U (i * 5 + 3)) (U (i * 5 + 4))).length = KN) := hK0
        obtain ⟨W, hW0⟩ : ∃ W, W = ofL (askL n U (U (i * 5 + 1)) (U (i * 5 + 2)) (U (i * 5 + 3)) (U (i * 5 + 4))) := ⟨_, rfl⟩
        have hW : Shut (W = ofL (askL n U (U (i * 5 + 1)) (U (i * 5 + 2)) (U (i * 5 + 3)) (U (i * 5 + 4)))) := hW0
        clear hL0 hK0 hW0
        go_upto_region 11 with fail
        go_cut [7] (fun s wc => ∃ (am : Option Addr) (cm : Nat), s = .slice am KN cm ∧ Below w.heap.size w wc ∧ Blk wc bb #[.slice (some ⟨g, 0, none⟩) n c] 25 ∧ OwnL wc w.heap.size 31 5 (.slice (some ⟨g, 0, none⟩) n c) n U ∧ OwnL wc w.heap.size 48 2 (.slice a1 J c1) J V ∧ OwnL wc w.heap.size 3 1 (.slice am KN cm) KN W)
        case first =>
          refine wp_region_held_drew (S := fun w' => w'.cell? ⟨bb, 0, none⟩ = some (.slice (some ⟨g, 0, none⟩) n c) ∧ w'.cell? ⟨g, i * 5 + 1, none⟩ = some (.int .i64 (U (i * 5 + 1))) ∧ w'.cell? ⟨g, i * 5 + 2, none⟩ = some (.int .i64 (U (i * 5 + 2))) ∧ w'.cell? ⟨g, i * 5 + 3, none⟩ = some (.int .i64 (U (i * 5 + 3))) ∧ w'.cell? ⟨g, i * 5 + 4, none⟩ = some (.int .i64 (U (i * 5 + 4)))) (by kernel_rfl) ?_ (fun hHeld => ?_)
          · (try dsimp only)
            (first | (go_simp; done) | (go_keep; done))
          refine tq 0 hHeld ?_
          refine tq 1 hHeld ?_
          refine tq 2 hHeld ?_
          refine tq 3 hHeld ?_
          refine tq 4 hHeld ?_
          refine tq 5 hHeld ?_
          refine tq 6 hHeld ?_
          refine tc 7 fun K hK => ?_
          (go_simp
           have bz := (Below.refl wr.heap.size wr).drew
           (go_at_call 17; refine (ask_i (some ⟨g, 0, none⟩) n c U (U (i * 5 + 1)) (U (i * 5 + 2)) (U (i * 5 + 3)) (U (i * 5 + 4)) KN W _ (by exact (hO.below bz).flat) (by omega) hKN.out hW.out).mono ?_; rintro e w7 ⟨am, cm, rfl, hO7⟩)
           have hb7 := hO7.bel
           have hT7 := hO7.own.base (B := w.heap.size) (by have := bel.size; have := bz.size; omega)
           replace bz := bz.trans (hb7.mono bz.size)
           clear hAc0 u1 u2 u3 u4
           have hAc0 := (hA.on bz).cell 0 rfl
           have u1 := (hO.below bz).cellq (q := i * 5 + 1) (by omega)
           have u2 := (hO.below bz).cellq (q := i * 5 + 2) (by omega)
           have u3 := (hO.below bz).cellq (q := i * 5 + 3) (by omega)
           have u4 := (hO.below bz).cellq (q := i * 5 + 4) (by omega)
           (try go_wp2_with fail)
           refine tr hK (fun hHeld => ?_)
           clear hK K)
          refine tq 8 hHeld ?_
          refine wpAnyH_done (by kernel_rfl) ?_ _
          go_wp2_with fail
          go_meet
          exact ⟨am, cm, rfl, bel.trans (bz.mono bel.size), hA.on bz, hO.below bz, hL.below bz, hT7⟩
        case rest =>
        clear bel hA hO hL hAc0 u1 u2 u3 u4
        obtain ⟨am, cm, rfl, bel, hA, hO, hL, hT⟩ := hcut
        have hAc0 := hA.cell 0 rfl
        go_wp2_with fail
        go_loopw [5, 8, 9] (fun s5 s8 _ wr => ∃ k : Nat, i < k ∧ k ≤ n ∧ s5 = .int .i64 ((bpL n U i ++ bpOf i (bpK U i k)).length : Int) ∧ s8 = .int .i64 (k : Int) ∧ Below w.heap.size w wr ∧ Blk wr bb #[.slice (some ⟨g, 0, none⟩) n c] 25 ∧ OwnL wr w.heap.size 31 5 (.slice (some ⟨g, 0, none⟩) n c) n U ∧ OwnL wr w.heap.size 48 2 (.slice a1 J c1) J V ∧ OwnL wr w.heap.size 3 1 (.slice am KN cm) KN W) (fun _ s8 _ _ => n - (intOf s8).toNat)
        case atStart => exact ⟨i + 1, by omega, by omega, by rw [bpK_0 U i (i + 1) (by omega), List.append_nil], by go_num, bel, hA, hO, hL, hT⟩
        case round =>
          clear bel hA hO hL hT hAc0
          obtain ⟨k, hik, hkn, rfl, rfl, bel, hA, hO, hL, hT⟩ := hrel
          have hAc0 := hA.cell 0 rfl
          by_cases hlk : k < n
          · have hkl : (k : Int) < (n : Int) := by omega
            have u1 := hO.cellq (q := i * 5 + 1) (by omega)
            have u2 := hO.cellq (q := i * 5 + 2) (by omega)
            have u3 := hO.cellq (q := i * 5 + 3) (by omega)
            have u4 := hO.cellq (q := i * 5 + 4) (by omega)
            have k0 := hO.cellq (q := k * 5) (by omega)
            have k1 := hO.cellq (q := k * 5 + 1) (by omega)
            have k2 := hO.cellq (q := k * 5 + 2) (by omega)
            have k3 := hO.cellq (q := k * 5 + 3) (by omega)
            have k4 := hO.cellq (q := k * 5 + 4) (by omega)
            have i0 := hO.cellq (q := i * 5) (by omega)
            obtain ⟨MB, hMB⟩ : ∃ b, Mt U (U (i * 5 + 1)) (U (i * 5 + 2)) (U (i * 5 + 3)) (U (i * 5 + 4)) k = b := ⟨_, rfl⟩
            have hM : Shut (Mt U (U (i * 5 + 1)) (U (i * 5 + 2)) (U (i * 5 + 3)) (U (i * 5 + 4)) k = MB) := hMB
            have hMe0 := mt_self hOK'.out hlt hlk
            rw [hMB] at hMe0
            have hMe : Shut (_ = MB) := hMe0
            clear hMe0 hMB
            obtain ⟨N5, hN0⟩ : ∃ x, (bpL n U i ++ bpOf i (bpK U i k)).length = x := ⟨_, rfl⟩
            rw [hN0]
            have hN5 : Shut ((bpL n U i ++ bpOf i (bpK U i k)).length = N5) := hN0
            clear hN0
            go_upto_region 15 with fail
            go_cut [9] (fun s wc => s = .bool MB ∧ Below w.heap.size w wc ∧ Blk wc bb #[.slice (some ⟨g, 0, none⟩) n c] 25 ∧ OwnL wc w.heap.size 31 5 (.slice (some ⟨g, 0, none⟩) n c) n U ∧ OwnL wc w.heap.size 48 2 (.slice a1 J c1) J V ∧ OwnL wc w.heap.size 3 1 (.slice am KN cm) KN W)
            case first =>
              refine wp_region_held_drew (S := fun w' => w'.cell? ⟨bb, 0, none⟩ = some (.slice (some ⟨g, 0, none⟩) n c) ∧ w'.cell? ⟨g, i * 5 + 1, none⟩ = some (.int .i64 (U (i * 5 + 1))) ∧ w'.cell? ⟨g, i * 5 + 2, none⟩ = some (.int .i64 (U (i * 5 + 2))) ∧ w'.cell? ⟨g, i * 5 + 3, none⟩ = some (.int .i64 (U (i * 5 + 3))) ∧ w'.cell? ⟨g, i * 5 + 4, none⟩ = some (.int .i64 (U (i * 5 + 4))) ∧ w'.cell? ⟨g, k * 5 + 1, none⟩ = some (.int .i64 (U (k * 5 + 1))) ∧ w'.cell? ⟨g, k * 5 + 2, none⟩ = some (.int .i64 (U (k * 5 + 2))) ∧ w'.cell? ⟨g, k * 5 + 3, none⟩ = some (.int .i64 (U (k * 5 + 3))) ∧ w'.cell? ⟨g, k * 5 + 4, none⟩ = some (.int .i64 (U (k * 5 + 4)))) (by kernel_rfl) ?_ (fun hHeld => ?_)
              · (try dsimp only)
                (first | (go_simp; done) | (go_keep; done))
              refine tq 0 hHeld ?_
              refine tq 1 hHeld ?_
              refine tq 2 hHeld ?_
              refine tq 3 hHeld ?_
              refine tq 4 hHeld ?_
              refine tq 5 hHeld ?_
              refine tq 6 hHeld ?_
              refine tq 7 hHeld ?_
              refine tq 8 hHeld ?_
              refine tq 9 hHeld ?_
              refine tq 10 hHeld ?_
              refine tq 11 hHeld ?_
              refine tc 12 fun K hK => ?_
              (go_simp
               have bz := (Below.refl wr.heap.size wr).drew
               (go_at_call 24; refine (boxMeets_any (U (i * 5 + 1)) (U (i * 5 + 2)) (U (i * 5 + 3)) (U (i * 5 + 4)) (U (k * 5 + 1)) (U (k * 5 + 2)) (U (k * 5 + 3)) (U (k * 5 + 4)) _).mono ?_; rintro e w7 ⟨he7, hb7⟩; rw [hMe.out] at he7; subst he7)
               replace bz := bz.trans (hb7.mono bz.size)
               clear hAc0 u1 u2 u3 u4 k1 k2 k3 k4
               have hAc0 := (hA.on bz).cell 0 rfl
               have u1 := (hO.below bz).cellq (q := i * 5 + 1) (by omega)
               have u2 := (hO.below bz).cellq (q := i * 5 + 2) (by omega)
               have u3 := (hO.below bz).cellq (q := i * 5 + 3) (by omega)
               have u4 := (hO.below bz).cellq (q := i * 5 + 4) (by omega)
               have k1 := (hO.below bz).cellq (q := k * 5 + 1) (by omega)
               have k2 := (hO.below bz).cellq (q := k * 5 + 2) (by omega)
               have k3 := (hO.below bz).cellq (q := k * 5 + 3) (by omega)
               have k4 := (hO.below bz).cellq (q := k * 5 + 4) (by omega)
               (try go_wp2_with fail)
               refine tr hK (fun hHeld => ?_)
               clear hK K)
              refine tq 13 hHeld ?_
              refine wpAnyH_done (by kernel_rfl) ?_ _
              go_wp2_with fail
              go_meet
              exact ⟨rfl, bel.trans (bz.mono bel.size), hA.on bz, hO.below bz, hL.below bz, hT.below bz⟩
            case rest =>
            clear bel hA hO hL hT hAc0 u1 u2 u3 u4 k0 k1 k2 k3 k4 i0 hMe
            obtain ⟨rfl, bel, hA, hO, hL, hT⟩ := hcut
            have hAc0 := hA.cell 0 rfl
            have k0 := hO.cellq (q := k * 5) (by omega)
            have hMM : (MB != MB) = false := by simp
            have hW5 : MB = true ↔ ∃ q, q < KN ∧ W q = U (k * 5) := by
              rw [← hKN.out, hW.out, ofL_has, ← ask_pair hOK'.out hlt hlk, hM.out]
            have hWS : Shut (MB = true ↔ ∃ q, q < KN ∧ W q = U (k * 5)) := hW5
            clear hW5
            go_upto_region 16 with fail
            go_cut [77] (fun s wc => s = .bool false ∧ Below w.heap.size w wc ∧ Blk wc bb #[.slice (some ⟨g, 0, none⟩) n c] 25 ∧ OwnL wc w.heap.size 31 5 (.slice (some ⟨g, 0, none⟩) n c) n U ∧ OwnL wc w.heap.size 48 2 (.slice a1 J c1) J V ∧ OwnL wc w.heap.size 3 1 (.slice am KN cm) KN W)
            case first =>
              go_wp2_with (go_at_call 16; refine (pqHas_eq am KN cm W (U (k * 5)) MB _ hT.flat (by omega) hWS.out).mono ?_; rintro e w6 ⟨rfl, hb6⟩)
              go_meet
              exact ⟨by simp, bel.trans (hb6.mono bel.size), hA.on hb6, hO.below hb6, hL.below hb6, hT.below hb6⟩
            case rest =>
            clear bel hA hO hL hT hAc0 k0 hWS hMM
            obtain ⟨rfl, bel, hA, hO, hL, hT⟩ := hcut
            have hAc0 := hA.cell 0 rfl
            cases MB with
            | false =>
              have hnx : (bpL n U i ++ bpOf i (bpK U i (k + 1))).length = N5 := by rw [bpK_next U hik, hM.out]; rw [if_neg (by decide), List.append_nil]; exact hN5.out
              go_wp2_with fail
              go_roundw
              case rel => exact ⟨k + 1, by omega, by omega, by rw [hnx], by go_num, bel, hA, hO, hL, hT⟩
              case measure => simp [intOf]; omega
            | true =>
              have hNJ : N5 < J := by have h := pair_len hlt hlk hik hM.out; rw [hN5.out, hJL.out] at h; exact h
              have hNi : (N5 : Int) < (J : Int) := by omega
              have hNg : ¬ (J : Int) ≤ (N5 : Int) := by omega
              have hnx : (bpL n U i ++ bpOf i (bpK U i (k + 1))).length = N5 + 1 := by rw [bpK_next U hik, hM.out, if_pos rfl, ← List.append_assoc, List.length_append, hN5.out]; rfl
              obtain ⟨v0, v1⟩ := bpV_at U (bpL n U n) N5 i k (by rw [← hN5.out]; exact pair_at hlt hlk hik hM.out)
              rw [← hVL.out] at v0 v1
              obtain ⟨pb, rfl, hp1, hp2⟩ := hL.loc (by omega)
              clear hp2
              have p0 := hL.cellq (q := N5 * 2) (by omega)
              have p1 := hL.cellq (q := N5 * 2 + 1) (by omega)
              rw [v0] at p0
              rw [v1] at p1
              clear v0 v1
              have i0 := hO.cellq (q := i * 5) (by omega)
              have k0 := hO.cellq (q := k * 5) (by omega)
              have hev := eq_pair0 (U (i * 5)) (U (k * 5)) (U (i * 5)) (U (k * 5))
              have hbe : (U (i * 5) == U (i * 5) && U (k * 5) == U (k * 5)) = true := by simp
              rw [hbe] at hev
              clear hbe
              go_upto_region 19 with fail
              refine wp_region_held_drew (S := fun w' => w'.cell? ⟨bb, 0, none⟩ = some (.slice (some ⟨g, 0, none⟩) n c) ∧ w'.cell? ⟨g, i * 5, none⟩ = some (.int .i64 (U (i * 5))) ∧ w'.cell? ⟨g, k * 5, none⟩ = some (.int .i64 (U (k * 5))) ∧ w'.cell? ⟨pb, N5 * 2, none⟩ = some (.int .i64 (U (i * 5))) ∧ w'.cell? ⟨pb, N5 * 2 + 1, none⟩ = some (.int .i64 (U (k * 5)))) (by kernel_rfl) ?_ (fun hHeld => ?_)
              · (try dsimp only)
                (first | (go_simp; done) | (go_keep; done))
              refine tq 0 hHeld ?_
              refine tq 1 hHeld ?_
              refine tq 2 hHeld ?_
              refine tq 3 hHeld ?_
              refine tq 4 hHeld ?_
              refine tq 5 hHeld ?_
              refine tq 6 hHeld ?_
              refine tq 7 hHeld ?_
              refine tq 8 hHeld ?_
              refine tq 9 hHeld ?_
              refine tq 10 hHeld ?_
              refine tq 11 hHeld ?_
              refine tq 12 hHeld ?_
              refine tq 13 hHeld ?_
              refine tq 14 hHeld ?_
              refine tq 15 hHeld ?_
              refine tq 16 hHeld ?_
              refine tq 17 hHeld ?_
              refine tq 18 hHeld ?_
              refine tq 19 hHeld ?_
              refine tq 20 hHeld ?_
              refine tq 21 hHeld ?_
              refine tq 22 hHeld ?_
              refine tq 23 hHeld ?_
              refine wpAnyH_done (by kernel_rfl) ?_ _
              go_wp2_with fail
              have bz := (Below.refl wc.heap.size wc).drew
              go_roundw
              case rel => exact ⟨k + 1, by omega, by omega, by rw [hnx]; go_num, by go_num, bel.trans (bz.mono bel.size), hA.on bz, hO.below bz, hL.below bz, hT.below bz⟩
              case measure => simp [intOf]; omega
          · obtain rfl : k = n := by omega
            have hnx : bpL k U (i + 1) = bpL k U i ++ bpOf i (bpK U i k) := rfl
            go_wp2_with fail
            go_roundw
            case rel => exact ⟨i + 1, by omega, by rw [hnx], by go_num, bel, hA, hO, hL⟩
            case measure => simp [intOf]; omega
      · obtain rfl : i = n := by omega
        have hJ' := hJL.out
        rw [hJ']
        have hJe : ((J : Int) == (J : Int)) = true := by simp
        go_wp2_with fail
        go_ret
        exact ⟨by simp, bel⟩
end Go.Proofs.Ytbngdlbecdloiaa
