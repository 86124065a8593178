/- The walk of the law of promise 22. -/
import Derived.Test.YtbngdlbecdloiaaDrawBn
import Derived.Test.YtbngdlbecdloiaaBrNb
import Derived.Test.YtbngdlbecdloiaaBrGm
import Derived.Test.YtbngdlbecdloiaaPqI
import Derived.Test.YtbngdlbecdloiaaBrGo
import Derived.Deep.RegionHeld3
import Derived.Deep.DeepCutAuto
set_option maxHeartbeats 16000000
set_option maxRecDepth 20000
namespace Go.Proofs.Ytbngdlbecdloiaa
open Go.RowKit
set_option linter.unusedVariables false
set_option linter.unusedSimpArgs false
def cntP (V : Nat → Int) (p q : Int) : Nat → Nat
  | 0 => 0
  | m + 1 => cntP V p q m + (bif V (m * 2) == p && V (m * 2 + 1) == q then 1 else 0)
def Dst (V : Nat → Int) (J : Nat) : Prop := ∀ i j, i < j → j < J → ¬ (V (i * 2) = V (j * 2) ∧ V (i * 2 + 1) = V (j * 2 + 1))
theorem cntP_is {V : Nat → Int} {J : Nat} (h : Dst V J) (p q : Int) : ∀ m, m ≤ J → cntP V p q m = bif inP V p q m then 1 else 0
  | 0, _ => rfl
  | m + 1, hm => by
    rw [cntP, cntP_is h p q m (by omega), inP_next]
    cases e : inP V p q m with
    | false => simp only [Bool.false_or, cond_false, Nat.zero_add, beq_sw (V (m * 2)), beq_sw (V (m * 2 + 1))]
    | true =>
      have hn : (V (m * 2) == p && V (m * 2 + 1) == q) = false := by
        unfold inP at e
        rw [List.any_eq_true] at e
        obtain ⟨j, hj, ej⟩ := e
        have hj := List.mem_range.1 hj
        simp only [Bool.and_eq_true, beq_iff_eq] at ej
        rw [Bool.eq_false_iff]
        intro e2
        simp only [Bool.and_eq_true, beq_iff_eq] at e2
        exact h j m hj (by omega) ⟨by rw [← ej.1, e2.1], by rw [← ej.2, e2.2]⟩
      rw [hn]
      rfl
theorem bpL_nodup (N : Nat) (U : Nat → Int) : ∀ m, (bpL N U m).Nodup
  | 0 => List.nodup_nil
  | m + 1 => by
    rw [bpL, List.nodup_append]
    refine ⟨bpL_nodup N U m, ?_, ?_⟩
    · unfold bpOf
      refine List.Pairwise.map (fun j => (m, j)) (R := fun a b => a ≠ b) (fun a b hab e => hab (by injection e)) ?_
      exact (List.nodup_range.filter _).filter _
    · intro p hp q hq e
      subst e
      have h1 : p.1 < m := bpL_fst N U m p hp
      unfold bpOf at hq
      simp only [List.mem_map] at hq
      obtain ⟨j, _, rfl⟩ := hq
      exact absurd h1 (Nat.lt_irrefl _)
where
  bpL_fst (N : Nat) (U : Nat → Int) : ∀ m, ∀ p, p ∈ bpL N U m → p.1 < m
    | 0, p, hp => by cases hp
    | m + 1, p, hp => by
      rw [bpL, List.mem_append] at hp
      rcases hp with hp | hp
      · have := bpL_fst N U m p hp; omega
      · unfold bpOf at hp
        simp only [List.mem_map] at hp
        obtain ⟨j, _, rfl⟩ := hp
        exact Nat.lt_succ_self m
theorem dst_of {n : Nat} {U V : Nat → Int} (h : broadB n U = true) (hV : V = ofL (bpV U (bpL n U n))) : Dst V (bpL n U n).length := by
  intro i j hij hj e
  subst hV
  obtain ⟨⟨x, y⟩, h1⟩ : ∃ p, (bpL n U n)[i]? = some p := ⟨_, List.getElem?_eq_getElem (by omega)⟩
  obtain ⟨⟨z, t⟩, h2⟩ : ∃ p, (bpL n U n)[j]? = some p := ⟨_, List.getElem?_eq_getElem hj⟩
  have v1 := bpV_get U _ i x y h1
  have v2 := bpV_get U _ j z t h2
  rw [v1.1, v1.2, v2.1, v2.2] at e
  have m1 := bpL_bd n U n (Nat.le_refl _) (x, y) (List.mem_of_getElem? h1)
  have m2 := bpL_bd n U n (Nat.le_refl _) (z, t) (List.mem_of_getElem? h2)
  have e1 : x = z := broad_inj h m1.1 m2.1 e.1
  have e2 : y = t := broad_inj h m1.2.1 m2.2.1 e.2
  subst e1 e2
  have hd := bpL_nodup n U n
  refine List.pairwise_iff_getElem.1 hd i j (by omega) hj hij ?_
  rw [← Option.some.injEq, ← List.getElem?_eq_getElem, ← List.getElem?_eq_getElem, h1, h2]
theorem new_self {n : Nat} {U : Nat → Int} (h : broadB n U = true) : nwN n U n U = 0 := by
  unfold nwN
  rw [h]
  show (nwP n U n U).length = 0
  rw [List.length_eq_zero_iff]
  unfold nwP nwL
  rw [List.filter_eq_nil_iff]
  intro p hp
  obtain ⟨i, hi, e⟩ := List.getElem_of_mem hp
  have e' : (bpL n U n)[i]? = some (p.1, p.2) := by rw [List.getElem?_eq_getElem hi, e]
  have v := bpV_get U _ i _ _ e'
  have hin : inP (ofL (bpT n U)) (U (p.1 * 5)) (U (p.2 * 5)) (bpN n U) = true := by
    unfold inP bpT bpN
    rw [h, List.any_eq_true]
    refine ⟨i, List.mem_range.2 hi, ?_⟩
    show (U (p.1 * 5) == ofL (bpV U (bpL n U n)) (i * 2) && U (p.2 * 5) == ofL (bpV U (bpL n U n)) (i * 2 + 1)) = true
    rw [v.1, v.2]
    simp
  simp [hin]
set_option maxRecDepth 20000 in
set_option maxHeartbeats 8000000 in
theorem fnBroadNew_walk (ac : Option Addr) (len cap : Nat) (w : World) (hb : Bytes w ac len cap) :
    Calls Try.prog 7 #[.slice ac len cap] w fun e w' => e = .returned (.bool true) ∧ Below w.heap.size w w' := by
  have hset := cset_map
  by_cases hlen : 1048576 < len
  · have hl : (1048576 : Int) < (len : Int) := by omega
    go_enter Try.func7, Try.ntmps7
    go_wp2_with fail
    go_ret
    exact ⟨rfl, Below.refl _ _⟩
  have hl : ¬ (1048576 : Int) < (len : Int) := by omega
  go_enter Try.func7, Try.ntmps7
  go_upto_region 3 with fail
  go_cut [3, 4] (fun s3 s4 wc => ∃ (ab bb : Nat) (a : Option Addr) (na ca : Nat) (Ua : Nat → Int) (b : Option Addr) (n c : Nat) (U : Nat → Int), s3 = .pointer (some ⟨ab, 0, none⟩) ∧ s4 = .pointer (some ⟨bb, 0, none⟩) ∧ na ≤ 25 ∧ n ≤ 25 ∧ Below w.heap.size w wc ∧ Blk wc ab #[.slice a na ca] 25 ∧ Blk wc bb #[.slice b n c] 25 ∧ OwnL wc w.heap.size 31 5 (.slice a na ca) na Ua ∧ OwnL wc w.heap.size 31 5 (.slice b n c) n U)
  case first =>
    go_wp2_with (go_at_call 30; refine (drawBroadNew_k _ _ _ _ hb).mono ?_; intro e w1 hD; unfold DrN at hD; obtain ⟨a, na, ca, Ua, b, n, c, U, rfl, hna, hn, hb1, hO1, hP1⟩ := hD)
    go_meet
    have q1 := Blk.new w1 #[.slice a na ca] 25
    have q2 := Blk.new (w1.alloc (.cells #[.slice a na ca] 25)) #[.slice b n c] 25
    rw [show (w1.alloc (.cells #[.slice a na ca] 25)).heap.size = w1.heap.size + 1 by simp] at q2
    exact ⟨_, _, a, na, ca, Ua, b, n, c, U, rfl, rfl, hna, hn, (hb1.alloc hb1.size _).alloc (by simp; have := hb1.size; omega) _, q1.al _, q2, (hO1.al _).al _, (hP1.al _).al _⟩
  case rest =>
  obtain ⟨ab, bb, a, na, ca, Ua, b, n, c, U, rfl, rfl, hna, hn, bel, hA, hB, hO, hP⟩ := hcut
  have hAc0 := hA.cell 0 rfl
  have hBc0 := hB.cell 0 rfl
  obtain ⟨NN, hNN0⟩ : ∃ k, nwN na Ua n U = k := ⟨_, rfl⟩
  have hN5 : NN ≤ 576 := by have := nwN_le na Ua n U; omega
  have hNN : Shut (nwN na Ua n U = NN) := hNN0
  clear hNN0
  obtain ⟨RL, hRL0⟩ : ∃ k, k = ofL (nwT na Ua n U) := ⟨_, rfl⟩
  have hRL : Shut (RL = ofL (nwT na Ua n U)) := hRL0
  clear hRL0
  go_upto_region 4 with fail
  go_cut [5] (fun s wc => ∃ (a1 : Option Addr) (c1 : Nat), s = .slice a1 NN c1 ∧ Below w.heap.size w wc ∧ Blk wc ab #[.slice a na ca] 25 ∧ Blk wc bb #[.slice b n c] 25 ∧ OwnL wc w.heap.size 31 5 (.slice a na ca) na Ua ∧ OwnL wc w.heap.size 31 5 (.slice b n c) n U ∧ OwnL wc w.heap.size 48 2 (.slice a1 NN c1) NN RL)
  case first =>
    go_wp2_with (go_at_call 31; refine (new_i a na ca Ua b n c U NN RL _ hO.flat hP.flat (by omega) (by omega) hNN.out hRL.out).mono ?_; rintro e w1 ⟨a1, c1, rfl, hOu⟩)
    go_meet
    have bz := hOu.bel
    exact ⟨a1, c1, rfl, bel.trans (bz.mono bel.size), hA.on bz, hB.on bz, hO.below bz, hP.below bz, hOu.own.base bel.size⟩
  case rest =>
  clear bel hA hB hO hP hAc0 hBc0
  obtain ⟨a1, c1, rfl, bel, hA, hB, hO, hP, hL⟩ := hcut
  have hAc0 := hA.cell 0 rfl
  have hBc0 := hB.cell 0 rfl
  obtain ⟨OK, hOK0⟩ : ∃ b, broadB na Ua = b := ⟨_, rfl⟩
  have hOK : Shut (broadB na Ua = OK) := hOK0
  obtain ⟨XK, hXK0⟩ : ∃ b, broadB n U = b := ⟨_, rfl⟩
  have hXK : Shut (broadB n U = XK) := hXK0
  clear hOK0 hXK0
  cases OK with
  | false =>
    go_upto_region 6 with (first
      | (have _ := hb3; go_at_call 14; refine (sBroadOk_q a na ca Ua false _ (hO.below b3).flat (by omega) hOK.out).mono ?_; rintro e w4 ⟨rfl, hb4⟩; have b4 := b3.trans (hb4.mono b3.size); have x4 := (hA.on b4).cell 0 rfl; have y4 := (hB.on b4).cell 0 rfl)
      | (have _ := hb2; go_at_call 21; refine (pqPairs_eq a1 a2 NN _ _ RL _ (hL.below hb2).flat hO2.own.flat (by omega)).mono ?_; rintro e w3 ⟨rfl, hb3⟩; have b3 := hb2.trans (hb3.mono hb2.size); have x3 := (hA.on b3).cell 0 rfl; have y3 := (hB.on b3).cell 0 rfl)
      | (go_at_call 32; refine (new_s a na ca Ua b n c U NN RL _ hO.flat hP.flat (by omega) (by omega) hNN.out hRL.out).mono ?_; rintro e w2 ⟨a2, c2, rfl, hO2⟩; have hb2 := hO2.bel; have x2 := (hA.on hb2).cell 0 rfl; have y2 := (hB.on hb2).cell 0 rfl))
    have bel := bel.trans (b4.mono bel.size)
    have hA := hA.on b4
    have hB := hB.on b4
    have hO := hO.below b4
    have hP := hP.below b4
    have hL := hL.below b4
    clear hb2 b3 hb3 b4 hb4 x2 x3 x4 y2 y3 y4 hO2
    have hAc0 := hA.cell 0 rfl
    have hBc0 := hB.cell 0 rfl
    go_wp2_with (first
      | (have _ := hbq; go_at_call 21; refine (pqPairs_eq a1 aq NN _ _ RL _ (hL.below hbq).flat hOq.own.flat (by omega)).mono ?_; rintro e w3 ⟨rfl, hb3⟩; have b3 := hbq.trans (hb3.mono hbq.size); have x3 := (hA.on b3).cell 0 rfl; have y3 := (hB.on b3).cell 0 rfl)
      | (go_at_call 32; refine (new_s a na ca Ua b n c U NN RL _ hO.flat hP.flat (by omega) (by omega) hNN.out hRL.out).mono ?_; rintro e w2 ⟨aq, cq, rfl, hOq⟩; have hbq := hOq.bel; have x2 := (hA.on hbq).cell 0 rfl; have y2 := (hB.on hbq).cell 0 rfl))
    go_ret
    exact ⟨rfl, bel.trans (b3.mono bel.size)⟩
  | true =>
    cases XK with
    | false =>
      go_upto_region 6 with (first
        | (have _ := hb4; go_at_call 14; refine (sBroadOk_q b n c U false _ (hP.below b4).flat (by omega) hXK.out).mono ?_; rintro e w5 ⟨rfl, hb5⟩; have b5 := b4.trans (hb5.mono b4.size))
        | (have _ := hb3; go_at_call 14; refine (sBroadOk_q a na ca Ua true _ (hO.below b3).flat (by omega) hOK.out).mono ?_; rintro e w4 ⟨rfl, hb4⟩; have b4 := b3.trans (hb4.mono b3.size); have x4 := (hA.on b4).cell 0 rfl; have y4 := (hB.on b4).cell 0 rfl)
        | (have _ := hb2; go_at_call 21; refine (pqPairs_eq a1 a2 NN _ _ RL _ (hL.below hb2).flat hO2.own.flat (by omega)).mono ?_; rintro e w3 ⟨rfl, hb3⟩; have b3 := hb2.trans (hb3.mono hb2.size); have x3 := (hA.on b3).cell 0 rfl; have y3 := (hB.on b3).cell 0 rfl)
        | (go_at_call 32; refine (new_s a na ca Ua b n c U NN RL _ hO.flat hP.flat (by omega) (by omega) hNN.out hRL.out).mono ?_; rintro e w2 ⟨a2, c2, rfl, hO2⟩; have hb2 := hO2.bel; have x2 := (hA.on hb2).cell 0 rfl; have y2 := (hB.on hb2).cell 0 rfl))
      have bel := bel.trans (b5.mono bel.size)
      have hA := hA.on b5
      have hB := hB.on b5
      have hO := hO.below b5
      have hP := hP.below b5
      have hL := hL.below b5
      clear hb2 b3 hb3 b4 hb4 x2 x3 x4 y2 y3 y4 hO2
      have hAc0 := hA.cell 0 rfl
      have hBc0 := hB.cell 0 rfl
      go_wp2_with (first
        | (have _ := hbq; go_at_call 21; refine (pqPairs_eq a1 aq NN _ _ RL _ (hL.below hbq).flat hOq.own.flat (by omega)).mono ?_; rintro e w3 ⟨rfl, hb3⟩; have b3 := hbq.trans (hb3.mono hbq.size); have x3 := (hA.on b3).cell 0 rfl; have y3 := (hB.on b3).cell 0 rfl)
        | (go_at_call 32; refine (new_s a na ca Ua b n c U NN RL _ hO.flat hP.flat (by omega) (by omega) hNN.out hRL.out).mono ?_; rintro e w2 ⟨aq, cq, rfl, hOq⟩; have hbq := hOq.bel; have x2 := (hA.on hbq).cell 0 rfl; have y2 := (hB.on hbq).cell 0 rfl))
      go_ret
      exact ⟨rfl, bel.trans (b3.mono bel.size)⟩
    | true =>
      go_upto_region 5 with fail
      go_cut [37] (fun s wc => s = .bool false ∧ Below w.heap.size w wc ∧ Blk wc ab #[.slice a na ca] 25 ∧ Blk wc bb #[.slice b n c] 25 ∧ OwnL wc w.heap.size 31 5 (.slice a na ca) na Ua ∧ OwnL wc w.heap.size 31 5 (.slice b n c) n U ∧ OwnL wc w.heap.size 48 2 (.slice a1 NN c1) NN RL)
      case first =>
        go_wp2_with (first
          | (have _ := hb4; go_at_call 14; refine (sBroadOk_q b n c U true _ (hP.below b4).flat (by omega) hXK.out).mono ?_; rintro e w5 ⟨rfl, hb5⟩; have b5 := b4.trans (hb5.mono b4.size))
          | (have _ := hb3; go_at_call 14; refine (sBroadOk_q a na ca Ua true _ (hO.below b3).flat (by omega) hOK.out).mono ?_; rintro e w4 ⟨rfl, hb4⟩; have b4 := b3.trans (hb4.mono b3.size); have x4 := (hA.on b4).cell 0 rfl; have y4 := (hB.on b4).cell 0 rfl)
          | (have _ := hb2; go_at_call 21; refine (pqPairs_eq a1 a2 NN _ _ RL _ (hL.below hb2).flat hO2.own.flat (by omega)).mono ?_; rintro e w3 ⟨rfl, hb3⟩; have b3 := hb2.trans (hb3.mono hb2.size); have x3 := (hA.on b3).cell 0 rfl; have y3 := (hB.on b3).cell 0 rfl)
          | (go_at_call 32; refine (new_s a na ca Ua b n c U NN RL _ hO.flat hP.flat (by omega) (by omega) hNN.out hRL.out).mono ?_; rintro e w2 ⟨a2, c2, rfl, hO2⟩; have hb2 := hO2.bel; have x2 := (hA.on hb2).cell 0 rfl; have y2 := (hB.on hb2).cell 0 rfl))
        go_meet
        exact ⟨rfl, bel.trans (b5.mono bel.size), hA.on b5, hB.on b5, hO.below b5, hP.below b5, hL.below b5⟩
      case rest =>
      clear bel hA hB hO hP hL hAc0 hBc0
      obtain ⟨rfl, bel, hA, hB, hO, hP, hL⟩ := hcut
      have hAc0 := hA.cell 0 rfl
      have hBc0 := hB.cell 0 rfl
      obtain ⟨JA, hJA0⟩ : ∃ j, bpN na Ua = j := ⟨_, rfl⟩
      have hJA5 : JA ≤ 576 := by have := bpN_le na Ua; omega
      have hJA : Shut (bpN na Ua = JA) := hJA0
      obtain ⟨VA, hVA0⟩ : ∃ v, v = ofL (bpT na Ua) := ⟨_, rfl⟩
      have hVA : Shut (VA = ofL (bpT na Ua)) := hVA0
      obtain ⟨JB, hJB0⟩ : ∃ j, bpN n U = j := ⟨_, rfl⟩
      have hJB5 : JB ≤ 576 := by have := bpN_le n U; omega
      have hJB : Shut (bpN n U = JB) := hJB0
      obtain ⟨VB, hVB0⟩ : ∃ v, v = ofL (bpT n U) := ⟨_, rfl⟩
      have hVB : Shut (VB = ofL (bpT n U)) := hVB0
      have hJBL : Shut ((bpL n U n).length = JB) := by have h := hJB0; unfold bpN at h; rw [hXK.out] at h; exact h
      have hVBL : Shut (VB = ofL (bpV U (bpL n U n))) := by have h := hVB0; unfold bpT at h; rw [hXK.out] at h; exact h
      have hDs : Shut (Dst VA JA) := by
        have h1 := hJA0
        have h2 := hVA0
        unfold bpN at h1
        unfold bpT at h2
        rw [hOK.out] at h1 h2
        have h := dst_of hOK.out h2
        have h3 : (bpL na Ua na).length = JA := h1
        rw [h3] at h
        exact h
      have hNP : Shut ((nwL VA JA U (bpL n U n)).length = NN) := by
        have h := hNN.out
        unfold nwN nwP at h
        rw [hOK.out, hXK.out, hJA0, ← hVA0] at h
        exact h
      clear hJA0 hVA0 hJB0 hVB0
      go_upto_region 7 with fail
      go_cut [6] (fun s wc => ∃ (a2 : Option Addr) (c2 : Nat), s = .slice a2 JA c2 ∧ Below w.heap.size w wc ∧ Blk wc ab #[.slice a na ca] 25 ∧ Blk wc bb #[.slice b n c] 25 ∧ OwnL wc w.heap.size 31 5 (.slice a na ca) na Ua ∧ OwnL wc w.heap.size 31 5 (.slice b n c) n U ∧ OwnL wc w.heap.size 48 2 (.slice a1 NN c1) NN RL ∧ OwnL wc w.heap.size 48 2 (.slice a2 JA c2) JA VA)
      case first =>
        go_wp2_with (go_at_call 20; refine (pairs_i a na ca Ua JA VA _ hO.flat (by omega) hJA.out hVA.out).mono ?_; rintro e w7 ⟨a2, c2, rfl, hOu⟩)
        go_meet
        have bz := hOu.bel
        exact ⟨a2, c2, rfl, bel.trans (bz.mono bel.size), hA.on bz, hB.on bz, hO.below bz, hP.below bz, hL.below bz, hOu.own.base bel.size⟩
      case rest =>
      clear bel hA hB hO hP hL hAc0 hBc0
      obtain ⟨a2, c2, rfl, bel, hA, hB, hO, hP, hL, hT⟩ := hcut
      have hAc0 := hA.cell 0 rfl
      have hBc0 := hB.cell 0 rfl
      go_upto_region 8 with fail
      go_cut [7] (fun s wc => ∃ (a3 : Option Addr) (c3 : Nat), s = .slice a3 JB c3 ∧ Below w.heap.size w wc ∧ Blk wc ab #[.slice a na ca] 25 ∧ Blk wc bb #[.slice b n c] 25 ∧ OwnL wc w.heap.size 31 5 (.slice a na ca) na Ua ∧ OwnL wc w.heap.size 31 5 (.slice b n c) n U ∧ OwnL wc w.heap.size 48 2 (.slice a1 NN c1) NN RL ∧ OwnL wc w.heap.size 48 2 (.slice a2 JA c2) JA VA ∧ OwnL wc w.heap.size 48 2 (.slice a3 JB c3) JB VB)
      case first =>
        go_wp2_with (go_at_call 20; refine (pairs_i b n c U JB VB _ hP.flat (by omega) hJB.out hVB.out).mono ?_; rintro e w7 ⟨a3, c3, rfl, hOu⟩)
        go_meet
        have bz := hOu.bel
        exact ⟨a3, c3, rfl, bel.trans (bz.mono bel.size), hA.on bz, hB.on bz, hO.below bz, hP.below bz, hL.below bz, hT.below bz, hOu.own.base bel.size⟩
      case rest =>
      clear bel hA hB hO hP hL hT hAc0 hBc0
      obtain ⟨a3, c3, rfl, bel, hA, hB, hO, hP, hL, hT, hM⟩ := hcut
      have hAc0 := hA.cell 0 rfl
      have hBc0 := hB.cell 0 rfl
      go_wp2_with fail
      go_loopw [8, 9, 10] (fun s8 s9 _ wr => ∃ i N8 : Nat, i ≤ JB ∧ s8 = .int .i64 (N8 : Int) ∧ s9 = .int .i64 (i : Int) ∧ Shut (N8 + (nwL VA JA U ((bpL n U n).take i)).length = i) ∧ Below w.heap.size w wr ∧ Blk wr ab #[.slice a na ca] 25 ∧ Blk wr bb #[.slice b n c] 25 ∧ OwnL wr w.heap.size 31 5 (.slice a na ca) na Ua ∧ OwnL wr w.heap.size 31 5 (.slice b n c) n U ∧ OwnL wr w.heap.size 48 2 (.slice a1 NN c1) NN RL ∧ OwnL wr w.heap.size 48 2 (.slice a2 JA c2) JA VA ∧ OwnL wr w.heap.size 48 2 (.slice a3 JB c3) JB VB) (fun _ s9 _ _ => JB - (intOf s9).toNat)
      case atStart => exact ⟨0, 0, Nat.zero_le _, rfl, rfl, rfl, bel, hA, hB, hO, hP, hL, hT, hM⟩
      case round =>
        clear bel hA hB hO hP hL hT hM hAc0 hBc0
        obtain ⟨i, N8, hi, rfl, rfl, hN8, bel, hA, hB, hO, hP, hL, hT, hM⟩ := hrel
        have hAc0 := hA.cell 0 rfl
        have hBc0 := hB.cell 0 rfl
        have hN8b : N8 ≤ i := by have := hN8.out; omega
        by_cases hlt : i < JB
        · have hil : (i : Int) < (JB : Int) := by omega
          obtain ⟨⟨x, y⟩, hxy⟩ : ∃ p, (bpL n U n)[i]? = some p := ⟨_, List.getElem?_eq_getElem (by rw [hJBL.out]; exact hlt)⟩
          obtain ⟨v0, v1⟩ := bpV_get U (bpL n U n) i x y hxy
          rw [← hVBL.out] at v0 v1
          have hnx : nwL VA JA U ((bpL n U n).take (i + 1)) = nwL VA JA U ((bpL n U n).take i) ++ nwL VA JA U [(x, y)] := by rw [List.take_add_one, hxy, nwL_app]; rfl
          have hNx : Shut (N8 + cntP VA (VB (i * 2)) (VB (i * 2 + 1)) JA + (nwL VA JA U ((bpL n U n).take (i + 1))).length = i + 1) := by
            show _ = _
            have h := hN8.out
            rw [hnx, List.length_append, v0, v1, cntP_is hDs.out _ _ JA (Nat.le_refl _)]
            cases e : inP VA (U (x * 5)) (U (y * 5)) JA with
            | true => rw [nwL_in e]; simp only [cond_true, List.length_nil]; omega
            | false => rw [nwL_out e]; simp only [cond_false, List.length_cons, List.length_nil]; omega
          clear hnx v0 v1 hxy hN8
          obtain ⟨gb, rfl, hg1, hg2⟩ := hM.loc (by omega)
          clear hg1 hg2
          go_wp2_with fail
          go_loopw [8, 10] (fun s8 s10 wr => ∃ k : Nat, k ≤ JA ∧ s8 = .int .i64 ((N8 + cntP VA (VB (i * 2)) (VB (i * 2 + 1)) k : Nat) : Int) ∧ s10 = .int .i64 (k : Int) ∧ cntP VA (VB (i * 2)) (VB (i * 2 + 1)) k ≤ k ∧ Below w.heap.size w wr ∧ Blk wr ab #[.slice a na ca] 25 ∧ Blk wr bb #[.slice b n c] 25 ∧ OwnL wr w.heap.size 31 5 (.slice a na ca) na Ua ∧ OwnL wr w.heap.size 31 5 (.slice b n c) n U ∧ OwnL wr w.heap.size 48 2 (.slice a1 NN c1) NN RL ∧ OwnL wr w.heap.size 48 2 (.slice a2 JA c2) JA VA ∧ OwnL wr w.heap.size 48 2 (.slice (some ⟨gb, 0, none⟩) JB c3) JB VB) (fun _ s10 _ => JA - (intOf s10).toNat)
          case atStart => exact ⟨0, Nat.zero_le _, rfl, rfl, Nat.le_refl _, bel, hA, hB, hO, hP, hL, hT, hM⟩
          case round =>
            clear bel hA hB hO hP hL hT hM hAc0 hBc0
            obtain ⟨k, hk, rfl, rfl, hcb, bel, hA, hB, hO, hP, hL, hT, hM⟩ := hrel
            have hAc0 := hA.cell 0 rfl
            have hBc0 := hB.cell 0 rfl
            by_cases hlk : k < JA
            · have hkl : (k : Int) < (JA : Int) := by omega
              obtain ⟨ga, rfl, hg1, hg2⟩ := hT.loc (by omega)
              clear hg1 hg2
              have c0 := hT.cellq (q := k * 2) (by omega)
              have c1 := hT.cellq (q := k * 2 + 1) (by omega)
              have d0 := hM.cellq (q := i * 2) (by omega)
              have d1 := hM.cellq (q := i * 2 + 1) (by omega)
              have hev := eq_pair0 (VA (k * 2)) (VA (k * 2 + 1)) (VB (i * 2)) (VB (i * 2 + 1))
              have hst : cntP VA (VB (i * 2)) (VB (i * 2 + 1)) (k + 1) = cntP VA (VB (i * 2)) (VB (i * 2 + 1)) k + (bif VA (k * 2) == VB (i * 2) && VA (k * 2 + 1) == VB (i * 2 + 1) then 1 else 0) := rfl
              obtain ⟨C0, hC0⟩ : ∃ x, cntP VA (VB (i * 2)) (VB (i * 2 + 1)) k = x := ⟨_, rfl⟩
              rw [hC0] at hst hcb ⊢
              clear hC0
              cases hMB : (VA (k * 2) == VB (i * 2) && VA (k * 2 + 1) == VB (i * 2 + 1)) with
              | true =>
                rw [hMB] at hev hst
                clear hMB
                go_upto_region 16 with fail
                refine wp_region_held_drew (S := fun w' => w'.cell? ⟨ga, k * 2, none⟩ = some (.int .i64 (VA (k * 2))) ∧ w'.cell? ⟨ga, k * 2 + 1, none⟩ = some (.int .i64 (VA (k * 2 + 1))) ∧ w'.cell? ⟨gb, i * 2, none⟩ = some (.int .i64 (VB (i * 2))) ∧ w'.cell? ⟨gb, i * 2 + 1, none⟩ = some (.int .i64 (VB (i * 2 + 1)))) (by kernel_rfl) ?_ (fun hHeld => ?_)
                · (try dsimp only)
                  (first | (go_simp; done) | (go_keep; done))
                refine tq 0 hHeld ?_
                refine tq 1 hHeld ?_
                refine tq 2 hHeld ?_
                refine tq 3 hHeld ?_
                refine tq 4 hHeld ?_
                refine tq 5 hHeld ?_
                refine tq 6 hHeld ?_
                refine tq 7 hHeld ?_
                refine tq 8 hHeld ?_
                refine wpAnyH_done (by kernel_rfl) ?_ _
                have bz := (Below.refl wr.heap.size wr).drew
                go_wp2_with fail
                go_roundw
                case rel => exact ⟨k + 1, by omega, by rw [hst]; first | go_num | (congr 1; simp only [cond_true]; omega), by go_num, by rw [hst]; simp only [cond_true]; omega, bel.trans (bz.mono bel.size), hA.on bz, hB.on bz, hO.below bz, hP.below bz, hL.below bz, hT.below bz, hM.below bz⟩
                case measure => simp [intOf]; omega
              | false =>
                rw [hMB] at hev hst
                clear hMB
                go_upto_region 16 with fail
                refine wp_region_held_drew (S := fun w' => w'.cell? ⟨ga, k * 2, none⟩ = some (.int .i64 (VA (k * 2))) ∧ w'.cell? ⟨ga, k * 2 + 1, none⟩ = some (.int .i64 (VA (k * 2 + 1))) ∧ w'.cell? ⟨gb, i * 2, none⟩ = some (.int .i64 (VB (i * 2))) ∧ w'.cell? ⟨gb, i * 2 + 1, none⟩ = some (.int .i64 (VB (i * 2 + 1)))) (by kernel_rfl) ?_ (fun hHeld => ?_)
                · (try dsimp only)
                  (first | (go_simp; done) | (go_keep; done))
                refine tq 0 hHeld ?_
                refine tq 1 hHeld ?_
                refine tq 2 hHeld ?_
                refine tq 3 hHeld ?_
                refine tq 4 hHeld ?_
                refine tq 5 hHeld ?_
                refine tq 6 hHeld ?_
                refine tq 7 hHeld ?_
                refine tq 8 hHeld ?_
                refine wpAnyH_done (by kernel_rfl) ?_ _
                have bz := (Below.refl wr.heap.size wr).drew
                go_wp2_with fail
                go_roundw
                case rel => exact ⟨k + 1, by omega, by rw [hst]; rfl, by go_num, by rw [hst]; simp only [cond_false]; omega, bel.trans (bz.mono bel.size), hA.on bz, hB.on bz, hO.below bz, hP.below bz, hL.below bz, hT.below bz, hM.below bz⟩
                case measure => simp [intOf]; omega
            · obtain rfl : JA = k := by omega
              obtain ⟨C0, hC0⟩ : ∃ x, cntP VA (VB (i * 2)) (VB (i * 2 + 1)) JA = x := ⟨_, rfl⟩
              rw [hC0] at hNx hcb ⊢
              clear hC0
              go_wp2_with fail
              go_roundw
              case rel => exact ⟨i + 1, N8 + C0, by omega, rfl, by go_num, hNx, bel, hA, hB, hO, hP, hL, hT, hM⟩
              case measure => simp [intOf]; omega
        · obtain rfl : JB = i := by omega
          have hfin : NN + N8 = JB := by
            have h := hN8.out
            rw [← hJBL.out, List.take_length, hNP.out, hJBL.out] at h
            omega
          have hw1 : IntKind.i64.wrap ((NN : Int) + (N8 : Int)) = (NN : Int) + (N8 : Int) := i64w (by omega)
          have he1 : (((NN : Int) + (N8 : Int)) == (JB : Int)) = true := by rw [beq_iff_eq]; omega
          have hNs := new_self hXK.out
          go_wp2_with (go_at_call 31; refine (new_i b n c U b n c U 0 (ofL (nwT n U n U)) _ hP.flat hP.flat (by omega) (by omega) hNs rfl).mono ?_; rintro e w9 ⟨a9, c9, rfl, hO9⟩)
          go_ret
          exact ⟨by simp, bel.trans (hO9.bel.mono bel.size)⟩
end Go.Proofs.Ytbngdlbecdloiaa
