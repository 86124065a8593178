/- Texts of a proof. -/
import Derived.Test.YthijeiehcdoidaaGreatDrawWR
import Derived.Test.YthijeiehcdoidaaGreatWdRay
import Derived.Test.YthijeiehcdoidaaGreatRayRF
import Derived.Deep.RegionHeld3
import Derived.Deep.DeepCutAuto
set_option maxHeartbeats 16000000
set_option maxRecDepth 20000
namespace Go.Proofs.YthijeiehcdoidaaGreat
open Go.RowKit
set_option linter.unusedVariables false
set_option linter.unusedSimpArgs false
theorem rayN_neg {x y u v : Int} {U : Nat → Int} : ∀ m, (∀ j, j < m → 0 ≤ U (j * 12)) → (rayN x y u v U m).1 < 0 → ∀ j, j < m → (rsAt x y u v U j).2 = false
 | 0, _, _, j, hj => absurd hj (Nat.not_lt_zero _)
 | m + 1, h0, hn, j, hj => by
  rw [rayN] at hn
  by_cases q : (rsAt x y u v U m).2 = true ∧ ((rayN x y u v U m).1 < 0 ∨ (rsAt x y u v U m).1 < (rayN x y u v U m).2)
  · rw [if_pos q] at hn
    have := h0 m (by omega)
    exact absurd hn (by show ¬ U (m * 12) < 0; omega)
  · rw [if_neg q] at hn
    rcases Nat.lt_succ_iff_lt_or_eq.1 hj with l | rfl
    · exact rayN_neg m (fun j hj => h0 j (by omega)) hn j l
    · cases e : (rsAt x y u v U j).2 with
      | false => rfl
      | true => exact absurd ⟨e, .inl hn⟩ q
theorem rayN_best {x y u v : Int} {U : Nat → Int} {n : Nat} (h0 : ∀ j, j < n → 0 ≤ U (j * 12)) (ha : ∀ i j, i < j → j < n → U (i * 12) < U (j * 12)) : ∀ m, m ≤ n → 0 ≤ (rayN x y u v U m).1 →
 (∃ j, j < m ∧ (rsAt x y u v U j).2 = true ∧ U (j * 12) = (rayN x y u v U m).1 ∧ (rsAt x y u v U j).1 = (rayN x y u v U m).2) ∧ ∀ j, j < m → (rsAt x y u v U j).2 = true → ¬ (rsAt x y u v U j).1 < (rayN x y u v U m).2 ∧ ((rsAt x y u v U j).1 = (rayN x y u v U m).2 → ¬ U (j * 12) < (rayN x y u v U m).1)
 | 0, _, h => absurd h (by show ¬ (0 : Int) ≤ -1; decide)
 | m + 1, hm, h => by
  have hneg := rayN_neg (x := x) (y := y) (u := u) (v := v) (U := U) m (fun j hj => h0 j (by omega))
  by_cases hp : 0 ≤ (rayN x y u v U m).1
  · obtain ⟨⟨j0, l0, t0, i0, f0⟩, hb⟩ := rayN_best h0 ha m (by omega) hp
    rw [rayN] at h ⊢
    by_cases q : (rsAt x y u v U m).2 = true ∧ ((rayN x y u v U m).1 < 0 ∨ (rsAt x y u v U m).1 < (rayN x y u v U m).2)
    · rw [if_pos q] at h ⊢
      have hlt : (rsAt x y u v U m).1 < (rayN x y u v U m).2 := by rcases q.2 with q | q <;> omega
      refine ⟨⟨m, Nat.lt_succ_self _, q.1, rfl, rfl⟩, fun j hj ht => ?_⟩
      rcases Nat.lt_succ_iff_lt_or_eq.1 hj with l | rfl
      · have := (hb j l ht).1
        exact ⟨by show ¬ _ < (rsAt x y u v U m).1; omega, fun e => by have e : (rsAt x y u v U j).1 = (rsAt x y u v U m).1 := e; omega⟩
      · exact ⟨Int.lt_irrefl _, fun _ => Int.lt_irrefl _⟩
    · rw [if_neg q] at h ⊢
      refine ⟨⟨j0, by omega, t0, i0, f0⟩, fun j hj ht => ?_⟩
      rcases Nat.lt_succ_iff_lt_or_eq.1 hj with l | rfl
      · exact hb j l ht
      · refine ⟨fun e => q ⟨ht, .inr e⟩, fun _ => ?_⟩
        have := ha j0 j l0 (by omega)
        omega
  · rw [rayN] at h ⊢
    by_cases q : (rsAt x y u v U m).2 = true ∧ ((rayN x y u v U m).1 < 0 ∨ (rsAt x y u v U m).1 < (rayN x y u v U m).2)
    · rw [if_pos q] at h ⊢
      refine ⟨⟨m, Nat.lt_succ_self _, q.1, rfl, rfl⟩, fun j hj ht => ?_⟩
      rcases Nat.lt_succ_iff_lt_or_eq.1 hj with l | rfl
      · rw [hneg (by omega) j l] at ht; cases ht
      · exact ⟨Int.lt_irrefl _, fun _ => Int.lt_irrefl _⟩
    · rw [if_neg q] at h
      exact absurd h hp
def fnN (x y u v : Int) (U : Nat → Int) (i0 l0 : Int) : Nat → Bool
 | 0 => decide (i0 < 0)
 | k + 1 => fnN x y u v U i0 l0 k || ((rsAt x y u v U k).2 && (U (k * 12) == i0) && ((rsAt x y u v U k).1 == l0))
theorem fnN_up {x y u v : Int} {U : Nat → Int} {i0 l0 : Int} {k : Nat} (h : fnN x y u v U i0 l0 k = true) : ∀ m, k ≤ m → fnN x y u v U i0 l0 m = true
 | 0, hm => by rw [show k = 0 by omega] at h; exact h
 | m + 1, hm => by
  by_cases e : k = m + 1
  · rw [← e]; exact h
  · rw [fnN, fnN_up h m (by omega)]; rfl
theorem fnN_end {x y u v : Int} {U : Nat → Int} {n : Nat} {i0 l0 : Int} (h0 : ∀ j, j < n → 0 ≤ U (j * 12)) (ha : ∀ i j, i < j → j < n → U (i * 12) < U (j * 12)) (e : rayN x y u v U n = (i0, l0)) : fnN x y u v U i0 l0 n = true := by
 by_cases hp : i0 < 0
 · exact fnN_up (k := 0) (decide_eq_true hp) n (Nat.zero_le _)
 · obtain ⟨⟨j, lj, tj, ij, fj⟩, _⟩ := rayN_best h0 ha n (Nat.le_refl _) (by rw [e]; show 0 ≤ i0; omega)
   rw [e] at ij fj
   refine fnN_up (k := j + 1) ?_ n lj
   rw [fnN, tj, ij, fj]
   simp
theorem fnWorldRay_walk (ac : Option Addr) (len cap : Nat) (w : World) (hb : Bytes w ac len cap) :
 Calls Tryz.prog 3 #[.slice ac len cap] w fun e w' => e = .returned (.bool true) ∧ Below w.heap.size w w' := by
 have hset := cset_map
 by_cases hlen : 1048576 < len
 · have hl : (1048576 : Int) < (len : Int) := by omega
   go_enter Tryz.func3, Tryz.ntmps3
   go_wp2_with fail
   go_ret
   exact ⟨rfl, Below.refl _ _⟩
 have hl : ¬ (1048576 : Int) < (len : Int) := by omega
 go_enter Tryz.func3, Tryz.ntmps3
 go_upto_region 3 with fail
 go_cut [3, 4] (fun s3 s4 wc => ∃ (wb xb : Nat) (T P : Int) (a : Option Addr) (n c : Nat) (U : Nat → Int) (a' : Option Addr) (m c' : Nat) (Q : Nat → Int) (x y u v : Int), s3 = .pointer (some ⟨wb, 0, none⟩) ∧ s4 = .pointer (some ⟨xb, 0, none⟩) ∧ n ≤ 13 ∧ m ≤ 433 ∧ Below w.heap.size w wc ∧ Blk wc wb #[.int .i64 T, .int .i64 P, .slice a n c, .slice a' m c'] 26 ∧ Blk wc xb #[.int .i64 x, .int .i64 y, .int .i64 u, .int .i64 v] 30 ∧ OwnL wc w.heap.size 41 12 (.slice a n c) n U ∧ OwnL wc w.heap.size 58 2 (.slice a' m c') m Q)
 case first =>
  go_wp2_with (go_at_call 5; refine (drawWorldRay_k _ _ _ _ hb).mono ?_; intro e w1 hD; unfold DrR at hD; obtain ⟨T, P, a, n, c, U, a', m, c', Q, x, y, u, v, rfl, hn, hm, hb1, hO1, hQ1⟩ := hD)
  go_meet
  have q1 := Blk.new w1 #[.int .i64 T, .int .i64 P, .slice a n c, .slice a' m c'] 26
  have q2 := Blk.new (w1.alloc (.cells #[.int .i64 T, .int .i64 P, .slice a n c, .slice a' m c'] 26)) #[.int .i64 x, .int .i64 y, .int .i64 u, .int .i64 v] 30
  rw [show (w1.alloc (.cells #[.int .i64 T, .int .i64 P, .slice a n c, .slice a' m c'] 26)).heap.size = w1.heap.size + 1 by simp] at q2
  exact ⟨_, _, T, P, a, n, c, U, a', m, c', Q, x, y, u, v, rfl, rfl, hn, hm, (hb1.alloc hb1.size _).alloc (by simp; have := hb1.size; omega) _, q1.al _, q2, (hO1.al _).al _, (hQ1.al _).al _⟩
 case rest =>
 obtain ⟨wb, xb, T, P, a, n, c, U, a', m, c', Q, x, y, u, v, rfl, rfl, hn, hm, bel, hA, hX, hO, hQ⟩ := hcut
 have hAc0 := hA.cell 0 rfl
 have hAc1 := hA.cell 1 rfl
 have hAc2 := hA.cell 2 rfl
 have hAc3 := hA.cell 3 rfl
 have hXc0 := hX.cell 0 rfl
 have hXc1 := hX.cell 1 rfl
 have hXc2 := hX.cell 2 rfl
 have hXc3 := hX.cell 3 rfl
 obtain ⟨i0, l0, hRA0⟩ : ∃ i l, rayA T P n U m Q x y u v = (i, l) := ⟨_, _, rfl⟩
 have hRA : Shut (rayA T P n U m Q x y u v = (i0, l0)) := hRA0
 clear hRA0
 obtain ⟨OK, hOK0⟩ : ∃ b, worldB T P n U m Q = b := ⟨_, rfl⟩
 have hOK : Shut (worldB T P n U m Q = OK) := hOK0
 clear hOK0
 go_upto_region 4 with fail
 go_cut [5, 6] (fun s5 s6 wc => s5 = .int .i64 i0 ∧ s6 = .int .i64 l0 ∧ Below w.heap.size w wc ∧ Blk wc wb #[.int .i64 T, .int .i64 P, .slice a n c, .slice a' m c'] 26 ∧ Blk wc xb #[.int .i64 x, .int .i64 y, .int .i64 u, .int .i64 v] 30 ∧ OwnL wc w.heap.size 41 12 (.slice a n c) n U ∧ OwnL wc w.heap.size 58 2 (.slice a' m c') m Q)
 case first =>
  go_wp2_with (go_at_call 6; refine (worldRay_q T P a n c U a' m c' Q x y u v i0 l0 _ hO.flat hQ.flat (by omega) (by omega) hRA.out).mono ?_; rintro e w2 ⟨rfl, hb2⟩)
  go_meet
  exact ⟨rfl, rfl, bel.trans (hb2.mono bel.size), hA.on hb2, hX.on hb2, hO.below hb2, hQ.below hb2⟩
 case rest =>
 clear bel hA hX hO hQ hAc0 hAc1 hAc2 hAc3 hXc0 hXc1 hXc2 hXc3
 obtain ⟨rfl, rfl, bel, hA, hX, hO, hQ⟩ := hcut
 have hAc0 := hA.cell 0 rfl
 have hAc1 := hA.cell 1 rfl
 have hAc2 := hA.cell 2 rfl
 have hAc3 := hA.cell 3 rfl
 have hXc0 := hX.cell 0 rfl
 have hXc1 := hX.cell 1 rfl
 have hXc2 := hX.cell 2 rfl
 have hXc3 := hX.cell 3 rfl
 go_upto_region 5 with fail
 go_cut [7, 8] (fun s5 s6 wc => s5 = .int .i64 i0 ∧ s6 = .int .i64 l0 ∧ Below w.heap.size w wc ∧ Blk wc wb #[.int .i64 T, .int .i64 P, .slice a n c, .slice a' m c'] 26 ∧ Blk wc xb #[.int .i64 x, .int .i64 y, .int .i64 u, .int .i64 v] 30 ∧ OwnL wc w.heap.size 41 12 (.slice a n c) n U ∧ OwnL wc w.heap.size 58 2 (.slice a' m c') m Q)
 case first =>
  go_wp2_with (go_at_call 7; refine (sWorldRay_q T P a n c U a' m c' Q x y u v i0 l0 _ hO.flat hQ.flat (by omega) (by omega) hRA.out).mono ?_; rintro e w2 ⟨rfl, hb2⟩)
  go_meet
  exact ⟨rfl, rfl, bel.trans (hb2.mono bel.size), hA.on hb2, hX.on hb2, hO.below hb2, hQ.below hb2⟩
 case rest =>
 clear bel hA hX hO hQ hAc0 hAc1 hAc2 hAc3 hXc0 hXc1 hXc2 hXc3
 obtain ⟨rfl, rfl, bel, hA, hX, hO, hQ⟩ := hcut
 have hAc0 := hA.cell 0 rfl
 have hAc1 := hA.cell 1 rfl
 have hAc2 := hA.cell 2 rfl
 have hAc3 := hA.cell 3 rfl
 have hXc0 := hX.cell 0 rfl
 have hXc1 := hX.cell 1 rfl
 have hXc2 := hX.cell 2 rfl
 have hXc3 := hX.cell 3 rfl
 have hii : (i0 != i0) = false := by simp
 have hll : (l0 != l0) = false := by simp
 go_upto_region 6 with fail
 go_cut [45] (fun s wc => s = .bool (!OK) ∧ Below w.heap.size w wc ∧ Blk wc wb #[.int .i64 T, .int .i64 P, .slice a n c, .slice a' m c'] 26 ∧ Blk wc xb #[.int .i64 x, .int .i64 y, .int .i64 u, .int .i64 v] 30 ∧ OwnL wc w.heap.size 41 12 (.slice a n c) n U ∧ OwnL wc w.heap.size 58 2 (.slice a' m c') m Q)
 case first =>
  go_wp2_with (go_at_call 8; refine (sWorldOk_q T P a n c U a' m c' Q _ hO.flat hQ.flat (by omega) (by omega) OK hOK.out).mono ?_; rintro e w4 ⟨rfl, hb4⟩)
  go_meet
  exact ⟨rfl, bel.trans (hb4.mono bel.size), hA.on hb4, hX.on hb4, hO.below hb4, hQ.below hb4⟩
 case rest =>
 clear bel hA hX hO hQ hAc0 hAc1 hAc2 hAc3 hXc0 hXc1 hXc2 hXc3 hii hll
 obtain ⟨rfl, bel, hA, hX, hO, hQ⟩ := hcut
 have hAc0 := hA.cell 0 rfl
 have hAc1 := hA.cell 1 rfl
 have hAc2 := hA.cell 2 rfl
 have hAc3 := hA.cell 3 rfl
 have hXc0 := hX.cell 0 rfl
 have hXc1 := hX.cell 1 rfl
 have hXc2 := hX.cell 2 rfl
 have hXc3 := hX.cell 3 rfl
 cases OK with
 | false =>
  have hii : (i0 == i0) = true := by simp
  have hll : (l0 == l0) = true := by simp
  go_wp2_with fail
  go_ret
  exact ⟨rfl, bel⟩
 | true =>
  have hbd : bodsB n U = true := by have h := hOK.out; unfold worldB at h; simp only [Bool.and_eq_true] at h; exact h.2.2.1
  have hBs := Bods.of hbd
  have hRN : Shut (rayN x y u v U n = (i0, l0)) := by show _ = _; have h := hRA.out; unfold rayA at h; rw [hOK.out] at h; exact h
  have ha : Shut (∀ i j, i < j → j < n → U (i * 12) < U (j * 12)) := fun i j hij => by
   induction j with
   | zero => omega
   | succ j ih =>
    intro hj
    have h1 := hBs.asc j hj
    rcases Nat.lt_succ_iff_lt_or_eq.1 hij with l | rfl
    · have := ih l (by omega); omega
    · exact h1
  have h0 : Shut (∀ j, j < n → 0 ≤ U (j * 12)) := fun j hj => by
   have h := hBs.ok j hj
   unfold bodyB at h
   simp only [Bool.and_eq_true, decide_eq_true_eq, Nat.add_zero] at h
   omega
  clear hbd hBs hRA hOK
  obtain ⟨FB, hFB⟩ : ∃ b, decide (i0 < 0) = b := ⟨_, rfl⟩
  go_upto_region 8 with fail
  go_cut [9] (fun s wc => s = .bool (fnN x y u v U i0 l0 0) ∧ Below w.heap.size w wc ∧ Blk wc wb #[.int .i64 T, .int .i64 P, .slice a n c, .slice a' m c'] 26 ∧ Blk wc xb #[.int .i64 x, .int .i64 y, .int .i64 u, .int .i64 v] 30 ∧ OwnL wc w.heap.size 41 12 (.slice a n c) n U ∧ OwnL wc w.heap.size 58 2 (.slice a' m c') m Q)
  case first =>
   go_wp2_with fail
   go_meet
   exact ⟨by first | rfl | (rw [fnN, hFB]), bel, hA, hX, hO, hQ⟩
  case rest =>
  clear bel hA hX hO hQ hAc0 hAc1 hAc2 hAc3 hXc0 hXc1 hXc2 hXc3
  obtain ⟨rfl, bel, hA, hX, hO, hQ⟩ := hcut
  clear hFB
  go_wp2_with fail
  go_loopw [9, 10, 11, 12] (fun s9 s10 _ _ wr => ∃ k : Nat, k ≤ n ∧ s9 = .bool (fnN x y u v U i0 l0 k) ∧ s10 = .int .i64 (k : Int) ∧ Below w.heap.size w wr ∧ Blk wr wb #[.int .i64 T, .int .i64 P, .slice a n c, .slice a' m c'] 26 ∧ Blk wr xb #[.int .i64 x, .int .i64 y, .int .i64 u, .int .i64 v] 30 ∧ OwnL wr w.heap.size 41 12 (.slice a n c) n U ∧ OwnL wr w.heap.size 58 2 (.slice a' m c') m Q) (fun _ s10 _ _ _ => n - (intOf s10).toNat)
  case atStart => exact ⟨0, Nat.zero_le _, rfl, rfl, bel, hA, hX, hO, hQ⟩
  case round =>
   clear bel hA hX hO hQ
   obtain ⟨k, hk, rfl, rfl, bel, hA, hX, hO, hQ⟩ := hrel
   have hAc0 := hA.cell 0 rfl
   have hAc1 := hA.cell 1 rfl
   have hAc2 := hA.cell 2 rfl
   have hAc3 := hA.cell 3 rfl
   have hXc0 := hX.cell 0 rfl
   have hXc1 := hX.cell 1 rfl
   have hXc2 := hX.cell 2 rfl
   have hXc3 := hX.cell 3 rfl
   by_cases hlt : k < n
   · have hkl : (k : Int) < (n : Int) := by omega
     obtain ⟨g, rfl, hg1, hg2⟩ := hO.loc (by omega)
     clear hg1 hg2
     have bz := Below.refl wr.heap.size wr
     clear hAc0 hAc1 hAc2 hAc3 hXc0 hXc1 hXc2 hXc3
     have hAc2 := (hA.on bz).cell 2 rfl
     have hXc0 := (hX.on bz).cell 0 rfl
     have hXc1 := (hX.on bz).cell 1 rfl
     have hXc2 := (hX.on bz).cell 2 rfl
     have hXc3 := (hX.on bz).cell 3 rfl
     have u1 := (hO.below bz).cellq (q := k * 12 + 1) (by omega)
     have u2 := (hO.below bz).cellq (q := k * 12 + 2) (by omega)
     have u3 := (hO.below bz).cellq (q := k * 12 + 3) (by omega)
     have u4 := (hO.below bz).cellq (q := k * 12 + 4) (by omega)
     have u5 := (hO.below bz).cellq (q := k * 12 + 5) (by omega)
     clear bz
     obtain ⟨FF, KB, hRS0⟩ : ∃ F K, rsAt x y u v U k = (F, K) := ⟨_, _, rfl⟩
     have hRS : Shut (rsP x y u v (U (k * 12 + 1)) (U (k * 12 + 2)) (U (k * 12 + 3)) (U (k * 12 + 4)) (U (k * 12 + 5)) = (FF, KB)) := hRS0
     have hnx : fnN x y u v U i0 l0 (k + 1) = (fnN x y u v U i0 l0 k || (KB && (U (k * 12) == i0) && (FF == l0))) := by rw [fnN, hRS0]
     have hbest : Shut (KB = true → ¬ i0 < 0 ∧ ¬ FF < l0 ∧ (FF = l0 → ¬ U (k * 12) < i0)) := fun hK => by
      have hn : ¬ i0 < 0 := fun hn => by
       have h := rayN_neg n h0.out (by rw [hRN.out]; exact hn) k hlt
       rw [hRS0] at h
       rw [hK] at h
       cases h
      have h := (rayN_best h0.out ha.out n (Nat.le_refl _) (by rw [hRN.out]; show 0 ≤ i0; omega)).2 k hlt (by rw [hRS0]; exact hK)
      rw [hRN.out, hRS0] at h
      exact ⟨hn, h.1, h.2⟩
     clear hRS0
     go_upto_region 12 with fail
     go_cut [11, 12] (fun s11 s12 wc => s11 = .int .i64 FF ∧ s12 = .bool KB ∧ Below w.heap.size w wc ∧ Blk wc wb #[.int .i64 T, .int .i64 P, .slice (some ⟨g, 0, none⟩) n c, .slice a' m c'] 26 ∧ Blk wc xb #[.int .i64 x, .int .i64 y, .int .i64 u, .int .i64 v] 30 ∧ OwnL wc w.heap.size 41 12 (.slice (some ⟨g, 0, none⟩) n c) n U ∧ OwnL wc w.heap.size 58 2 (.slice a' m c') m Q)
     case first =>
      refine wp_region_held_drew (S := fun w' => w'.cell? ⟨wb, 2, none⟩ = some (.slice (some ⟨g, 0, none⟩) n c) ∧ w'.cell? ⟨xb, 0, none⟩ = some (.int .i64 x) ∧ w'.cell? ⟨xb, 1, none⟩ = some (.int .i64 y) ∧ w'.cell? ⟨xb, 2, none⟩ = some (.int .i64 u) ∧ w'.cell? ⟨xb, 3, none⟩ = some (.int .i64 v) ∧ w'.cell? ⟨g, k * 12 + 1, none⟩ = some (.int .i64 (U (k * 12 + 1))) ∧ w'.cell? ⟨g, k * 12 + 2, none⟩ = some (.int .i64 (U (k * 12 + 2))) ∧ w'.cell? ⟨g, k * 12 + 3, none⟩ = some (.int .i64 (U (k * 12 + 3))) ∧ w'.cell? ⟨g, k * 12 + 4, none⟩ = some (.int .i64 (U (k * 12 + 4))) ∧ w'.cell? ⟨g, k * 12 + 5, none⟩ = some (.int .i64 (U (k * 12 + 5)))) (by kernel_rfl) ?_ (fun hHeld => ?_)
      · (try dsimp only)
        (first | (go_simp; done) | (go_keep; done))
      refine tq 0 hHeld ?_
      refine tq 1 hHeld ?_
      refine tq 2 hHeld ?_
      refine tq 3 hHeld ?_
      refine tq 4 hHeld ?_
      refine tq 5 hHeld ?_
      refine tq 6 hHeld ?_
      refine tq 7 hHeld ?_
      refine tq 8 hHeld ?_
      refine tq 9 hHeld ?_
      refine tq 10 hHeld ?_
      refine tq 11 hHeld ?_
      refine tq 12 hHeld ?_
      refine tc 13 fun K hK => ?_
      (go_simp
       have bz := (Below.refl wr.heap.size wr).drew
       (go_at_call 9; refine (rayShape_q x y u v (U (k * 12 + 1)) (U (k * 12 + 2)) (U (k * 12 + 3)) (U (k * 12 + 4)) (U (k * 12 + 5)) FF KB _ hRS.out).mono ?_; rintro e w7 ⟨rfl, hb7⟩)
       replace bz := bz.trans (hb7.mono bz.size)
       clear hAc2 hXc0 hXc1 hXc2 hXc3 u1 u2 u3 u4 u5
       have hAc2 := (hA.on bz).cell 2 rfl
       have hXc0 := (hX.on bz).cell 0 rfl
       have hXc1 := (hX.on bz).cell 1 rfl
       have hXc2 := (hX.on bz).cell 2 rfl
       have hXc3 := (hX.on bz).cell 3 rfl
       have u1 := (hO.below bz).cellq (q := k * 12 + 1) (by omega)
       have u2 := (hO.below bz).cellq (q := k * 12 + 2) (by omega)
       have u3 := (hO.below bz).cellq (q := k * 12 + 3) (by omega)
       have u4 := (hO.below bz).cellq (q := k * 12 + 4) (by omega)
       have u5 := (hO.below bz).cellq (q := k * 12 + 5) (by omega)
       (try go_wp2_with fail)
       refine tr hK (fun hHeld => ?_)
       clear hK K)
      refine tq 14 hHeld ?_
      refine tq 15 hHeld ?_
      refine tq 16 hHeld ?_
      refine tq 17 hHeld ?_
      refine tq 18 hHeld ?_
      refine wpAnyH_done (by kernel_rfl) ?_ _
      go_wp2_with fail
      go_meet
      exact ⟨rfl, rfl, bel.trans (bz.mono bel.size), hA.on bz, hX.on bz, hO.below bz, hQ.below bz⟩
     case rest =>
     clear bel hA hX hO hQ hAc2 hXc0 hXc1 hXc2 hXc3 u1 u2 u3 u4 u5 hRS
     obtain ⟨rfl, rfl, bel, hA, hX, hO, hQ⟩ := hcut
     have hAc2 := hA.cell 2 rfl
     have u0 := hO.cellq (q := k * 12) (by omega)
     obtain ⟨FN, hFN⟩ : ∃ b, fnN x y u v U i0 l0 k = b := ⟨_, rfl⟩
     rw [hFN] at hnx ⊢
     clear hFN
     go_upto_region 13 with fail
     go_cut [104] (fun s wc => s = .bool false ∧ Below w.heap.size w wc ∧ Blk wc wb #[.int .i64 T, .int .i64 P, .slice (some ⟨g, 0, none⟩) n c, .slice a' m c'] 26 ∧ Blk wc xb #[.int .i64 x, .int .i64 y, .int .i64 u, .int .i64 v] 30 ∧ OwnL wc w.heap.size 41 12 (.slice (some ⟨g, 0, none⟩) n c) n U ∧ OwnL wc w.heap.size 58 2 (.slice a' m c') m Q)
     case first =>
      cases KB with
      | false =>
       go_wp2_with fail
       go_meet
       exact ⟨rfl, bel, hA, hX, hO, hQ⟩
      | true =>
       obtain ⟨b1, b2, b3⟩ := hbest.out rfl
       have d1 : decide (i0 < 0) = false := decide_eq_false b1
       have d2 : decide (FF < l0) = false := decide_eq_false b2
       cases hE : (FF == l0) with
       | true =>
        have b4 : ¬ U (k * 12) < i0 := b3 (by simpa using hE)
        have d4 : decide (U (k * 12) < i0) = false := decide_eq_false b4
        clear b3
        go_wp2_with fail
        go_meet
        exact ⟨rfl, bel, hA, hX, hO, hQ⟩
       | false =>
        clear b3
        go_wp2_with fail
        go_meet
        exact ⟨rfl, bel, hA, hX, hO, hQ⟩
     case rest =>
     clear bel hA hX hO hQ hAc2 u0 hbest
     obtain ⟨rfl, bel, hA, hX, hO, hQ⟩ := hcut
     have hAc2 := hA.cell 2 rfl
     have u0 := hO.cellq (q := k * 12) (by omega)
     cases FN with
     | true =>
      rw [Bool.true_or] at hnx
      go_wp2_with fail
      go_roundw
      case rel => exact ⟨k + 1, by omega, by rw [hnx], by go_num, bel, hA, hX, hO, hQ⟩
      case measure => simp [intOf]; omega
     | false =>
      rw [Bool.false_or] at hnx
      cases KB with
      | false =>
       rw [Bool.false_and, Bool.false_and] at hnx
       go_wp2_with fail
       go_roundw
       case rel => exact ⟨k + 1, by omega, by rw [hnx], by go_num, bel, hA, hX, hO, hQ⟩
       case measure => simp [intOf]; omega
      | true =>
       cases hU : (U (k * 12) == i0) with
       | false =>
        rw [hU, Bool.true_and, Bool.false_and] at hnx
        go_wp2_with fail
        go_roundw
        case rel => exact ⟨k + 1, by omega, by rw [hnx], by go_num, bel, hA, hX, hO, hQ⟩
        case measure => simp [intOf]; omega
       | true =>
        rw [hU, Bool.true_and, Bool.true_and] at hnx
        cases hE : (FF == l0) with
        | false =>
         rw [hE] at hnx
         go_wp2_with fail
         go_roundw
         case rel => exact ⟨k + 1, by omega, by rw [hnx], by go_num, bel, hA, hX, hO, hQ⟩
         case measure => simp [intOf]; omega
        | true =>
         rw [hE] at hnx
         go_wp2_with fail
         go_roundw
         case rel => exact ⟨k + 1, by omega, by rw [hnx], by go_num, bel, hA, hX, hO, hQ⟩
         case measure => simp [intOf]; omega
   · obtain rfl : n = k := by omega
     have hend := fnN_end h0.out ha.out hRN.out
     rw [hend]
     go_wp2_with fail
     go_ret
     exact ⟨rfl, bel⟩
end Go.Proofs.YthijeiehcdoidaaGreat
