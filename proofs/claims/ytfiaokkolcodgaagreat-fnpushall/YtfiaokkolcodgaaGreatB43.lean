/- Texts of a proof. -/
import Derived.Test.YtfiaokkolcodgaaGreatB34
import Derived.Test.YtfiaokkolcodgaaGreatB36
import Derived.Test.YtfiaokkolcodgaaGreatB41
import Derived.Deep.RegionHeld3
import Derived.Deep.DeepCutAuto
set_option maxHeartbeats 16000000
set_option maxRecDepth 20000
namespace Go.Proofs.YtfiaokkolcodgaaGreat
open Go.RowKit
set_option linter.unusedVariables false
set_option linter.unusedSimpArgs false
theorem putRow_is {U V : Nat → Int} {k j : Nat} (hj : j < 12) : putRow U k V (k * 12 + j) = V j := by
 unfold putRow
 rw [if_pos (by omega)]
 congr 1
 omega
theorem one_far {U : Nat → Int} {A B i j : Nat} (hA : i ≠ A) (hB : i ≠ B) (hj : j < 12) (X Y : Int) (bo : Bool) : oneU U A B X Y bo (i * 12 + j) = U (i * 12 + j) := by
 unfold oneU
 cases ((puX (fun j => U (A * 12 + j)) (fun j => U (B * 12 + j)) X Y bo == 0 && puY (fun j => U (A * 12 + j)) (fun j => U (B * 12 + j)) X Y bo == 0) || !fitsB (fun j => U (A * 12 + j)) (fun j => U (B * 12 + j)) (puX (fun j => U (A * 12 + j)) (fun j => U (B * 12 + j)) X Y bo) (puY (fun j => U (A * 12 + j)) (fun j => U (B * 12 + j)) X Y bo)) with
 | true => rfl
 | false => simp only [cond_false]; rw [putRow_else hB hj, putRow_else hA hj]
def Far (C : Nat → Int) (m i : Nat) : Prop := ∀ k, k < m → i ≠ (C (k * 5)).toNat ∧ i ≠ (C (k * 5 + 1)).toNat
theorem rnd_far {C U : Nat → Int} {m i j : Nat} (h : Far C m i) (hj : j < 12) (bo : Bool) : ∀ k, k ≤ m → rndN C bo U k (i * 12 + j) = U (i * 12 + j)
 | 0, _ => rfl
 | k + 1, hk => by rw [rndN, one_far (h k (by omega)).1 (h k (by omega)).2 hj, rnd_far h hj bo k (by omega)]
theorem all_far {C U : Nat → Int} {m i j : Nat} (h : Far C m i) (hj : j < 12) : ∀ r, allN C U m r (i * 12 + j) = U (i * 12 + j)
 | 0 => rfl
 | r + 1 => by rw [allN, rnd_far h hj _ m (Nat.le_refl _), all_far h hj r]
theorem apart_far {U : Nat → Int} {A B i j : Nat} (hA : i ≠ A) (hB : i ≠ B) (hj : j < 12) (X Y D : Int) : apartU U A B X Y D (i * 12 + j) = U (i * 12 + j) := by
 unfold apartU
 cases decide (0 < (D - 64).tdiv 4) with
 | false => rfl
 | true =>
  simp only [cond_true]
  cases decide (0 < U (A * 12 + 8)) <;> cases decide (0 < U (B * 12 + 8)) <;> simp only [cond_true, cond_false]
  · rw [putRow_else hB hj]
  · rw [putRow_else hA hj]
  · rw [putRow_else hB hj, putRow_else hA hj]
theorem aparts_far {C U : Nat → Int} {m i j : Nat} (h : Far C m i) (hj : j < 12) : ∀ k, k ≤ m → apartN C U k (i * 12 + j) = U (i * 12 + j)
 | 0, _ => rfl
 | k + 1, hk => by rw [apartN, apart_far (h k (by omega)).1 (h k (by omega)).2 hj, aparts_far h hj k (by omega)]
theorem pushV_keep (V : Nat → Int) (p q : Int) {j : Nat} (h6 : j ≠ 6) (h7 : j ≠ 7) (h11 : j ≠ 11) : pushV V p q j = V j := by
 unfold pushV
 split
 · rfl
 · exact (setV3 V _ _ _).1 j h6 h7 h11
theorem pushV_fix {V : Nat → Int} (h : V 8 = 0) (p q : Int) : pushV V p q = V := by unfold pushV; rw [if_pos h]
theorem one_keep {U : Nat → Int} {A B i j : Nat} (hAB : A ≠ B) (hj : j < 12) (X Y : Int) (bo : Bool) (h : (j ≠ 6 ∧ j ≠ 7 ∧ j ≠ 11) ∨ U (i * 12 + 8) = 0) : oneU U A B X Y bo (i * 12 + j) = U (i * 12 + j) := by
 have hp : ∀ p q, pushV (fun j => U (i * 12 + j)) p q j = U (i * 12 + j) := fun p q => by
  rcases h with ⟨h6, h7, h11⟩ | h
  · exact pushV_keep _ p q h6 h7 h11
  · rw [pushV_fix h]
 unfold oneU
 cases ((puX (fun j => U (A * 12 + j)) (fun j => U (B * 12 + j)) X Y bo == 0 && puY (fun j => U (A * 12 + j)) (fun j => U (B * 12 + j)) X Y bo == 0) || !fitsB (fun j => U (A * 12 + j)) (fun j => U (B * 12 + j)) (puX (fun j => U (A * 12 + j)) (fun j => U (B * 12 + j)) X Y bo) (puY (fun j => U (A * 12 + j)) (fun j => U (B * 12 + j)) X Y bo)) with
 | true => rfl
 | false =>
  simp only [cond_false]
  by_cases eB : i = B
  · subst eB; rw [putRow_is hj, hp]
  · rw [putRow_else eB hj]
    by_cases eA : i = A
    · subst eA; rw [putRow_is hj, hp]
    · rw [putRow_else eA hj]
theorem rnd_keep {n m : Nat} {C U : Nat → Int} (hC : CtOk n m C) {i j : Nat} (hj : j < 12) (h : (j ≠ 6 ∧ j ≠ 7 ∧ j ≠ 11) ∨ U (i * 12 + 8) = 0) (bo : Bool) : ∀ k, k ≤ m → rndN C bo U k (i * 12 + j) = U (i * 12 + j) ∧ rndN C bo U k (i * 12 + 8) = U (i * 12 + 8)
 | 0, _ => ⟨rfl, rfl⟩
 | k + 1, hk => by
  obtain ⟨h1, h2⟩ := rnd_keep hC hj h bo k (by omega)
  have ha := hC.a k (by omega)
  have hb := hC.b k (by omega)
  have hn := hC.ne k (by omega)
  have hAB : (C (k * 5)).toNat ≠ (C (k * 5 + 1)).toNat := by omega
  rw [rndN]
  exact ⟨(one_keep hAB hj _ _ _ (by rw [h2]; exact h)).trans h1, (one_keep hAB (by decide) _ _ _ (.inl (by decide))).trans h2⟩
theorem all_keep {n m : Nat} {C U : Nat → Int} (hC : CtOk n m C) {i j : Nat} (hj : j < 12) (h : (j ≠ 6 ∧ j ≠ 7 ∧ j ≠ 11) ∨ U (i * 12 + 8) = 0) : ∀ r, allN C U m r (i * 12 + j) = U (i * 12 + j) ∧ allN C U m r (i * 12 + 8) = U (i * 12 + 8)
 | 0 => ⟨rfl, rfl⟩
 | r + 1 => by
  obtain ⟨h1, h2⟩ := all_keep hC hj h r
  obtain ⟨q1, q2⟩ := rnd_keep hC (i := i) (U := allN C U m r) hj (by rw [h2]; exact h) (((r : Nat) : Int) == 0) m (Nat.le_refl _)
  rw [allN]
  exact ⟨q1.trans h1, q2.trans h2⟩
theorem sumD_put {U V : Nat → Int} {A j : Nat} (hj : j < 12) : ∀ n, sumD (putRow U A V) j n = sumD U j n + (if A < n then V j - U (A * 12 + j) else 0)
 | 0 => rfl
 | n + 1 => by
  rw [sumD, sumD, sumD_put hj n]
  by_cases e : n = A
  · subst e
    rw [putRow_is hj, if_neg (Nat.lt_irrefl _), if_pos (Nat.lt_succ_self _)]
    omega
  · rw [putRow_else e hj]
    by_cases l : A < n
    · rw [if_pos l, if_pos (by omega)]; omega
    · rw [if_neg l, if_neg (by omega)]; omega
theorem pushV_6 {V : Nat → Int} (h : V 8 ≠ 0) (p q : Int) : pushV V p q 6 = clampZ 20000000 (V 6 + p) := by unfold pushV; rw [if_neg h]; exact (setV3 V _ _ _).2.1
theorem pushV_7 {V : Nat → Int} (h : V 8 ≠ 0) (p q : Int) : pushV V p q 7 = clampZ 20000000 (V 7 + q) := by unfold pushV; rw [if_neg h]; exact (setV3 V _ _ _).2.2.1
theorem one_sum {U : Nat → Int} {A B n : Nat} (hA : A < n) (hB : B < n) (hAB : A ≠ B) (mA : U (A * 12 + 8) ≠ 0) (mB : U (B * 12 + 8) ≠ 0) (X Y : Int) (bo : Bool) : sumD (oneU U A B X Y bo) 6 n = sumD U 6 n ∧ sumD (oneU U A B X Y bo) 7 n = sumD U 7 n := by
 unfold oneU
 generalize puX (fun j => U (A * 12 + j)) (fun j => U (B * 12 + j)) X Y bo = p
 generalize puY (fun j => U (A * 12 + j)) (fun j => U (B * 12 + j)) X Y bo = q
 cases hk : ((p == 0 && q == 0) || !fitsB (fun j => U (A * 12 + j)) (fun j => U (B * 12 + j)) p q) with
 | true => exact ⟨rfl, rfl⟩
 | false =>
  simp only [cond_false]
  simp only [Bool.or_eq_false_iff, Bool.not_eq_false'] at hk
  have hf := hk.2
  unfold fitsB inB at hf
  simp only [Bool.and_eq_true, Bool.or_eq_true, decide_eq_true_eq, mA, mB, false_or] at hf
  obtain ⟨f1, f2⟩ := hf
  have e6 : pushV (fun j => U (A * 12 + j)) (-p) (-q) 6 = U (A * 12 + 6) - p := by rw [pushV_6 mA]; exact clampZ_id (by omega) (by omega)
  have e7 : pushV (fun j => U (A * 12 + j)) (-p) (-q) 7 = U (A * 12 + 7) - q := by rw [pushV_7 mA]; exact clampZ_id (by omega) (by omega)
  have g6 : pushV (fun j => U (B * 12 + j)) p q 6 = U (B * 12 + 6) + p := by rw [pushV_6 mB]; exact clampZ_id (by omega) (by omega)
  have g7 : pushV (fun j => U (B * 12 + j)) p q 7 = U (B * 12 + 7) + q := by rw [pushV_7 mB]; exact clampZ_id (by omega) (by omega)
  have hBA : B ≠ A := fun e => hAB e.symm
  constructor
  · rw [sumD_put (by decide), sumD_put (by decide), if_pos hA, if_pos hB, putRow_else hBA (by decide), e6, g6]; omega
  · rw [sumD_put (by decide), sumD_put (by decide), if_pos hA, if_pos hB, putRow_else hBA (by decide), e7, g7]; omega
def Free (C U : Nat → Int) (m : Nat) : Prop := ∀ k, k < m → U ((C (k * 5)).toNat * 12 + 8) ≠ 0 ∧ U ((C (k * 5 + 1)).toNat * 12 + 8) ≠ 0
theorem rnd_sum {n m : Nat} {C U : Nat → Int} (hC : CtOk n m C) (hF : Free C U m) (bo : Bool) : ∀ k, k ≤ m → sumD (rndN C bo U k) 6 n = sumD U 6 n ∧ sumD (rndN C bo U k) 7 n = sumD U 7 n
 | 0, _ => ⟨rfl, rfl⟩
 | k + 1, hk => by
  obtain ⟨h1, h2⟩ := rnd_sum hC hF bo k (by omega)
  have ha := hC.a k (by omega)
  have hb := hC.b k (by omega)
  have hn := hC.ne k (by omega)
  have hf := hF k (by omega)
  have k8 : ∀ i, rndN C bo U k (i * 12 + 8) = U (i * 12 + 8) := fun i => (rnd_keep hC (i := i) (j := 8) (by decide) (.inl (by decide)) bo k (by omega)).1
  obtain ⟨q1, q2⟩ := one_sum (U := rndN C bo U k) (A := (C (k * 5)).toNat) (B := (C (k * 5 + 1)).toNat) (n := n) (by omega) (by omega) (by omega) (by rw [k8]; exact hf.1) (by rw [k8]; exact hf.2) (C (k * 5 + 2)) (C (k * 5 + 3)) bo
  rw [rndN]
  exact ⟨q1.trans h1, q2.trans h2⟩
theorem all_sum {n m : Nat} {C U : Nat → Int} (hC : CtOk n m C) (hF : Free C U m) : ∀ r, sumD (allN C U m r) 6 n = sumD U 6 n ∧ sumD (allN C U m r) 7 n = sumD U 7 n
 | 0 => ⟨rfl, rfl⟩
 | r + 1 => by
  obtain ⟨h1, h2⟩ := all_sum hC hF r
  have k8 : ∀ i, allN C U m r (i * 12 + 8) = U (i * 12 + 8) := fun i => (all_keep hC (i := i) (j := 8) (by decide) (.inl (by decide)) r).1
  obtain ⟨q1, q2⟩ := rnd_sum hC (U := allN C U m r) (fun k hk => by rw [k8, k8]; exact hF k hk) (((r : Nat) : Int) == 0) m (Nat.le_refl _)
  rw [allN]
  exact ⟨q1.trans h1, q2.trans h2⟩
theorem meetingsOf_any (a : Option Addr) (n c : Nat) (U : Nat → Int) (ac : Option Addr) (m cc : Nat) (Ct : Nat → Int) (w : World) (h : Flat w a (n * 12) U) (hn : n ≤ 1048576) (h2 : Flat w ac (m * 5) Ct) (hm : m ≤ 1048576) :
 Calls Tryz.prog 19 #[.slice a n c, .slice ac m cc] w fun e w' => Below w.heap.size w w' ∧ (((bodsB n U && decide (m ≤ 144) && ctsB n Ct m) = true ∧ ∃ cb rb S v, e = .returned (.tuple #[.pointer (some ⟨cb, 0, none⟩), .pointer (some ⟨rb, 0, none⟩), .bool true]) ∧ w.heap.size ≤ cb ∧ cb < rb ∧ (∀ b, Xc S b → b < rb) ∧ Mo w w' cb n rb m U Ct S v) ∨
  ((bodsB n U && decide (m ≤ 144) && ctsB n Ct m) = false ∧ e = .returned (.tuple #[.pointer none, .pointer none, .bool false]))) := by
 have hset := cset_map
 cases kb : bodsB n U with
 | false =>
  go_enter Tryz.func19, Tryz.ntmps19
  go_wp2_with (go_at_call 25; refine (columnsOf_f a n c U _ h hn kb).mono ?_; rintro e w1 ⟨rfl, hb1⟩)
  exact bodyPost_ret (v := .tuple #[.pointer none, .pointer none, .bool false]) (by simp [results, Tryz.results19, go_sem, *]) rfl ⟨bel_a, .inr ⟨rfl, rfl⟩⟩
 | true =>
  by_cases km : m ≤ 144
  · have km1 : ¬ ((144 : Int) < (m : Int)) := by omega
    have km2 : decide ((144 : Int) < (m : Int)) = false := decide_eq_false km1
    have km3 : decide (m ≤ 144) = true := decide_eq_true km
    rw [km3]
    clear km3
    go_enter Tryz.func19, Tryz.ntmps19
    go_upto_region 6 with (go_at_call 25; refine (columnsOf_t a n c U _ h hn kb).mono ?_; rintro e w1 ⟨cb, S, rfl, hcb, hC, hb1⟩; have hz1 := hb1.size)
    go_loopw [30] (fun s wr => ∃ (k : Nat) (v : Value), k ≤ m ∧ s = .int .i64 (k : Int) ∧ Mo w wr cb n w1.heap.size k U Ct S v ∧ ctsB n Ct k = true) (fun s _ => m - (intOf s).toNat)
    case atStart => exact ⟨0, .slice none 0 0, Nat.zero_le _, rfl, ⟨hC.below (bel_a), by go_simp, by go_simp, by go_simp, by go_simp, ML.nil _ _ _ _, bel_a, by simp⟩, rfl⟩
    case round =>
     obtain ⟨k, v, hk, rfl, hM, hok⟩ := hrel
     by_cases hlt : k < m
     · have hkm : (k : Int) < (m : Int) := by omega
       obtain ⟨b2, o2, e2, hbl2, hc2⟩ := (h2.below hM.bel) (by omega)
       obtain ⟨A, hA⟩ : ∃ A, Ct (k * 5) = A := ⟨_, rfl⟩
       obtain ⟨B, hBB⟩ : ∃ B, Ct (k * 5 + 1) = B := ⟨_, rfl⟩
       obtain ⟨X, hX⟩ : ∃ X, Ct (k * 5 + 2) = X := ⟨_, rfl⟩
       obtain ⟨Y, hY⟩ : ∃ Y, Ct (k * 5 + 3) = Y := ⟨_, rfl⟩
       obtain ⟨D, hD⟩ : ∃ D, Ct (k * 5 + 4) = D := ⟨_, rfl⟩
       have r0 := hc2 (k * 5) (by omega)
       have r1 := hc2 (k * 5 + 1) (by omega)
       have r2 := hc2 (k * 5 + 2) (by omega)
       have r3 := hc2 (k * 5 + 3) (by omega)
       have r4 := hc2 (k * 5 + 4) (by omega)
       simp only [← Nat.add_assoc] at r0 r1 r2 r3 r4
       rw [hA] at r0
       rw [hBB] at r1
       rw [hX] at r2
       rw [hY] at r3
       rw [hD] at r4
       clear hc2
       subst e2
       cases kt : atB n A B X Y D with
       | false =>
        have hno : ctsB n Ct m = false := ctsB_no (k := k) (by rw [hA, hBB, hX, hY, hD]; exact kt) hlt
        clear hA hBB hX hY hD
        have hbw := hM.bel
        go_wp2_with (go_at_call 37; refine (meetingAt_no (hM.cs.below (bel_a)) hn _ _ _ _ _ kt).mono ?_; rintro e w3 ⟨rfl, hb3⟩; have hbx : Below wr.heap.size wr w3 := ((Below.refl _ _).alloc (Nat.le_refl _) _).trans (hb3.mono (by simp)); have hzx := hbx.size)
        exact bodyPost_ret (v := .tuple #[.pointer none, .pointer none, .bool false]) (by simp [results, Tryz.results19, go_sem, *]) rfl ⟨(hbw.trans (hbx.mono hbw.size)).trans (Below.mono (bel_a : Below w3.heap.size w3 _) (by have := hbw.size; omega)), .inr ⟨by rw [hno]; rfl, rfl⟩⟩
       | true =>
        go_upto_region 11 with (go_at_call 37; refine (meetingAt_yes (hM.cs.below (bel_a)) hn _ _ _ _ _ kt).mono ?_; rintro e w3 ⟨rfl, hb3⟩; have hbx : Below wr.heap.size wr w3 := ((Below.refl _ _).alloc (Nat.le_refl _) _).trans (hb3.mono (by simp)); have hzx := hbx.size; have hM3 := hM.on hbx)
        have x0 := hM3.r0
        have xl := hM3.rl
        have l33 : cb < w1.heap.size := hC.lt
        refine wp_region_held_drew (S := fun w' => w'.cell? ⟨w3.heap.size, 0, none⟩ = some (.int .i64 X) ∧ w'.cell? ⟨w3.heap.size, 1, none⟩ = some (.int .i64 Y) ∧ w'.cell? ⟨w3.heap.size, 2, none⟩ = some (.int .i64 D) ∧ w'.cell? ⟨w3.heap.size, 3, none⟩ = some (.int .i64 A) ∧ w'.cell? ⟨w3.heap.size, 4, none⟩ = some (.pointer (some ⟨cb, 0, none⟩)) ∧ w'.cell? ⟨w3.heap.size, 5, none⟩ = some (.int .i64 B) ∧ w'.cell? ⟨w3.heap.size, 6, none⟩ = some (.pointer (some ⟨cb, 0, none⟩))) (by kernel_rfl) ?_ (fun hHeld => ?_)
        · (try dsimp only)
          (first | (go_simp; done) | (go_keep; done))
        refine tq 0 hHeld ?_
        refine tq 1 hHeld ?_
        refine tq 2 hHeld ?_
        refine tq 3 hHeld ?_
        refine tq 5 hHeld ?_
        refine wpAnyH_ready (rs := [4, 6]) (by kernel_rfl) (by simp) ?_
        refine AllReadyH.cons rfl (fun K hK => ?_) (AllReadyH.cons rfl (fun K hK => ?_) AllReadyH.nil)
        · (go_simp; refine tr hK (fun hHeld => ?_); clear hK K)
          refine tc 6 fun K hK => ?_
          (go_simp; refine tr hK (fun hHeld => ?_); clear hK K)
          refine tc 7 fun K hK => ?_
          (refine step_mapp (by rfl) _ _ _ (by rfl) Tryz.underlying74 (w1.heap.size + 1) cb v Ct k (by rfl) (hM3.ml.below (bel_a)) (w3.heap.size + 1) (by first | rfl | (simp; done) | (go_simp; done)) (by intro i hi; rcases (show i = 0 ∨ i = 1 ∨ i = 2 ∨ i = 3 ∨ i = 4 ∨ i = 5 ∨ i = 6 by omega) with rfl | rfl | rfl | rfl | rfl | rfl | rfl <;> (unfold mv7; rw [hX, hY, hD, hA, hBB]; go_simp)) (by omega) (by first | omega | (simp; done) | (simp; omega)) ?_
           intro g7 c7 w7 ho7 hg7
           have far := fun o => hg7.cell_far ⟨w3.heap.size, o, none⟩ (by first | omega | (simp; done) | (simp; omega)) (fun e => Nat.lt_irrefl _ (hM3.ml.lt _ e.symm).2)
           obtain ⟨⟨n0, nf, l7⟩, hM8⟩ := hM3.push (bel_a) hg7 ho7 (by omega) hC.lt (fun b hb => (hC.xlt hb).2)
           refine tr hK (fun hHeld => ?_)
           clear hK K)
          refine tq 8 hHeld ?_
          refine tq 9 hHeld ?_
          refine tc 10 fun K hK => ?_
          (go_simp; refine tr hK (fun hHeld => ?_); clear hK K)
          refine wpAnyH_done (by kernel_rfl) ?_ _
          go_wp2_with fail
          go_roundw
          case rel => exact ⟨k + 1, _, by omega, by go_num, hM8.on (bel_a), by rw [ctsB, hok, hA, hBB, hX, hY, hD, kt]; rfl⟩
          case measure => simp [intOf]; omega
        · (go_simp; refine tr hK (fun hHeld => ?_); clear hK K)
          refine tc 4 fun K hK => ?_
          (go_simp; refine tr hK (fun hHeld => ?_); clear hK K)
          refine tc 7 fun K hK => ?_
          (refine step_mapp (by rfl) _ _ _ (by rfl) Tryz.underlying74 (w1.heap.size + 1) cb v Ct k (by rfl) (hM3.ml.below (bel_a)) (w3.heap.size + 1) (by first | rfl | (simp; done) | (go_simp; done)) (by intro i hi; rcases (show i = 0 ∨ i = 1 ∨ i = 2 ∨ i = 3 ∨ i = 4 ∨ i = 5 ∨ i = 6 by omega) with rfl | rfl | rfl | rfl | rfl | rfl | rfl <;> (unfold mv7; rw [hX, hY, hD, hA, hBB]; go_simp)) (by omega) (by first | omega | (simp; done) | (simp; omega)) ?_
           intro g7 c7 w7 ho7 hg7
           have far := fun o => hg7.cell_far ⟨w3.heap.size, o, none⟩ (by first | omega | (simp; done) | (simp; omega)) (fun e => Nat.lt_irrefl _ (hM3.ml.lt _ e.symm).2)
           obtain ⟨⟨n0, nf, l7⟩, hM8⟩ := hM3.push (bel_a) hg7 ho7 (by omega) hC.lt (fun b hb => (hC.xlt hb).2)
           refine tr hK (fun hHeld => ?_)
           clear hK K)
          refine tq 8 hHeld ?_
          refine tq 9 hHeld ?_
          refine tc 10 fun K hK => ?_
          (go_simp; refine tr hK (fun hHeld => ?_); clear hK K)
          refine wpAnyH_done (by kernel_rfl) ?_ _
          go_wp2_with fail
          go_roundw
          case rel => exact ⟨k + 1, _, by omega, by go_num, hM8.on (bel_a), by rw [ctsB, hok, hA, hBB, hX, hY, hD, kt]; rfl⟩
          case measure => simp [intOf]; omega
     · obtain rfl : k = m := by omega
       have hbw := hM.bel
       go_wp2_with fail
       exact bodyPost_ret (v := .tuple #[.pointer (some ⟨cb, 0, none⟩), .pointer (some ⟨w1.heap.size, 0, none⟩), .bool true]) (by simp [results, Tryz.results19, go_sem, *]) rfl ⟨hbw, .inl ⟨by rw [hok]; rfl, cb, _, S, v, rfl, hcb, hC.lt, fun b hb => (hC.xlt hb).2, hM⟩⟩
  · have km1 : (144 : Int) < (m : Int) := by omega
    have km2 : decide ((144 : Int) < (m : Int)) = true := decide_eq_true km1
    go_enter Tryz.func19, Tryz.ntmps19
    go_wp2_with (go_at_call 25; refine (columnsOf_t a n c U _ h hn kb).mono ?_; rintro e w1 ⟨cb, S, rfl, hcb, hC, hb1⟩; have hz1 := hb1.size)
    exact bodyPost_ret (v := .tuple #[.pointer none, .pointer none, .bool false]) (by simp [results, Tryz.results19, go_sem, *]) rfl ⟨bel_a, .inr ⟨by rw [decide_eq_false km]; rfl, rfl⟩⟩
end Go.Proofs.YtfiaokkolcodgaaGreat
