/- All that meet, two by two, by the specification. -/
import Derived.Test.YtbngdlbecdloiaaB38
import Derived.Test.YtbngdlbecdloiaaB10
import Derived.Deep.RegionHeld3
import Derived.Deep.DeepCutAuto
set_option maxHeartbeats 16000000
set_option maxRecDepth 20000
namespace Go.Proofs.Ytbngdlbecdloiaa
open Go.RowKit
set_option linter.unusedVariables false
set_option linter.unusedSimpArgs false
def bpK (U : Nat → Int) (i k : Nat) : List Nat := (List.range k).filter (Mt U (U (i * 5 + 1)) (U (i * 5 + 2)) (U (i * 5 + 3)) (U (i * 5 + 4)))
theorem bpK_0 (U : Nat → Int) (i : Nat) : ∀ k, k ≤ i + 1 → bpOf i (bpK U i k) = []
  | 0, _ => rfl
  | k + 1, h => by
    have ih := bpK_0 U i k (by omega)
    unfold bpOf bpK at ih ⊢
    rw [List.range_succ, List.filter_append, List.filter_append, List.map_append, ih, List.nil_append]
    have hk : ¬ i < k := by omega
    by_cases e : Mt U (U (i * 5 + 1)) (U (i * 5 + 2)) (U (i * 5 + 3)) (U (i * 5 + 4)) k = true <;> simp [List.filter, e, hk]
theorem bpK_next (U : Nat → Int) {i k : Nat} (h : i < k) : bpOf i (bpK U i (k + 1)) = bpOf i (bpK U i k) ++ (if Mt U (U (i * 5 + 1)) (U (i * 5 + 2)) (U (i * 5 + 3)) (U (i * 5 + 4)) k = true then [(i, k)] else []) := by
  unfold bpOf bpK
  rw [List.range_succ, List.filter_append, List.filter_append, List.map_append]
  congr 1
  by_cases e : Mt U (U (i * 5 + 1)) (U (i * 5 + 2)) (U (i * 5 + 3)) (U (i * 5 + 4)) k = true <;> simp [List.filter, e, h]
theorem flatP2 (w : World) (p q : Int) (t : TypeId) : Flat (w.alloc (Obj.cells #[.int .i64 p, .int .i64 q] t)).drew (some ⟨w.heap.size, 0, none⟩) (1 * 2) (ofL [p, q]) := by
  intro _
  refine ⟨w.heap.size, 0, rfl, by simp, fun j hj => ?_⟩
  rw [Nat.zero_add]
  rcases (show j = 0 ∨ j = 1 by omega) with rfl | rfl <;> (simp only [ofL]; go_simp; (try rfl))
set_option maxRecDepth 20000 in
set_option maxHeartbeats 1000000 in
theorem l4Pairs_any (ai : Option Addr) (n ci : Nat) (U : Nat → Int) (w : World) (h : Flat w ai (n * 5) U) (hn : n ≤ 24) :
    Calls Try.prog 50 #[.agg #[.slice ai n ci]] w fun e w' => ∃ (a' : Option Addr) (c' : Nat), e = .returned (.slice a' (bpL n U n).length c') ∧ OutL w w' 48 2 a' (bpL n U n).length c' (ofL (bpV U (bpL n U n))) := by
  have hset := cset_map
  go_enter Try.func50, Try.ntmps50
  go_upto_region 1 with fail
  have hE1 : Below w.heap.size w (w.alloc (.cells #[.slice ai n ci] 25)) := (Below.refl _ _).alloc (Nat.le_refl _) _
  have y0 : (w.alloc (.cells #[.slice ai n ci] 25)).cell? ⟨w.heap.size, 0, none⟩ = some (.slice ai n ci) := by go_simp
  have hz1 : w.heap.size < (w.alloc (.cells #[.slice ai n ci] 25)).heap.size := by simp
  generalize (w.alloc (.cells #[.slice ai n ci] 25)) = w1 at hE1 y0 hz1 ⊢
  have hN : ∀ i k, i < n → k ≤ n → (bpL n U i ++ bpOf i (bpK U i k)).length ≤ 576 + 24 := fun i k hi hk => by
    have h1 := bpL_len n U i
    have h2 := bpOf_len i (bpK U i k)
    have h3 : (bpK U i k).length ≤ (List.range k).length := List.length_filter_le _ _
    rw [List.length_range] at h3
    have h4 : i * n ≤ 24 * 24 := Nat.mul_le_mul (by omega) hn
    rw [List.length_append]
    omega
  go_wp2
  go_loopw [3, 4, 5] (fun s3 s4 _ wr => ∃ i a' m c', i ≤ n ∧ s4 = .int .i64 (i : Int) ∧ s3 = .slice a' m c' ∧ Shut ((bpL n U i).length = m) ∧ LsV w1 wr 48 2 a' m c' (bpV U (bpL n U i))) (fun _ s4 _ _ => n - (intOf s4).toNat)
  case atStart => exact ⟨0, _, _, _, Nat.zero_le _, rfl, rfl, rfl, LsV.new w1 _ _⟩
  case round =>
    obtain ⟨i, a', m, c', hi, rfl, rfl, hm, hL⟩ := hrel
    have hx := (hL.bel.cell (p := ⟨w.heap.size, 0, none⟩) (by show w.heap.size < w1.heap.size; omega)).trans y0
    have hxl : w.heap.size < wr.heap.size := by have := hL.bel.size; omega
    by_cases hlt : i < n
    · have hin : (i : Int) < (n : Int) := by omega
      have hlt' := hlt
      go_wp2
      go_loopw [3, 5] (fun s3 s5 wr => ∃ k a' m c', i < k ∧ k ≤ n ∧ s5 = .int .i64 (k : Int) ∧ s3 = .slice a' m c' ∧ Shut ((bpL n U i ++ bpOf i (bpK U i k)).length = m) ∧ LsV w1 wr 48 2 a' m c' (bpV U (bpL n U i ++ bpOf i (bpK U i k)))) (fun _ s5 _ => n - (intOf s5).toNat)
      case atStart => exact ⟨i + 1, _, _, _, by omega, by omega, by go_num, rfl, by rw [bpK_0 U i _ (Nat.le_refl _), List.append_nil]; exact hm, by rw [bpK_0 U i _ (Nat.le_refl _), List.append_nil]; exact hL⟩
      case round =>
        clear hL hx hxl hm
        obtain ⟨k, a2, m, c2, hik, hk, rfl, rfl, hm, hL⟩ := hrel
        have hx := (hL.bel.cell (p := ⟨w.heap.size, 0, none⟩) (by show w.heap.size < w1.heap.size; omega)).trans y0
        have hxl : w.heap.size < wr.heap.size := by have := hL.bel.size; omega
        by_cases hlk : k < n
        · have hkn : (k : Int) < (n : Int) := by omega
          have hN1 := hN i k hlt hk
          rw [hm.out] at hN1
          obtain ⟨b, o, rfl, hbl, hc⟩ := h (by omega)
          obtain ⟨i0, i1, i2, i3, i4⟩ := box_cells hc hlt
          obtain ⟨j0, j1, j2, j3, j4⟩ := box_cells hc hlk
          obtain ⟨mI, hmI⟩ : ∃ q, Mt U (U (i * 5 + 1)) (U (i * 5 + 2)) (U (i * 5 + 3)) (U (i * 5 + 4)) k = q := ⟨_, rfl⟩
          have hmI2 : (leB (U (i * 5 + 1)) (U (i * 5 + 2)) (U (k * 5 + 3)) (U (k * 5 + 4)) && leB (U (k * 5 + 1)) (U (k * 5 + 2)) (U (i * 5 + 3)) (U (i * 5 + 4))) = mI := by rw [Bool.and_comm]; exact hmI
          have hnext := bpK_next U hik
          rw [hmI] at hnext
          have hbw : Below w.heap.size w wr := hE1.trans (hL.bel.mono (by omega))
          have FF : ∀ w', Below wr.heap.size wr w' → w'.cell? ⟨w.heap.size, 0, none⟩ = some (.slice (some ⟨b, o, none⟩) n ci) ∧ w'.cell? ⟨b, o + i * 5 + 1, none⟩ = some (.int .i64 (U (i * 5 + 1))) ∧ w'.cell? ⟨b, o + i * 5 + 1 + 1, none⟩ = some (.int .i64 (U (i * 5 + 2))) ∧ w'.cell? ⟨b, o + i * 5 + 1 + 2, none⟩ = some (.int .i64 (U (i * 5 + 3))) ∧ w'.cell? ⟨b, o + i * 5 + 1 + 3, none⟩ = some (.int .i64 (U (i * 5 + 4))) ∧ w'.cell? ⟨b, o + k * 5 + 1, none⟩ = some (.int .i64 (U (k * 5 + 1))) ∧ w'.cell? ⟨b, o + k * 5 + 1 + 1, none⟩ = some (.int .i64 (U (k * 5 + 2))) ∧ w'.cell? ⟨b, o + k * 5 + 1 + 2, none⟩ = some (.int .i64 (U (k * 5 + 3))) ∧ w'.cell? ⟨b, o + k * 5 + 1 + 3, none⟩ = some (.int .i64 (U (k * 5 + 4))) :=
            fun w' s => ⟨keepc s hx, keepc s (keepc hbw i1), keepc s (keepc hbw i2), keepc s (keepc hbw i3), keepc s (keepc hbw i4), keepc s (keepc hbw j1), keepc s (keepc hbw j2), keepc s (keepc hbw j3), keepc s (keepc hbw j4)⟩
          go_upto_region 8 with fail
          go_cut [35] (fun s wc => s = .bool mI ∧ Below wr.heap.size wr wc)
          case first =>
            refine wp_region_held_drew (S := fun w' => Below wr.heap.size wr w') (by kernel_rfl) ((Below.refl _ _).drew) (fun hHeld => ?_)
            refine tq 0 hHeld ?_
            refine tq 1 hHeld ?_ (hv := by (intro w' s; obtain ⟨q0, q1, q2, q3, q4, q5, q6, q7, q8⟩ := FF w' s; go_simp; (try with_reducible rfl)))
            refine tq 2 hHeld ?_
            refine tq 3 hHeld ?_
            refine tq 4 hHeld ?_
            refine tq 5 hHeld ?_ (hv := by (intro w' s; obtain ⟨q0, q1, q2, q3, q4, q5, q6, q7, q8⟩ := FF w' s; go_simp; (try with_reducible rfl)))
            refine tq 6 hHeld ?_
            refine tq 7 hHeld ?_ (hv := by (intro w' s; obtain ⟨q0, q1, q2, q3, q4, q5, q6, q7, q8⟩ := FF w' s; go_simp; (try with_reducible rfl)))
            refine tq 8 hHeld ?_
            refine tq 9 hHeld ?_
            refine tq 10 hHeld ?_
            refine tq 11 hHeld ?_ (hv := by (intro w' s; obtain ⟨q0, q1, q2, q3, q4, q5, q6, q7, q8⟩ := FF w' s; go_simp; (try with_reducible rfl)))
            refine tc 12 fun K hK => ?_
            (go_simp; (go_at_call 52; refine (l3Meets_any _ _ _ _ _ _ _ _ _).mono ?_; rintro e w8 ⟨rfl, hb8⟩; rw [hmI2]); (try go_wp2_with fail); refine tr hK (fun hHeld => ?_) (hHeld.trans (hb8.mono hHeld.size)); clear hK K)
            refine wpAnyH_done (by kernel_rfl) ?_ _
            go_wp2_with fail
            go_meet
            exact ⟨rfl, hHeld⟩
          case rest =>
          obtain ⟨rfl, hB7⟩ := hcut
          obtain ⟨w9, rfl⟩ : ∃ x, x = wc := ⟨_, rfl⟩
          have hL8 := hL.below hB7
          clear FF hL hx hxl hB7 hbw hmI hmI2
          cases mI with
          | true =>
            rw [if_pos rfl] at hnext
            have FF : ∀ w', Below w1.heap.size w1 w' → w'.cell? ⟨w.heap.size, 0, none⟩ = some (.slice (some ⟨b, o, none⟩) n ci) ∧ w'.cell? ⟨b, o + i * 5, none⟩ = some (.int .i64 (U (i * 5))) ∧ w'.cell? ⟨b, o + k * 5, none⟩ = some (.int .i64 (U (k * 5))) :=
              fun w' s => ⟨(s.cell (p := ⟨w.heap.size, 0, none⟩) (by show w.heap.size < w1.heap.size; omega)).trans y0, keepc (hE1.trans (s.mono (by omega))) i0, keepc (hE1.trans (s.mono (by omega))) j0⟩
            have hnx : bpL n U i ++ bpOf i (bpK U i (k + 1)) = bpL n U i ++ bpOf i (bpK U i k) ++ [(i, k)] := by rw [hnext, List.append_assoc]
            generalize hl : bpV U (bpL n U i ++ bpOf i (bpK U i k)) = l at hL8
            go_upto_region 9 with fail
            refine wp_region_held_drew (S := fun w' => Below w1.heap.size w1 w') (by kernel_rfl) (hL8.bel.drew) (fun hHeld => ?_)
            refine tq 0 hHeld ?_
            refine tq 1 hHeld ?_
            refine tq 2 hHeld ?_ (hv := by (intro w' s; obtain ⟨q0, q1, q2⟩ := FF w' s; go_simp; (try with_reducible rfl)))
            refine tq 3 hHeld ?_
            refine tq 4 hHeld ?_
            refine tq 5 hHeld ?_
            refine tq 6 hHeld ?_ (hv := by (intro w' s; obtain ⟨q0, q1, q2⟩ := FF w' s; go_simp; (try with_reducible rfl)))
            refine tq 7 hHeld ?_
            refine tq 8 hHeld ?_ (hv := by (intro w' s; obtain ⟨q0, q1, q2⟩ := FF w' s; go_simp; (try with_reducible rfl)))
            refine tq 9 hHeld ?_
            refine tq 10 hHeld ?_
            refine tq 11 hHeld ?_
            refine tq 12 hHeld ?_ (hv := by (intro w' s; obtain ⟨q0, q1, q2⟩ := FF w' s; go_simp; (try with_reducible rfl)))
            refine tq 13 hHeld ?_
            refine tc 14 fun K hK => ?_
            (go_simp
             have hE : Below w9.heap.size w9 (w9.alloc (Obj.cells #[.int .i64 (U (i * 5)), .int .i64 (U (k * 5))] 48)).drew := Below.drew ((Below.refl _ _).alloc (Nat.le_refl _) _)
             have hL9 := hL8.below hE
             have hF : Flat (w9.alloc (Obj.cells #[.int .i64 (U (i * 5)), .int .i64 (U (k * 5))] 48)).drew (some ⟨w9.heap.size, 0, none⟩) (1 * 2) (ofL [U (i * 5), U (k * 5)]) := flatP2 w9 _ _ _
             generalize (w9.alloc (Obj.cells #[.int .i64 (U (i * 5)), .int .i64 (U (k * 5))] 48)).drew = w6 at hE hL9 hF ⊢
             refine tr hK (fun hHeld => ?_) hL9.bel
             clear hK K)
            refine tc 15 fun K hK => ?_
            (refine step_app rfl _ _ _ rfl w1.heap.size 48 2 16 zcPr2 Try.underlying45 infoPr2 rfl (by decide) (.slice a2 m c2) m (ofL l) rfl hL9.own (some ⟨w9.heap.size, 0, none⟩) 1 1 (ofL [U (i * 5), U (k * 5)]) rfl hF (by unfold maxLen; omega) (by omega) hL9.bel.size ?_
             intro a7 c7 w7 ho7 hg7
             have hL7 := hL9.push (x := [U (i * 5), U (k * 5)]) rfl hg7 ho7
             refine tr hK (fun hHeld => ?_) hL7.bel
             clear hK K)
            refine tq 16 hHeld ?_
            refine wpAnyH_done (by kernel_rfl) ?_ _
            go_wp2_with fail
            go_roundw
            case rel => exact ⟨k + 1, _, _, _, by omega, by omega, by go_num, rfl, by unfold Shut; rw [hnx, List.length_append, hm.out]; rfl, by rw [hnx, bpV_app, hl]; exact hL7⟩
            case measure => simp [intOf]; omega
          | false =>
            have hnx : bpOf i (bpK U i (k + 1)) = bpOf i (bpK U i k) := by rw [hnext]; simp
            go_wp2_with fail
            go_roundw
            case rel => exact ⟨k + 1, _, _, _, by omega, by omega, by go_num, rfl, by rw [hnx]; exact hm, by rw [hnx]; exact hL8⟩
            case measure => simp [intOf]; omega
        · obtain rfl : k = n := by omega
          go_wp2
          go_roundw
          case rel => exact ⟨i + 1, _, _, _, by omega, by go_num, rfl, hm, hL⟩
          case measure => simp [intOf]; omega
    · obtain rfl : i = n := by omega
      go_wp2
      go_ret
      obtain rfl := hm.out
      exact ⟨_, _, rfl, hE1.trans (hL.bel.mono (by omega)), hL.own.base (by omega)⟩
end Go.Proofs.Ytbngdlbecdloiaa
