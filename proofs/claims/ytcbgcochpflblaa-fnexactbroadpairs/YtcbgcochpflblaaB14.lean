/- All that meet, two by two, by the program. All that meet, two by two, by the specification. All that meet, two by two, whatever the boxes: both sides. Pairs: marked, held, the same. The walk of the exact law of BroadPairs. -/
import Derived.Test.YtcbgcochpflblaaB13
import Derived.Deep.RegionHeld3
import Derived.Deep.DeepCutAuto
import Derived.Test.YtcbgcochpflblaaB12
import Derived.Test.YtcbgcochpflblaaB1
import Derived.Test.YtcbgcochpflblaaB3
import Derived.Test.YtcbgcochpflblaaB5
import Derived.Test.YtcbgcochpflblaaB10
namespace Go.Proofs.Ytcbgcochpflblaa
open Go.RowKit
set_option linter.unusedVariables false
set_option linter.unusedSimpArgs false
section
attribute [local go_sem] Oper.semAt_some
set_option maxRecDepth 20000 in
set_option maxHeartbeats 1000000 in
theorem iBp_t (ai : Option Addr) (n ci : Nat) (U : Nat → Int) (w : World) (h : Flat w ai (n * 5) U) (hn : n ≤ 1048576) (k1 : broadB n U = true) :
    Calls Try.prog 8 #[.agg #[.slice ai n ci]] w fun e w' => ∃ (a' : Option Addr) (c' : Nat), e = .returned (.slice a' (bpL n U n).length c') ∧ OutL w w' 48 2 a' (bpL n U n).length c' (ofL (bpV U (bpL n U n))) := by
  have hset := cset_map
  have hn24 := broadB_n k1
  have fl : ∀ w', Below w.heap.size w w' → Flat w' ai (n * 5) U := fun w' hb => h.below hb
  refine calls_of_wp_marks Try.func8 rfl ?_
  simp only [Try.ntmps8, List.size_toArray, List.length_cons, List.length_nil, Nat.reduceAdd, Nat.reduceSub, Array.replicate_succ, Array.replicate_zero, List.push_toArray, List.append_toArray, List.nil_append, List.cons_append]
  go_upto_region 1 with fail
  go_cut [8] from 5 to 18 (fun s wd => s = .bool false ∧ Below w.heap.size w wd ∧ w.heap.size < wd.heap.size ∧ wd.cell? ⟨w.heap.size, 0, none⟩ = some (.slice ai n ci))
  case first =>
    have hb1 : Below w.heap.size w (w.alloc (.cells #[.slice ai n ci] 30)) := (Below.refl _ _).alloc (Nat.le_refl _) _
    have y0 : (w.alloc (.cells #[.slice ai n ci] 30)).cell? ⟨w.heap.size, 0, none⟩ = some (.slice ai n ci) := by go_simp
    go_wp2_with (go_at_call 20; refine (broadOk_q _ _ _ U _ _ (fl _ hb1) hn k1).mono ?_; rintro e w2 ⟨rfl, hb2⟩)
    go_meet
    exact ⟨rfl, hb1.trans (hb2.mono hb1.size), by have := hb2.size; simp at this; omega, keepc hb2 y0⟩
  case rest =>
  obtain ⟨rfl, hb1, hz1, y0⟩ := hcut
  go_upto_region 4 with fail
  go_cut [3, 4] from 5 to 18 (fun s t wd => ∃ lb tb v base, s = .pointer (some ⟨lb, 0, none⟩) ∧ t = .pointer (some ⟨tb, 0, none⟩) ∧ Below w.heap.size w wd ∧ w.heap.size ≤ lb ∧ lb < wd.heap.size ∧ lb < tb ∧ lb < base ∧ wd.cell? ⟨lb, 0, none⟩ = some (.slice none 0 0) ∧ wd.frozen? ⟨lb, 0, none⟩ = false ∧ wd.cell? ⟨tb, 0, none⟩ = some (.slice ai n ci) ∧ wd.cell? ⟨tb, 1, none⟩ = some v ∧ tb < wd.heap.size ∧ Tree wd base n U v)
  case first =>
    have hE1 : Below wc.heap.size wc (wc.alloc (.cells #[.slice none 0 0] 26)) := (Below.refl _ _).alloc (Nat.le_refl _) _
    have hb2 : Below w.heap.size w (wc.alloc (.cells #[.slice none 0 0] 26)) := hb1.trans (hE1.mono hb1.size)
    have l0 : (wc.alloc (.cells #[.slice none 0 0] 26)).cell? ⟨wc.heap.size, 0, none⟩ = some (.slice none 0 0) := by go_simp
    have l1 : (wc.alloc (.cells #[.slice none 0 0] 26)).frozen? ⟨wc.heap.size, 0, none⟩ = false := by go_simp
    have hz2 : (wc.alloc (.cells #[.slice none 0 0] 26)).heap.size = wc.heap.size + 1 := by simp
    go_wp2_with (go_at_call 21; refine (treeOf_any ai n ci U _ (fl _ hb2) hn24 (broadB_bd k1)).mono ?_; rintro e w4 ⟨v, rfl, hb4, hT4⟩; obtain ⟨gv, nv, cv, rfl⟩ : ∃ gv nv cv, v = .slice gv nv cv := (by rcases hT4 with ⟨_, q⟩ | ⟨_, m, D, hNL, _⟩; exact ⟨_, _, _, q⟩; rcases hNL.is with ⟨_, q⟩ | ⟨g, c0, q⟩; exact ⟨_, _, _, q⟩; exact ⟨_, _, _, q⟩))
    go_meet
    have hE : Below w4.heap.size w4 (w4.alloc (.cells #[.slice ai n ci, .slice gv nv cv] 44)) := (Below.refl _ _).alloc (Nat.le_refl _) _
    have hz4 := hb4.size
    have hbe := hb4.trans (hE.mono hb4.size)
    exact ⟨_, _, .slice gv nv cv, _, rfl, rfl, hb2.trans (hbe.mono hb2.size), by omega, by (simp only [World.size_alloc] at hz4 ⊢; omega), by (simp only [World.size_alloc] at hz4; omega), by (simp only [World.size_alloc]; omega), (hbe.cell (p := ⟨wc.heap.size, 0, none⟩) (by show wc.heap.size < _; omega)).trans l0, (hbe.frozen (p := ⟨wc.heap.size, 0, none⟩) (by show wc.heap.size < _; omega)).trans l1, by go_simp, by go_simp, by simp, hT4.below hE⟩
  case rest =>
  clear hb1 hz1 y0
  obtain ⟨lb, tb, v, base, rfl, rfl, hb1, hl1, hl2, hl3, hl4, l0, lf, t0, t1, ht, hT⟩ := hcut
  have hPC : ∀ A, But lb wc A → PrC tb n ci base ai U v A := fun A hA => PrC.but ⟨fl _ hb1, t0, t1, hT⟩ hA (by omega) hl4 (fun b o e h0 => by
    obtain ⟨b', o', e', hbl, _⟩ := h h0
    rw [e] at e'
    cases e'
    omega)
  have hit := pairs_it tb n ci base ai U v wc hn24
  have hz := hb1.size
  have hNN : (bpL n U n).length ≤ 576 := by
    have := bpL_len n U n
    have := Nat.mul_le_mul hn24 hn24
    omega
  go_wp2
  refine wp_range_outS (gf := 22) (bound := #[.pointer (some ⟨tb, 0, none⟩)]) rfl pairs_enters hit (fun H k args A hE => by obtain ⟨⟨i, j, _, rfl⟩, _⟩ := hE; rfl)
    (fun H k A => ∃ vv, Vs w A H (wc.heap.size + 2) lb 48 2 vv k (bpV U ((bpL n U n).take k)) ∧ But lb wc A) ?hI ?hIs ?hcol ?h0 ?round ?done
  case hI => rintro H H' k A B ⟨vv, h1, h2⟩ hk hg; exact ⟨vv, h1.kxs hk hg (by omega), h2.up hk.below (by omega)⟩
  case hIs => rintro H k A B ⟨vv, h1, h2⟩ hs; exact ⟨vv, h1.sm hs (by omega), h2.up hs.below (Nat.le_refl _)⟩
  case hcol => rintro H k A ⟨vv, h1, h2⟩; exact hPC A h2
  case h0 =>
    intro H W0 hb hz0 hH
    exact ⟨.slice none 0 0, ⟨hb1.trans (hb.mono hz), (hb.cell (p := ⟨lb, 0, none⟩) hl2).trans l0, (hb.frozen (p := ⟨lb, 0, none⟩) hl2).trans lf, OwnL.nil _ _ _ _ _, hl1, by omega, rfl, fun b hb => by cases hb⟩, But.of_below hb⟩
  case done =>
    rintro D H W hD ⟨vv, h1, h2⟩ hK
    obtain ⟨av, cv, rfl⟩ := h1.own.is
    have hbx := h1.box
    go_wp2
    refine marks_ret (B := wc.heap.size) hD rfl hK fun W' hS => ⟨.slice av (bpL n U n).length cv, ?_, av, cv, rfl, (h1.sm hS hz).bel, ?_⟩
    · simp [results, Try.results8, go_sem, *]
    · have ho := (h1.sm hS hz).own
      rw [List.take_length] at ho
      exact ho.base (by omega)
  case round =>
    rintro lr H k W args hlr1 hlr2 hWz ⟨vv, hV1, hBt⟩ hkk ⟨⟨i, j, hij, rfl⟩, hH⟩
    clear hit l0 lf t0 t1 hT hPC
    have hnext : bpV U ((bpL n U n).take (k + 1)) = bpV U ((bpL n U n).take k) ++ [U (i * 5), U (j * 5)] := by
      rw [List.take_add_one, hij, bpV_app]; rfl
    generalize (bpL n U n).take (k + 1) = l1 at hnext ⊢
    generalize (bpL n U n).take k = l0 at hnext hV1 ⊢
    simp only [List.zip_toArray, List.zip_cons_cons, List.zip_nil_left, List.foldl_toArray, List.foldl_cons, List.foldl_nil, List.setIfInBounds_toArray, List.set_cons_succ, List.set_cons_zero]
    refine wpIn_region_plain (by rintro ⟨_, _, h⟩; exact h) (by kernel_rfl) ?_
    go_wp2
    refine ⟨(KeepsOthers.alloc _ _).from _, fun W2 hS hKc hr => ?_⟩
    clear hr
    have hE1 : Below W.heap.size W (W.alloc (Obj.cells #[.int .i64 (U (i * 5)), .int .i64 (U (j * 5))] 48)) := (Below.refl _ _).alloc (Nat.le_refl _) _
    have q0 : (W.alloc (Obj.cells #[.int .i64 (U (i * 5)), .int .i64 (U (j * 5))] 48)).cell? ⟨W.heap.size, 0, none⟩ = some (.int .i64 (U (i * 5))) := by go_simp
    have q1 : (W.alloc (Obj.cells #[.int .i64 (U (i * 5)), .int .i64 (U (j * 5))] 48)).cell? ⟨W.heap.size, 1, none⟩ = some (.int .i64 (U (j * 5))) := by go_simp
    generalize (W.alloc (Obj.cells #[.int .i64 (U (i * 5)), .int .i64 (U (j * 5))] 48)) = W1 at hE1 q0 q1 hS hKc
    have hV2 := (hV1.on hE1).sm hS hz
    have hBt2 := (hBt.up hE1 (by omega)).up hS.below (Nat.le_refl _)
    have hKc2 : Kcs (wc.heap.size + 2) H W W2 := (Kcs.of_below hE1).trans (hKc _ _ hlr2)
    have hz2 : W.heap.size ≤ W2.heap.size := Nat.le_trans hE1.size hS.size
    have hz3 : wc.heap.size + 2 ≤ W2.heap.size := Nat.le_trans hWz hz2
    have p0 := hS.cell q0
    have p1 := hS.cell q1
    clear hS hE1 q0 q1 hKc hV1 hBt
    obtain ⟨av, cv, rfl⟩ := hV2.own.is
    have x0 := hV2.box
    generalize W.heap.size = pb at p0 p1 hH hz2 ⊢
    have hpl : pb < W2.heap.size := cell_lt (a := ⟨pb, 0, none⟩) p0
    have hlbl := hV2.lt
    have hH2 : ∀ b, H b → b < W2.heap.size := fun b e => Nat.lt_of_lt_of_le (hH b e) hz2
    have hE2 : Below W2.heap.size W2 (W2.alloc (Obj.cells #[.int .i64 (U (i * 5)), .int .i64 (U (j * 5))] 48)) := (Below.refl _ _).alloc (Nat.le_refl _) _
    have hxx : ∀ q, q < 2 → (W2.alloc (Obj.cells #[.int .i64 (U (i * 5)), .int .i64 (U (j * 5))] 48)).cell? ⟨W2.heap.size, q, none⟩ = some (.int .i64 (ofL [U (i * 5), U (j * 5)] q)) := fun q hq => by
      rcases (show q = 0 ∨ q = 1 by omega) with rfl | rfl <;> (simp only [ofL]; go_simp; (try rfl))
    refine wpIn_block ?_
    refine wpIn_region_plain (by rintro ⟨_, _, h⟩; exact h) (by kernel_rfl) ?_
    go_wp2_with (refine wpList_appx rfl _ _ _ rfl (wc.heap.size + 2) 48 2 16 zcPr2 Try.underlying26 infoPr2 rfl (by decide) (.slice av k cv) k (ofL (bpV U l0)) rfl (hV2.own.below hE2) W2.heap.size (ofL [U (i * 5), U (j * 5)]) rfl hxx (by unfold maxLen; omega) (by omega) (by simp only [World.size_alloc]; omega) ?_; intro g7 c7 w7 ho7 hg7 hgg; obtain ⟨⟨n0, nf⟩, hV5, hF5⟩ := hV2.push hE2 (by omega) hH2 rfl ho7 hg7 hgg)
    exact ⟨hF5.keeps _, ⟨_, by rw [hnext]; exact hV5, hBt2.trans' hV2.own (by omega) hF5⟩, hKc2.trans (Kcs.fr hF5 (fun b e => e.elim (fun e => .inl (by omega)) (fun e => .inr (hV2.out b e))))⟩
end
end Go.Proofs.Ytcbgcochpflblaa
namespace Go.Proofs.Ytcbgcochpflblaa
open Go.RowKit
set_option linter.unusedVariables false
set_option linter.unusedSimpArgs false
def bpK (U : Nat → Int) (i k : Nat) : List Nat := (List.range k).filter (Mt U (U (i * 5 + 1)) (U (i * 5 + 2)) (U (i * 5 + 3)) (U (i * 5 + 4)))
theorem bpK_0 (U : Nat → Int) (i : Nat) : ∀ k, k ≤ i + 1 → bpOf i (bpK U i k) = []
  | 0, _ => rfl
  | k + 1, h => by
    have ih := bpK_0 U i k (by omega)
    unfold bpOf bpK at ih ⊢
    rw [List.range_succ, List.filter_append, List.filter_append, List.map_append, ih, List.nil_append]
    have hk : ¬ i < k := by omega
    by_cases e : Mt U (U (i * 5 + 1)) (U (i * 5 + 2)) (U (i * 5 + 3)) (U (i * 5 + 4)) k = true <;> simp [List.filter, e, hk]
theorem bpK_next (U : Nat → Int) {i k : Nat} (h : i < k) : bpOf i (bpK U i (k + 1)) = bpOf i (bpK U i k) ++ (if Mt U (U (i * 5 + 1)) (U (i * 5 + 2)) (U (i * 5 + 3)) (U (i * 5 + 4)) k = true then [(i, k)] else []) := by
  unfold bpOf bpK
  rw [List.range_succ, List.filter_append, List.filter_append, List.map_append]
  congr 1
  by_cases e : Mt U (U (i * 5 + 1)) (U (i * 5 + 2)) (U (i * 5 + 3)) (U (i * 5 + 4)) k = true <;> simp [List.filter, e, h]
theorem flatP2 (w : World) (p q : Int) (t : TypeId) : Flat (w.alloc (Obj.cells #[.int .i64 p, .int .i64 q] t)).drew (some ⟨w.heap.size, 0, none⟩) (1 * 2) (ofL [p, q]) := by
  intro _
  refine ⟨w.heap.size, 0, rfl, by simp, fun j hj => ?_⟩
  rw [Nat.zero_add]
  rcases (show j = 0 ∨ j = 1 by omega) with rfl | rfl <;> (simp only [ofL]; go_simp; (try rfl))
set_option maxRecDepth 20000 in
set_option maxHeartbeats 1000000 in
theorem l4Pairs_any (ai : Option Addr) (n ci : Nat) (U : Nat → Int) (w : World) (h : Flat w ai (n * 5) U) (hn : n ≤ 24) :
    Calls Try.prog 18 #[.agg #[.slice ai n ci]] w fun e w' => ∃ (a' : Option Addr) (c' : Nat), e = .returned (.slice a' (bpL n U n).length c') ∧ OutL w w' 48 2 a' (bpL n U n).length c' (ofL (bpV U (bpL n U n))) := by
  have hset := cset_map
  go_enter Try.func18, Try.ntmps18
  go_upto_region 1 with fail
  have hE1 : Below w.heap.size w (w.alloc (.cells #[.slice ai n ci] 30)) := (Below.refl _ _).alloc (Nat.le_refl _) _
  have y0 : (w.alloc (.cells #[.slice ai n ci] 30)).cell? ⟨w.heap.size, 0, none⟩ = some (.slice ai n ci) := by go_simp
  have hz1 : w.heap.size < (w.alloc (.cells #[.slice ai n ci] 30)).heap.size := by simp
  generalize (w.alloc (.cells #[.slice ai n ci] 30)) = w1 at hE1 y0 hz1 ⊢
  have hN : ∀ i k, i < n → k ≤ n → (bpL n U i ++ bpOf i (bpK U i k)).length ≤ 576 + 24 := fun i k hi hk => by
    have h1 := bpL_len n U i
    have h2 := bpOf_len i (bpK U i k)
    have h3 : (bpK U i k).length ≤ (List.range k).length := List.length_filter_le _ _
    rw [List.length_range] at h3
    have h4 : i * n ≤ 24 * 24 := Nat.mul_le_mul (by omega) hn
    rw [List.length_append]
    omega
  go_wp2
  go_loopw [3, 4, 5] (fun s3 s4 _ wr => ∃ i a' m c', i ≤ n ∧ s4 = .int .i64 (i : Int) ∧ s3 = .slice a' m c' ∧ Shut ((bpL n U i).length = m) ∧ LsV w1 wr 48 2 a' m c' (bpV U (bpL n U i))) (fun _ s4 _ _ => n - (intOf s4).toNat)
  case atStart => exact ⟨0, _, _, _, Nat.zero_le _, rfl, rfl, rfl, LsV.new w1 _ _⟩
  case round =>
    obtain ⟨i, a', m, c', hi, rfl, rfl, hm, hL⟩ := hrel
    have hx := (hL.bel.cell (p := ⟨w.heap.size, 0, none⟩) (by show w.heap.size < w1.heap.size; omega)).trans y0
    have hxl : w.heap.size < wr.heap.size := by have := hL.bel.size; omega
    by_cases hlt : i < n
    · have hin : (i : Int) < (n : Int) := by omega
      have hlt' := hlt
      go_wp2
      go_loopw [3, 5] (fun s3 s5 wr => ∃ k a' m c', i < k ∧ k ≤ n ∧ s5 = .int .i64 (k : Int) ∧ s3 = .slice a' m c' ∧ Shut ((bpL n U i ++ bpOf i (bpK U i k)).length = m) ∧ LsV w1 wr 48 2 a' m c' (bpV U (bpL n U i ++ bpOf i (bpK U i k)))) (fun _ s5 _ => n - (intOf s5).toNat)
      case atStart => exact ⟨i + 1, _, _, _, by omega, by omega, by go_num, rfl, by rw [bpK_0 U i _ (Nat.le_refl _), List.append_nil]; exact hm, by rw [bpK_0 U i _ (Nat.le_refl _), List.append_nil]; exact hL⟩
      case round =>
        clear hL hx hxl hm
        obtain ⟨k, a2, m, c2, hik, hk, rfl, rfl, hm, hL⟩ := hrel
        have hx := (hL.bel.cell (p := ⟨w.heap.size, 0, none⟩) (by show w.heap.size < w1.heap.size; omega)).trans y0
        have hxl : w.heap.size < wr.heap.size := by have := hL.bel.size; omega
        by_cases hlk : k < n
        · have hkn : (k : Int) < (n : Int) := by omega
          have hN1 := hN i k hlt hk
          rw [hm.out] at hN1
          obtain ⟨b, o, rfl, hbl, hc⟩ := h (by omega)
          obtain ⟨i0, i1, i2, i3, i4⟩ := box_cells hc hlt
          obtain ⟨j0, j1, j2, j3, j4⟩ := box_cells hc hlk
          obtain ⟨mI, hmI⟩ : ∃ q, Mt U (U (i * 5 + 1)) (U (i * 5 + 2)) (U (i * 5 + 3)) (U (i * 5 + 4)) k = q := ⟨_, rfl⟩
          have hmI2 : (leB (U (i * 5 + 1)) (U (i * 5 + 2)) (U (k * 5 + 3)) (U (k * 5 + 4)) && leB (U (k * 5 + 1)) (U (k * 5 + 2)) (U (i * 5 + 3)) (U (i * 5 + 4))) = mI := by rw [Bool.and_comm]; exact hmI
          have hnext := bpK_next U hik
          rw [hmI] at hnext
          have hbw : Below w.heap.size w wr := hE1.trans (hL.bel.mono (by omega))
          have FF : ∀ w', Below wr.heap.size wr w' → w'.cell? ⟨w.heap.size, 0, none⟩ = some (.slice (some ⟨b, o, none⟩) n ci) ∧ w'.cell? ⟨b, o + i * 5 + 1, none⟩ = some (.int .i64 (U (i * 5 + 1))) ∧ w'.cell? ⟨b, o + i * 5 + 1 + 1, none⟩ = some (.int .i64 (U (i * 5 + 2))) ∧ w'.cell? ⟨b, o + i * 5 + 1 + 2, none⟩ = some (.int .i64 (U (i * 5 + 3))) ∧ w'.cell? ⟨b, o + i * 5 + 1 + 3, none⟩ = some (.int .i64 (U (i * 5 + 4))) ∧ w'.cell? ⟨b, o + k * 5 + 1, none⟩ = some (.int .i64 (U (k * 5 + 1))) ∧ w'.cell? ⟨b, o + k * 5 + 1 + 1, none⟩ = some (.int .i64 (U (k * 5 + 2))) ∧ w'.cell? ⟨b, o + k * 5 + 1 + 2, none⟩ = some (.int .i64 (U (k * 5 + 3))) ∧ w'.cell? ⟨b, o + k * 5 + 1 + 3, none⟩ = some (.int .i64 (U (k * 5 + 4))) :=
            fun w' s => ⟨keepc s hx, keepc s (keepc hbw i1), keepc s (keepc hbw i2), keepc s (keepc hbw i3), keepc s (keepc hbw i4), keepc s (keepc hbw j1), keepc s (keepc hbw j2), keepc s (keepc hbw j3), keepc s (keepc hbw j4)⟩
          go_upto_region 8 with fail
          go_cut [35] (fun s wc => s = .bool mI ∧ Below wr.heap.size wr wc)
          case first =>
            refine wp_region_held_drew (S := fun w' => Below wr.heap.size wr w') (by kernel_rfl) ((Below.refl _ _).drew) (fun hHeld => ?_)
            refine tq 0 hHeld ?_
            refine tq 1 hHeld ?_ (hv := by (intro w' s; obtain ⟨q0, q1, q2, q3, q4, q5, q6, q7, q8⟩ := FF w' s; go_simp; (try with_reducible rfl)))
            refine tq 2 hHeld ?_
            refine tq 3 hHeld ?_
            refine tq 4 hHeld ?_
            refine tq 5 hHeld ?_ (hv := by (intro w' s; obtain ⟨q0, q1, q2, q3, q4, q5, q6, q7, q8⟩ := FF w' s; go_simp; (try with_reducible rfl)))
            refine tq 6 hHeld ?_
            refine tq 7 hHeld ?_ (hv := by (intro w' s; obtain ⟨q0, q1, q2, q3, q4, q5, q6, q7, q8⟩ := FF w' s; go_simp; (try with_reducible rfl)))
            refine tq 8 hHeld ?_
            refine tq 9 hHeld ?_
            refine tq 10 hHeld ?_
            refine tq 11 hHeld ?_ (hv := by (intro w' s; obtain ⟨q0, q1, q2, q3, q4, q5, q6, q7, q8⟩ := FF w' s; go_simp; (try with_reducible rfl)))
            refine tc 12 fun K hK => ?_
            (go_simp; (go_at_call 30; refine (l3Meets_any _ _ _ _ _ _ _ _ _).mono ?_; rintro e w8 ⟨rfl, hb8⟩; rw [hmI2]); (try go_wp2_with fail); refine tr hK (fun hHeld => ?_) (hHeld.trans (hb8.mono hHeld.size)); clear hK K)
            refine wpAnyH_done (by kernel_rfl) ?_ _
            go_wp2_with fail
            go_meet
            exact ⟨rfl, hHeld⟩
          case rest =>
          obtain ⟨rfl, hB7⟩ := hcut
          obtain ⟨w9, rfl⟩ : ∃ x, x = wc := ⟨_, rfl⟩
          have hL8 := hL.below hB7
          clear FF hL hx hxl hB7 hbw hmI hmI2
          cases mI with
          | true =>
            rw [if_pos rfl] at hnext
            have FF : ∀ w', Below w1.heap.size w1 w' → w'.cell? ⟨w.heap.size, 0, none⟩ = some (.slice (some ⟨b, o, none⟩) n ci) ∧ w'.cell? ⟨b, o + i * 5, none⟩ = some (.int .i64 (U (i * 5))) ∧ w'.cell? ⟨b, o + k * 5, none⟩ = some (.int .i64 (U (k * 5))) :=
              fun w' s => ⟨(s.cell (p := ⟨w.heap.size, 0, none⟩) (by show w.heap.size < w1.heap.size; omega)).trans y0, keepc (hE1.trans (s.mono (by omega))) i0, keepc (hE1.trans (s.mono (by omega))) j0⟩
            have hnx : bpL n U i ++ bpOf i (bpK U i (k + 1)) = bpL n U i ++ bpOf i (bpK U i k) ++ [(i, k)] := by rw [hnext, List.append_assoc]
            generalize hl : bpV U (bpL n U i ++ bpOf i (bpK U i k)) = l at hL8
            go_upto_region 9 with fail
            refine wp_region_held_drew (S := fun w' => Below w1.heap.size w1 w') (by kernel_rfl) (hL8.bel.drew) (fun hHeld => ?_)
            refine tq 0 hHeld ?_
            refine tq 1 hHeld ?_
            refine tq 2 hHeld ?_ (hv := by (intro w' s; obtain ⟨q0, q1, q2⟩ := FF w' s; go_simp; (try with_reducible rfl)))
            refine tq 3 hHeld ?_
            refine tq 4 hHeld ?_
            refine tq 5 hHeld ?_
            refine tq 6 hHeld ?_ (hv := by (intro w' s; obtain ⟨q0, q1, q2⟩ := FF w' s; go_simp; (try with_reducible rfl)))
            refine tq 7 hHeld ?_
            refine tq 8 hHeld ?_ (hv := by (intro w' s; obtain ⟨q0, q1, q2⟩ := FF w' s; go_simp; (try with_reducible rfl)))
            refine tq 9 hHeld ?_
            refine tq 10 hHeld ?_
            refine tq 11 hHeld ?_
            refine tq 12 hHeld ?_ (hv := by (intro w' s; obtain ⟨q0, q1, q2⟩ := FF w' s; go_simp; (try with_reducible rfl)))
            refine tq 13 hHeld ?_
            refine tc 14 fun K hK => ?_
            (go_simp
             have hE : Below w9.heap.size w9 (w9.alloc (Obj.cells #[.int .i64 (U (i * 5)), .int .i64 (U (k * 5))] 48)).drew := Below.drew ((Below.refl _ _).alloc (Nat.le_refl _) _)
             have hL9 := hL8.below hE
             have hF : Flat (w9.alloc (Obj.cells #[.int .i64 (U (i * 5)), .int .i64 (U (k * 5))] 48)).drew (some ⟨w9.heap.size, 0, none⟩) (1 * 2) (ofL [U (i * 5), U (k * 5)]) := flatP2 w9 _ _ _
             generalize (w9.alloc (Obj.cells #[.int .i64 (U (i * 5)), .int .i64 (U (k * 5))] 48)).drew = w6 at hE hL9 hF ⊢
             refine tr hK (fun hHeld => ?_) hL9.bel
             clear hK K)
            refine tc 15 fun K hK => ?_
            (refine step_app rfl _ _ _ rfl w1.heap.size 48 2 16 zcPr2 Try.underlying26 infoPr2 rfl (by decide) (.slice a2 m c2) m (ofL l) rfl hL9.own (some ⟨w9.heap.size, 0, none⟩) 1 1 (ofL [U (i * 5), U (k * 5)]) rfl hF (by unfold maxLen; omega) (by omega) hL9.bel.size ?_
             intro a7 c7 w7 ho7 hg7
             have hL7 := hL9.push (x := [U (i * 5), U (k * 5)]) rfl hg7 ho7
             refine tr hK (fun hHeld => ?_) hL7.bel
             clear hK K)
            refine tq 16 hHeld ?_
            refine wpAnyH_done (by kernel_rfl) ?_ _
            go_wp2_with fail
            go_roundw
            case rel => exact ⟨k + 1, _, _, _, by omega, by omega, by go_num, rfl, by unfold Shut; rw [hnx, List.length_append, hm.out]; rfl, by rw [hnx, bpV_app, hl]; exact hL7⟩
            case measure => simp [intOf]; omega
          | false =>
            have hnx : bpOf i (bpK U i (k + 1)) = bpOf i (bpK U i k) := by rw [hnext]; simp
            go_wp2_with fail
            go_roundw
            case rel => exact ⟨k + 1, _, _, _, by omega, by omega, by go_num, rfl, by rw [hnx]; exact hm, by rw [hnx]; exact hL8⟩
            case measure => simp [intOf]; omega
        · obtain rfl : k = n := by omega
          go_wp2
          go_roundw
          case rel => exact ⟨i + 1, _, _, _, by omega, by go_num, rfl, hm, hL⟩
          case measure => simp [intOf]; omega
    · obtain rfl : i = n := by omega
      go_wp2
      go_ret
      obtain rfl := hm.out
      exact ⟨_, _, rfl, hE1.trans (hL.bel.mono (by omega)), hL.own.base (by omega)⟩
end Go.Proofs.Ytcbgcochpflblaa
namespace Go.Proofs.Ytcbgcochpflblaa
open Go.RowKit
set_option linter.unusedVariables false
set_option linter.unusedSimpArgs false
def bpT (n : Nat) (U : Nat → Int) : List Int := bif broadB n U then bpV U (bpL n U n) else []
def bpN (n : Nat) (U : Nat → Int) : Nat := bif broadB n U then (bpL n U n).length else 0
theorem bpN_le (n : Nat) (U : Nat → Int) : bpN n U ≤ 576 := by
  unfold bpN
  cases h : broadB n U with
  | false => exact Nat.zero_le _
  | true =>
    have h1 := bpL_len n U n
    have h2 := broadB_n h
    have := Nat.mul_le_mul h2 h2
    show (bpL n U n).length ≤ 576
    omega
set_option maxRecDepth 20000 in
set_option maxHeartbeats 1000000 in
theorem pairs_i (ai : Option Addr) (n ci : Nat) (U : Nat → Int) (N : Nat) (R : Nat → Int) (w : World) (h : Flat w ai (n * 5) U) (hn : n ≤ 1048576) (hN : bpN n U = N) (hR : R = ofL (bpT n U)) :
    Calls Try.prog 8 #[.agg #[.slice ai n ci]] w fun e w' => ∃ a' c', e = .returned (.slice a' N c') ∧ OutL w w' 48 2 a' N c' R := by
  have hset := cset_map
  have fl : ∀ w', Below w.heap.size w w' → Flat w' ai (n * 5) U := fun w' hb => h.below hb
  subst hR
  unfold bpN at hN
  unfold bpT
  cases k1 : broadB n U with
  | true =>
    rw [k1] at hN
    subst hN
    exact (iBp_t ai n ci U w h hn k1).mono fun e w' h => h
  | false =>
    rw [k1] at hN
    subst hN
    have hb1 : Below w.heap.size w (w.alloc (.cells #[.slice ai n ci] 30)) := (Below.refl _ _).alloc (Nat.le_refl _) _
    go_enter Try.func8, Try.ntmps8
    go_wp2_with (go_at_call 20; refine (broadOk_q _ _ _ U _ _ (fl _ (by first | assumption | exact bel_a)) hn k1).mono ?_; rintro e w2 ⟨rfl, hb2⟩)
    go_ret
    exact ⟨none, 0, rfl, hb1.trans (hb2.mono hb1.size), OwnL.nil _ _ _ _ _⟩
set_option maxRecDepth 20000 in
set_option maxHeartbeats 1000000 in
theorem pairs_s (ai : Option Addr) (n ci : Nat) (U : Nat → Int) (N : Nat) (R : Nat → Int) (w : World) (h : Flat w ai (n * 5) U) (hn : n ≤ 1048576) (hN : bpN n U = N) (hR : R = ofL (bpT n U)) :
    Calls Try.prog 6 #[.agg #[.slice ai n ci]] w fun e w' => ∃ a' c', e = .returned (.slice a' N c') ∧ OutL w w' 48 2 a' N c' R := by
  have hset := cset_map
  have fl : ∀ w', Below w.heap.size w w' → Flat w' ai (n * 5) U := fun w' hb => h.below hb
  subst hR
  unfold bpN at hN
  unfold bpT
  have hb1 : Below w.heap.size w (w.alloc (.cells #[.slice ai n ci] 30)) := (Below.refl _ _).alloc (Nat.le_refl _) _
  have y0 : (w.alloc (.cells #[.slice ai n ci] 30)).cell? ⟨w.heap.size, 0, none⟩ = some (.slice ai n ci) := by go_simp
  cases k1 : broadB n U with
  | true =>
    rw [k1] at hN
    subst hN
    go_enter Try.func6, Try.ntmps6
    go_wp2_with (first
      | (have _ := hb2; go_at_call 18; refine (l4Pairs_any ai n ci U _ (fl _ (hb1.trans (hb2.mono hb1.size))) (broadB_n k1)).mono ?_; rintro e w3 ⟨a3, c3, rfl, hO3⟩)
      | (go_at_call 17; refine (sBroadOk_q _ _ _ U _ _ (fl _ (by first | assumption | exact bel_a)) hn k1).mono ?_; rintro e w2 ⟨rfl, hb2⟩; have y1 := keepc hb2 y0))
    go_ret
    exact ⟨_, _, rfl, (hb1.trans (hb2.mono hb1.size)).trans (hO3.bel.mono (hb1.trans (hb2.mono hb1.size)).size), hO3.own.base (hb1.trans (hb2.mono hb1.size)).size⟩
  | false =>
    rw [k1] at hN
    subst hN
    go_enter Try.func6, Try.ntmps6
    go_wp2_with (go_at_call 17; refine (sBroadOk_q _ _ _ U _ _ (fl _ (by first | assumption | exact bel_a)) hn k1).mono ?_; rintro e w2 ⟨rfl, hb2⟩)
    go_ret
    have hb12 := hb1.trans (hb2.mono hb1.size)
    exact ⟨_, _, rfl, hb12.trans (((Below.refl _ _).alloc (Nat.le_refl _) _).mono hb12.size), (LsV.new w2 48 2).own.base hb12.size⟩
end Go.Proofs.Ytcbgcochpflblaa
namespace Go.Proofs.Ytcbgcochpflblaa
open Go.RowKit
set_option linter.unusedVariables false
set_option linter.unusedSimpArgs false
theorem markPair2 {w wr : World} {base g n c j : Nat} {U : Nat → Int} (hlt : j < n) (ho : OwnL wr base 48 2 (.slice (some ⟨g, 0, none⟩) n c) n (mixU (j * 2) U)) (hg : w.grownBy wr (Value.slice (some ⟨g, 0, none⟩) n c).ownBlock) :
    OwnL ((wr.setCell ⟨g, j * 2, none⟩ (.int .i64 (1 + (j : Int) * 2))).setCell ⟨g, j * 2 + 1, none⟩ (.int .i64 (1 + (j : Int) * 2 + 1))) base 48 2 (.slice (some ⟨g, 0, none⟩) n c) n (mixU ((j + 1) * 2) U) ∧
    w.grownBy ((wr.setCell ⟨g, j * 2, none⟩ (.int .i64 (1 + (j : Int) * 2))).setCell ⟨g, j * 2 + 1, none⟩ (.int .i64 (1 + (j : Int) * 2 + 1))) (Value.slice (some ⟨g, 0, none⟩) n c).ownBlock := by
  have q1 := ho.mark (by omega) (x := 1 + (j : Int) * 2) (by omega)
  have q2 := q1.mark (by omega) (x := 1 + (j : Int) * 2 + 1) (by omega)
  refine ⟨?_, ?_⟩
  · exact q2.congr fun q _ => by rw [show j * 2 + 1 + 1 = ((j + 1) * 2) from by omega]
  · have h0 : w.grownBy wr (some g) := hg
    exact (grown_trans (grown_trans h0 (grown_setG _ _ _ _)) (grown_setG _ _ _ _))
set_option maxRecDepth 20000 in
set_option maxHeartbeats 2000000 in
theorem markPairS_any (base : Nat) (a : Option Addr) (n c : Nat) (U : Nat → Int) (w : World) (h : OwnL w base 48 2 (.slice a n c) n U) (hn : n ≤ 2097152) :
    Calls Try.prog 12 #[.slice a n c, .int .i64 1] w fun e w' => e = .returned (.int .i64 (1 + (n : Int) * 2)) ∧ OwnL w' base 48 2 (.slice a n c) n (fun q => 1 + (q : Int)) ∧ w.grownBy w' (Value.slice a n c).ownBlock := by
  have hset := cset_map
  go_enter Try.func12, Try.ntmps12
  go_wp2
  go_loopw [1, 5] (fun s i wr => ∃ j : Nat, j ≤ n ∧ i = .int .i64 (j : Int) ∧ s = .int .i64 (1 + (j : Int) * 2) ∧ OwnL wr base 48 2 (.slice a n c) n (mixU (j * 2) U) ∧ w.grownBy wr (Value.slice a n c).ownBlock) (fun _ i _ => n - (intOf i).toNat)
  case atStart => exact ⟨0, Nat.zero_le _, rfl, rfl, h.congr (fun q _ => by simp [mixU]), grown_refl _ _⟩
  case round =>
    obtain ⟨j, hj, rfl, rfl, ho, hg⟩ := hrel
    by_cases hlt : j < n
    · have hjn : (j : Int) < (n : Int) := by omega
      obtain ⟨g, rfl, hgb, hgl⟩ := ho.loc (by omega)
      have c0 := ho.cellq (q := j * 2) (by omega)
      have c1 := ho.cellq (q := j * 2 + 1) (by omega)
      have f0 := ho.fro
      go_wp2
      go_roundw
      case rel =>
        obtain ⟨r1, r2⟩ := markPair2 hlt ho hg
        exact ⟨j + 1, by omega, by go_num, congrArg (Value.int .i64) (by omega), r1, r2⟩
      case measure => simp [intOf]; omega
    · obtain rfl : j = n := by omega
      go_wp2
      go_ret
      exact ⟨rfl, ho.congr (fun q hq => by simp only [mixU]; rw [if_pos (by omega)]), hg⟩
set_option maxRecDepth 20000 in
set_option maxHeartbeats 2000000 in
theorem heldPairS_any (a : Option Addr) (n c : Nat) (w : World) (h : Flat w a (n * 2) (fun q => 1 + (q : Int))) (hn : n ≤ 2097152) :
    Calls Try.prog 13 #[.slice a n c, .int .i64 1] w fun e w' => e = .returned (.int .i64 (1 + (n : Int) * 2)) ∧ w' = w := by
  go_enter Try.func13, Try.ntmps13
  go_wp2
  go_loop [1, 5] (fun s i => ∃ j : Nat, j ≤ n ∧ i = .int .i64 (j : Int) ∧ s = .int .i64 (1 + (j : Int) * 2)) (fun _ i => n - (intOf i).toNat)
  case atStart => exact ⟨0, Nat.zero_le _, rfl, rfl⟩
  case round =>
    obtain ⟨j, hj, rfl, rfl⟩ := hrel
    by_cases hlt : j < n
    · have hjn : (j : Int) < (n : Int) := by omega
      obtain ⟨b, o, rfl, hbl, hc⟩ := h (by omega)
      have c0 : w.cell? ⟨b, o + j * 2, none⟩ = some (.int .i64 (1 + (j : Int) * 2)) := (hc (j * 2) (by omega)).trans (congrArg (fun z => some (Value.int .i64 z)) (show (1 : Int) + ((j * 2 : Nat) : Int) = 1 + (j : Int) * 2 by omega))
      have c1 : w.cell? ⟨b, o + j * 2 + 1, none⟩ = some (.int .i64 (1 + (j : Int) * 2 + 1)) := (hc (j * 2 + 1) (by omega)).trans (congrArg (fun z => some (Value.int .i64 z)) (show (1 : Int) + ((j * 2 + 1 : Nat) : Int) = 1 + (j : Int) * 2 + 1 by omega))
      clear hc h
      go_wp2
      go_round
      case rel => exact ⟨j + 1, by omega, by go_num, congrArg (Value.int .i64) (by omega)⟩
      case measure => simp [intOf]; omega
    · obtain rfl : j = n := by omega
      go_wp2
      go_ret
      exact ⟨rfl, rfl⟩
abbrev pairW (V : Nat → Int) : Value := .agg #[.int .i64 (V 0), .int .i64 (V 1)]
theorem eqPair_same (V : Nat → Int) (w : World) :
    Calls Try.prog 23 #[pairW V, pairW V] w fun e w' => e = .returned (.bool true) ∧ Below w.heap.size w w' := by
  have hset := cset_map
  go_enter Try.func23, Try.ntmps23
  go_wp2
  go_ret
  exact ⟨rfl, bel_a⟩
set_option maxRecDepth 20000 in
set_option maxHeartbeats 2000000 in
theorem eqPairS_same (a a' : Option Addr) (n c c' : Nat) (U : Nat → Int) (w : World) (h : Flat w a (n * 2) U) (h' : Flat w a' (n * 2) U) (hn : n ≤ 1048576) :
    Calls Try.prog 9 #[.slice a n c, .slice a' n c'] w fun e w' => e = .returned (.bool true) ∧ Below w.heap.size w w' := by
  have hset := cset_map
  go_enter Try.func9, Try.ntmps9
  go_wp2
  go_loopw [5] (fun i wr => ∃ k : Nat, k ≤ n ∧ i = .int .i64 (k : Int) ∧ Below w.heap.size w wr) (fun i _ => n - (intOf i).toNat)
  case atStart => exact ⟨0, Nat.zero_le _, rfl, Below.refl _ _⟩
  case round =>
    obtain ⟨k, hk, rfl, hB⟩ := hrel
    by_cases hlt : k < n
    · have hkn : (k : Int) < (n : Int) := by omega
      obtain ⟨b, o, rfl, hbl, hc⟩ := (h.below hB) (by omega)
      obtain ⟨b', o', rfl, hbl', hc'⟩ := (h'.below hB) (by omega)
      have c0 := hc (k * 2) (by omega)
      have d0 := hc' (k * 2) (by omega)
      have c1 := hc (k * 2 + 1) (by omega)
      have d1 := hc' (k * 2 + 1) (by omega)
      simp only [← Nat.add_assoc, Nat.add_zero] at c0 d0 c1 d1
      clear hc hc' h h'
      go_upto_region 6 with fail
      refine wp_region_held_drew (S := fun w' => w'.cell? ⟨b, o + k * 2, none⟩ = some (.int .i64 (U (k * 2))) ∧ w'.cell? ⟨b, o + k * 2 + 1, none⟩ = some (.int .i64 (U (k * 2 + 1))) ∧ w'.cell? ⟨b', o' + k * 2, none⟩ = some (.int .i64 (U (k * 2))) ∧ w'.cell? ⟨b', o' + k * 2 + 1, none⟩ = some (.int .i64 (U (k * 2 + 1)))) (by kernel_rfl) ?_ (fun hHeld => ?_)
      · (try dsimp only)
        (first | (go_simp; done) | (go_keep; done))
      refine tq 0 hHeld ?_
      refine tq 1 hHeld ?_
      refine tq 2 hHeld ?_
      refine tq 3 hHeld ?_
      refine tq 4 hHeld ?_
      refine tq 5 hHeld ?_
      refine tq 6 hHeld ?_
      refine tq 7 hHeld ?_
      (refine tc 8 fun K hK => ?_; go_simp; (go_at_call 23; refine (eqPair_same (fun j => U (k * 2 + j)) _).mono ?_; rintro e w1 ⟨rfl, hb1⟩; obtain ⟨hc1, hf1⟩ := bcell hb1; have hz1 := hb1.size; (try simp only [World.size_drew, World.size_alloc, World.size_setCell] at hc1 hf1 hz1); have hk1 := fun o => hc1 b o (by omega); have hk2 := fun o => hc1 b' o (by omega); clear hc1 hf1); (try go_wp2_with fail); refine tr hK (fun hHeld => ?_); clear hK K)
      refine tq 9 hHeld ?_
      refine wpAnyH_done (by kernel_rfl) ?_ _
      go_wp2_with fail
      go_roundw
      case rel => exact ⟨k + 1, by omega, by go_num, hB.trans (hb1.ofDr.mono hB.size)⟩
      case measure => simp [intOf]; omega
    · go_wp2
      go_ret
      exact ⟨rfl, hB⟩

end Go.Proofs.Ytcbgcochpflblaa
namespace Go.Proofs.Ytcbgcochpflblaa
open Go.RowKit
set_option linter.unusedVariables false
set_option linter.unusedSimpArgs false
/-- what came in, and the answers' memory behind it -/
structure AB (w wr : World) (ai : Option Addr) (n ci : Nat) : Prop where
  bel : Below w.heap.size w wr
  big : w.heap.size < wr.heap.size
  box : wr.cell? ⟨w.heap.size, 0, none⟩ = some (.slice ai n ci)
theorem AB.new (w : World) (ai : Option Addr) (n ci : Nat) (t : TypeId) : AB w (w.alloc (.cells #[.slice ai n ci] t)) ai n ci := ⟨(Below.refl _ _).alloc (Nat.le_refl _) _, by simp, by go_simp⟩
theorem AB.on {w wr w' : World} {ai : Option Addr} {n ci : Nat} (h : AB w wr ai n ci) (hb : Below wr.heap.size wr w') : AB w w' ai n ci :=
  ⟨h.bel.trans (hb.mono (by have := h.big; omega)), Nat.lt_of_lt_of_le h.big hb.size, keepc hb h.box⟩
theorem AB.gr {w wr w' : World} {ai : Option Addr} {n ci : Nat} {row : Option Nat} (h : AB w wr ai n ci) (hg : wr.grownBy w' row) (hr : ∀ k, row = some k → w.heap.size < k) : AB w w' ai n ci := by
  have hb : Below (w.heap.size + 1) wr w' := (Below.refl _ _).grown hg (by have := h.big; omega) (fun k e => by have := hr k e; omega)
  exact ⟨h.bel.trans (hb.mono (by omega)), Nat.lt_of_lt_of_le h.big hb.size, (hb.cell (p := ⟨w.heap.size, 0, none⟩) (by show w.heap.size < _; omega)).trans h.box⟩
theorem Lk.lv {w : World} {lo bx : Nat} {a : Option Addr} {n c : Nat} {U : Nat → Int} (h : Lk w lo bx a n c U) : Lv w lo bx 59 5 a n c U := ⟨h.own, h.top, Nat.le_of_lt h.lt⟩
set_option maxRecDepth 20000 in
set_option maxHeartbeats 1000000 in
theorem fnExactBroadPairs_walk (ai : Option Addr) (n ci : Nat) (U : Nat → Int) (w : World) (h : Flat w ai (n * 5) U) (hn : (n : Int) ≤ 9223372036854775807) :
    Calls Try.prog 3 #[.agg #[.slice ai n ci]] w fun e w' => e = .returned (.bool true) ∧ Below w.heap.size w w' := by
  have hset := cset_map
  by_cases h20 : n ≤ 1048576
  · have h1 : ¬ (1048576 - (n : Int) < 0) := by omega
    obtain ⟨N, hN⟩ : ∃ N, bpN n U = N := ⟨_, rfl⟩
    have hN20 : N ≤ 1048576 := by have := bpN_le n U; omega
    obtain ⟨R, hR⟩ : ∃ R, R = ofL (bpT n U) := ⟨_, rfl⟩
    go_enter Try.func3, Try.ntmps3
    go_upto_region 2 with fail
    go_cut [3] (fun s wc => s = .int .i64 (1048576 - (n : Int)) ∧ AB w wc ai n ci)
    case first =>
      have hA0 := AB.new w ai n ci 24
      go_wp2_with (go_at_call 5; refine (szBroad_any _ _ _ _ hn).mono ?_; rw [if_pos h20]; rintro e w1 ⟨rfl, hb1⟩)
      go_meet
      exact ⟨rfl, hA0.on hb1⟩
    case rest =>
    obtain ⟨rfl, hA⟩ := hcut
    have hbx := hA.box
    have hbig := hA.big
    go_upto_region 5 with fail
    go_cut [4] (fun s wc => ∃ aw cw lw hw, s = .slice aw N cw ∧ w.heap.size < lw ∧ lw ≤ hw ∧ AB w wc ai n ci ∧ Lv wc lw hw 48 2 aw N cw R)
    case first =>
      go_wp2_with (first
        | (go_at_call 7; refine (toBroad_any _ _ _ U _ (h.below hA.bel) h20).mono ?_; rintro e w6 ⟨b6, rfl, hl6, hr6, hb6⟩)
        | (go_at_call 6; refine (pairs_s _ n _ U N R _ hr6.flat h20 hN hR).mono ?_; rintro e w8 ⟨a8, c8, rfl, hO8⟩; have hb8 := hO8.bel))
      go_meet
      exact ⟨_, _, _, _, rfl, by have := hb6.size; omega, hO8.bel.size, (hA.on hb6).on hb8, hO8.lv⟩
    case rest =>
    clear hA hbx hbig
    obtain ⟨aw, cw, lw, hw, rfl, g1, g2, hA, hW⟩ := hcut
    have hbx := hA.box
    have hbig := hA.big
    go_upto_region 6 with fail
    go_cut [5] (fun s wc => ∃ ax cx lx bx, s = .pointer (some ⟨bx, 0, none⟩) ∧ hw ≤ lx ∧ lx ≤ bx ∧ AB w wc ai n ci ∧ Lv wc lw hw 48 2 aw N cw R ∧ Lk wc lx bx ax n cx U)
    case first =>
      go_wp2_with (go_at_call 7; refine (toBroad_any _ _ _ U _ (h.below hA.bel) h20).mono ?_; rintro e w2 ⟨b2, rfl, hl2, hr2, hb2⟩)
      go_meet
      have hE : Below w2.heap.size w2 (w2.alloc (.cells #[.slice (some ⟨b2, 0, none⟩) n n] 30)) := (Below.refl _ _).alloc (Nat.le_refl _) _
      exact ⟨_, _, _, _, rfl, hW.le, hb2.size, (hA.on hb2).on hE, (hW.on hb2).on hE, Lk.row hr2 hl2 h20 _⟩
    case rest =>
    clear hA hW hbx hbig
    obtain ⟨ax, cx, lx, bx, rfl, g3, g4, hA, hW, hX⟩ := hcut
    have hxb := hX.box
    go_upto_region 7 with fail
    go_cut [6] (fun s wc => ∃ ag cg lg hg, s = .slice ag N cg ∧ bx < lg ∧ lg ≤ hg ∧ AB w wc ai n ci ∧ Lv wc lw hw 48 2 aw N cw R ∧ Lk wc lx bx ax n cx U ∧ Lv wc lg hg 48 2 ag N cg R)
    case first =>
      go_wp2_with (go_at_call 8; refine (pairs_i _ n _ U N R _ hX.flat h20 hN hR).mono ?_; rintro e w8 ⟨a8, c8, rfl, hO8⟩; have hb8 := hO8.bel)
      go_meet
      exact ⟨_, _, _, _, rfl, hX.lt, hO8.bel.size, hA.on hb8, hW.on hb8, hX.on hb8, hO8.lv⟩
    case rest =>
    clear hA hW hX hxb
    obtain ⟨ag, cg, lg, hg, rfl, g5, g6, hA, hW, hX, hG⟩ := hcut
    go_upto_region 8 with fail
    go_cut [26] (fun s wc => s = .bool false ∧ AB w wc ai n ci ∧ Lv wc lw hw 48 2 aw N cw R ∧ Lk wc lx bx ax n cx U ∧ Lv wc lg hg 48 2 ag N cg R)
    case first =>
      go_wp2_with (go_at_call 9; refine (eqPairS_same _ _ _ _ _ R _ hG.flat hW.flat hN20).mono ?_; rintro e w8 ⟨rfl, hb8⟩)
      go_meet
      exact ⟨rfl, hA.on hb8, hW.on hb8, hX.on hb8, hG.on hb8⟩
    case rest =>
    clear hA hW hX hG
    obtain ⟨rfl, hA, hW, hX, hG⟩ := hcut
    have hbig := hA.big
    have FF : ∀ w', Below wc.heap.size wc w' → w'.cell? ⟨w.heap.size, 0, none⟩ = some (.slice ai n ci) ∧ w'.cell? ⟨bx, 0, none⟩ = some (.slice ax n cx) := fun w' s => ⟨keepc s hA.box, keepc s hX.box⟩
    go_upto_region 10 with fail
    go_cut [31] (fun s wc => s = .bool false ∧ AB w wc ai n ci ∧ Lv wc lw hw 48 2 aw N cw R ∧ Lk wc lx bx ax n cx U ∧ Lv wc lg hg 48 2 ag N cg R)
    case first =>
      refine wp_region_held_drew (S := fun w' => Below wc.heap.size wc w') (by kernel_rfl) ((Below.refl _ _).drew) (fun hHeld => ?_)
      refine tq 0 hHeld ?_ (hv := by (intro w' s; obtain ⟨q1, q2⟩ := FF w' s; go_simp; (try with_reducible rfl)))
      refine tq 1 hHeld ?_ (hv := by (intro w' s; obtain ⟨q1, q2⟩ := FF w' s; go_simp; (try with_reducible rfl)))
      refine tc 2 fun K hK => ?_
      (go_simp; (go_at_call 7; refine (toBroad_any _ _ _ U _ (h.below (hA.bel.trans (hHeld.mono (by omega)))) h20).mono ?_; rintro e w6 ⟨b6, rfl, hl6, hr6, hb6⟩); (try go_wp2_with fail); refine tr hK (fun hHeld => ?_) (hHeld.trans (hb6.mono hHeld.size)); clear hK K)
      refine tc 3 fun K hK => ?_
      (go_simp; (go_at_call 10; refine (eqBroad_same _ _ _ _ _ U _ (hX.flat.below hHeld) hr6.flat h20).mono ?_; rintro e w8 ⟨rfl, hb8⟩); (try go_wp2_with fail); refine tr hK (fun hHeld => ?_) (hHeld.trans (hb8.mono hHeld.size)); clear hK K)
      refine tq 4 hHeld ?_
      refine wpAnyH_done (by kernel_rfl) ?_ _
      go_wp2_with fail
      go_meet
      exact ⟨rfl, hA.on hHeld, hW.on hHeld, hX.on hHeld, hG.on hHeld⟩
    case rest =>
    clear FF hA hW hX hG hbig
    obtain ⟨rfl, hA, hW, hX, hG⟩ := hcut
    have hxb := hX.box
    go_upto_region 13 with fail
    go_cut [7] (fun s wc => s = .int .i64 (1 + (n : Int) * 5) ∧ AB w wc ai n ci ∧ Lv wc lw hw 48 2 aw N cw R ∧ Lv wc lg hg 48 2 ag N cg R)
    case first =>
      go_wp2_with (go_at_call 11; refine (markBroad_any lx _ _ _ U _ hX.own (by omega)).mono ?_; rintro e w2 ⟨rfl, ho2, hg2⟩)
      go_meet
      exact ⟨rfl, hA.gr hg2 (fun k e => by have := (hX.own.lt k e).1; omega), hW.gr hX.lv hg2 (.inl (by omega)), hG.gr hX.lv hg2 (.inr (by omega))⟩
    case rest =>
    clear hA hW hX hG hxb
    obtain ⟨rfl, hA, hW, hG⟩ := hcut
    have hk0 : ¬ (1 + (n : Int) * 5 < 0) := by omega
    go_upto_region 14 with fail
    go_cut [42] (fun s wc => s = .bool false ∧ AB w wc ai n ci ∧ Lv wc lw hw 48 2 aw N cw R ∧ Lv wc lg hg 48 2 ag N cg R)
    case first =>
      go_wp2_with (go_at_call 9; refine (eqPairS_same _ _ _ _ _ R _ hG.flat hW.flat hN20).mono ?_; rintro e w8 ⟨rfl, hb8⟩)
      go_meet
      exact ⟨rfl, hA.on hb8, hW.on hb8, hG.on hb8⟩
    case rest =>
    clear hA hW hG
    obtain ⟨rfl, hA, hW, hG⟩ := hcut
    go_upto_region 17 with fail
    go_cut [8] (fun s wc => s = .int .i64 (1 + (N : Int) * 2) ∧ AB w wc ai n ci ∧ Lv wc lw hw 48 2 aw N cw R ∧ Lv wc lg hg 48 2 ag N cg (fun q => 1 + (q : Int)))
    case first =>
      go_wp2_with (go_at_call 12; refine (markPairS_any lg _ _ _ R _ hG.own (by omega)).mono ?_; rintro e w2 ⟨rfl, ho2, hg2⟩)
      go_meet
      exact ⟨rfl, hA.gr hg2 (fun k e => by have := (hG.own.lt k e).1; omega), hW.gr hG hg2 (.inl (by omega)), hG.me hg2 ho2⟩
    case rest =>
    clear hA hW hG
    obtain ⟨rfl, hA, hW, hG⟩ := hcut
    have hk1 : ¬ (1 + (N : Int) * 2 < 0) := by omega
    have hk2 : ((1 + (N : Int) * 2) != (1 + (N : Int) * 2)) = false := by simp
    go_upto_region 19 with fail
    go_cut [9] (fun s wc => s = .int .i64 (1 + (N : Int) * 2) ∧ AB w wc ai n ci ∧ Lv wc lw hw 48 2 aw N cw R ∧ Lv wc lg hg 48 2 ag N cg (fun q => 1 + (q : Int)))
    case first =>
      go_wp2_with (go_at_call 13; refine (heldPairS_any _ _ _ _ hG.flat (by omega)).mono ?_; rintro e w2 ⟨rfl, rfl⟩)
      go_meet
      exact ⟨rfl, hA, hW, hG⟩
    case rest =>
    clear hA hW hG
    obtain ⟨rfl, hA, hW, hG⟩ := hcut
    have hbx := hA.box
    have hbig := hA.big
    go_upto_region 24 with fail
    go_cut [10] (fun s wc => ∃ ah ch lh hh, s = .slice ah N ch ∧ AB w wc ai n ci ∧ Lv wc lw hw 48 2 aw N cw R ∧ Lv wc lg hg 48 2 ag N cg (fun q => 1 + (q : Int)) ∧ Lv wc lh hh 48 2 ah N ch R)
    case first =>
      go_wp2_with (first
        | (go_at_call 7; refine (toBroad_any _ _ _ U _ (h.below hA.bel) h20).mono ?_; rintro e w6 ⟨b6, rfl, hl6, hr6, hb6⟩)
        | (go_at_call 8; refine (pairs_i _ n _ U N R _ hr6.flat h20 hN hR).mono ?_; rintro e w8 ⟨a8, c8, rfl, hO8⟩; have hb8 := hO8.bel))
      go_meet
      exact ⟨_, _, _, _, rfl, (hA.on hb6).on hb8, (hW.on hb6).on hb8, (hG.on hb6).on hb8, hO8.lv⟩
    case rest =>
    clear hbig hbx hA hW hG
    obtain ⟨ah, ch, lh, hh, rfl, hA, hW, hG, hH⟩ := hcut
    go_upto_region 25 with fail
    go_cut [60] (fun s wc => s = .bool false ∧ AB w wc ai n ci ∧ Lv wc lg hg 48 2 ag N cg (fun q => 1 + (q : Int)))
    case first =>
      go_wp2_with (go_at_call 9; refine (eqPairS_same _ _ _ _ _ R _ hH.flat hW.flat hN20).mono ?_; rintro e w8 ⟨rfl, hb8⟩)
      go_meet
      exact ⟨rfl, hA.on hb8, hG.on hb8⟩
    case rest =>
    clear hA hW hG hH
    obtain ⟨rfl, hA, hG⟩ := hcut
    go_upto_region 28 with fail
    go_wp2_with (go_at_call 13; refine (heldPairS_any _ _ _ _ hG.flat (by omega)).mono ?_; rintro e w2 ⟨rfl, rfl⟩)
    go_ret
    exact ⟨rfl, hA.bel⟩
    
  · have h1 : (1048576 - (n : Int) < 0) := by omega
    go_enter Try.func3, Try.ntmps3
    go_wp2_with (go_at_call 5; refine (szBroad_any _ _ _ _ hn).mono ?_; rw [if_neg h20]; rintro e w1 ⟨rfl, hb1⟩)
    go_ret
    exact ⟨rfl, bel_a⟩
end Go.Proofs.Ytcbgcochpflblaa
