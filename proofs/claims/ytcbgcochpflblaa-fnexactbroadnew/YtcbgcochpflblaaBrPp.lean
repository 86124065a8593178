/- All that meet, two by two, by the program. -/
import Derived.Test.YtcbgcochpflblaaBrPv
import Derived.Deep.RegionHeld3
import Derived.Deep.DeepCutAuto
namespace Go.Proofs.Ytcbgcochpflblaa
open Go.RowKit
set_option linter.unusedVariables false
set_option linter.unusedSimpArgs false
section
attribute [local go_sem] Oper.semAt_some
set_option maxRecDepth 20000 in
set_option maxHeartbeats 1000000 in
theorem iBp_t (ai : Option Addr) (n ci : Nat) (U : Nat → Int) (w : World) (h : Flat w ai (n * 5) U) (hn : n ≤ 1048576) (k1 : broadB n U = true) :
    Calls Try.prog 8 #[.agg #[.slice ai n ci]] w fun e w' => ∃ (a' : Option Addr) (c' : Nat), e = .returned (.slice a' (bpL n U n).length c') ∧ OutL w w' 48 2 a' (bpL n U n).length c' (ofL (bpV U (bpL n U n))) := by
  have hset := cset_map
  have hn24 := broadB_n k1
  have fl : ∀ w', Below w.heap.size w w' → Flat w' ai (n * 5) U := fun w' hb => h.below hb
  refine calls_of_wp_marks Try.func8 rfl ?_
  simp only [Try.ntmps8, List.size_toArray, List.length_cons, List.length_nil, Nat.reduceAdd, Nat.reduceSub, Array.replicate_succ, Array.replicate_zero, List.push_toArray, List.append_toArray, List.nil_append, List.cons_append]
  go_upto_region 1 with fail
  go_cut [8] from 5 to 18 (fun s wd => s = .bool false ∧ Below w.heap.size w wd ∧ w.heap.size < wd.heap.size ∧ wd.cell? ⟨w.heap.size, 0, none⟩ = some (.slice ai n ci))
  case first =>
    have hb1 : Below w.heap.size w (w.alloc (.cells #[.slice ai n ci] 30)) := (Below.refl _ _).alloc (Nat.le_refl _) _
    have y0 : (w.alloc (.cells #[.slice ai n ci] 30)).cell? ⟨w.heap.size, 0, none⟩ = some (.slice ai n ci) := by go_simp
    go_wp2_with (go_at_call 20; refine (broadOk_q _ _ _ U _ _ (fl _ hb1) hn k1).mono ?_; rintro e w2 ⟨rfl, hb2⟩)
    go_meet
    exact ⟨rfl, hb1.trans (hb2.mono hb1.size), by have := hb2.size; simp at this; omega, keepc hb2 y0⟩
  case rest =>
  obtain ⟨rfl, hb1, hz1, y0⟩ := hcut
  go_upto_region 4 with fail
  go_cut [3, 4] from 5 to 18 (fun s t wd => ∃ lb tb v base, s = .pointer (some ⟨lb, 0, none⟩) ∧ t = .pointer (some ⟨tb, 0, none⟩) ∧ Below w.heap.size w wd ∧ w.heap.size ≤ lb ∧ lb < wd.heap.size ∧ lb < tb ∧ lb < base ∧ wd.cell? ⟨lb, 0, none⟩ = some (.slice none 0 0) ∧ wd.frozen? ⟨lb, 0, none⟩ = false ∧ wd.cell? ⟨tb, 0, none⟩ = some (.slice ai n ci) ∧ wd.cell? ⟨tb, 1, none⟩ = some v ∧ tb < wd.heap.size ∧ Tree wd base n U v)
  case first =>
    have hE1 : Below wc.heap.size wc (wc.alloc (.cells #[.slice none 0 0] 26)) := (Below.refl _ _).alloc (Nat.le_refl _) _
    have hb2 : Below w.heap.size w (wc.alloc (.cells #[.slice none 0 0] 26)) := hb1.trans (hE1.mono hb1.size)
    have l0 : (wc.alloc (.cells #[.slice none 0 0] 26)).cell? ⟨wc.heap.size, 0, none⟩ = some (.slice none 0 0) := by go_simp
    have l1 : (wc.alloc (.cells #[.slice none 0 0] 26)).frozen? ⟨wc.heap.size, 0, none⟩ = false := by go_simp
    have hz2 : (wc.alloc (.cells #[.slice none 0 0] 26)).heap.size = wc.heap.size + 1 := by simp
    go_wp2_with (go_at_call 21; refine (treeOf_any ai n ci U _ (fl _ hb2) hn24 (broadB_bd k1)).mono ?_; rintro e w4 ⟨v, rfl, hb4, hT4⟩; obtain ⟨gv, nv, cv, rfl⟩ : ∃ gv nv cv, v = .slice gv nv cv := (by rcases hT4 with ⟨_, q⟩ | ⟨_, m, D, hNL, _⟩; exact ⟨_, _, _, q⟩; rcases hNL.is with ⟨_, q⟩ | ⟨g, c0, q⟩; exact ⟨_, _, _, q⟩; exact ⟨_, _, _, q⟩))
    go_meet
    have hE : Below w4.heap.size w4 (w4.alloc (.cells #[.slice ai n ci, .slice gv nv cv] 44)) := (Below.refl _ _).alloc (Nat.le_refl _) _
    have hz4 := hb4.size
    have hbe := hb4.trans (hE.mono hb4.size)
    exact ⟨_, _, .slice gv nv cv, _, rfl, rfl, hb2.trans (hbe.mono hb2.size), by omega, by (simp only [World.size_alloc] at hz4 ⊢; omega), by (simp only [World.size_alloc] at hz4; omega), by (simp only [World.size_alloc]; omega), (hbe.cell (p := ⟨wc.heap.size, 0, none⟩) (by show wc.heap.size < _; omega)).trans l0, (hbe.frozen (p := ⟨wc.heap.size, 0, none⟩) (by show wc.heap.size < _; omega)).trans l1, by go_simp, by go_simp, by simp, hT4.below hE⟩
  case rest =>
  clear hb1 hz1 y0
  obtain ⟨lb, tb, v, base, rfl, rfl, hb1, hl1, hl2, hl3, hl4, l0, lf, t0, t1, ht, hT⟩ := hcut
  have hPC : ∀ A, But lb wc A → PrC tb n ci base ai U v A := fun A hA => PrC.but ⟨fl _ hb1, t0, t1, hT⟩ hA (by omega) hl4 (fun b o e h0 => by
    obtain ⟨b', o', e', hbl, _⟩ := h h0
    rw [e] at e'
    cases e'
    omega)
  have hit := pairs_it tb n ci base ai U v wc hn24
  have hz := hb1.size
  have hNN : (bpL n U n).length ≤ 576 := by
    have := bpL_len n U n
    have := Nat.mul_le_mul hn24 hn24
    omega
  go_wp2
  refine wp_range_outS (gf := 22) (bound := #[.pointer (some ⟨tb, 0, none⟩)]) rfl pairs_enters hit (fun H k args A hE => by obtain ⟨⟨i, j, _, rfl⟩, _⟩ := hE; rfl)
    (fun H k A => ∃ vv, Vs w A H (wc.heap.size + 2) lb 48 2 vv k (bpV U ((bpL n U n).take k)) ∧ But lb wc A) ?hI ?hIs ?hcol ?h0 ?round ?done
  case hI => rintro H H' k A B ⟨vv, h1, h2⟩ hk hg; exact ⟨vv, h1.kxs hk hg (by omega), h2.up hk.below (by omega)⟩
  case hIs => rintro H k A B ⟨vv, h1, h2⟩ hs; exact ⟨vv, h1.sm hs (by omega), h2.up hs.below (Nat.le_refl _)⟩
  case hcol => rintro H k A ⟨vv, h1, h2⟩; exact hPC A h2
  case h0 =>
    intro H W0 hb hz0 hH
    exact ⟨.slice none 0 0, ⟨hb1.trans (hb.mono hz), (hb.cell (p := ⟨lb, 0, none⟩) hl2).trans l0, (hb.frozen (p := ⟨lb, 0, none⟩) hl2).trans lf, OwnL.nil _ _ _ _ _, hl1, by omega, rfl, fun b hb => by cases hb⟩, But.of_below hb⟩
  case done =>
    rintro D H W hD ⟨vv, h1, h2⟩ hK
    obtain ⟨av, cv, rfl⟩ := h1.own.is
    have hbx := h1.box
    go_wp2
    refine marks_ret (B := wc.heap.size) hD rfl hK fun W' hS => ⟨.slice av (bpL n U n).length cv, ?_, av, cv, rfl, (h1.sm hS hz).bel, ?_⟩
    · simp [results, Try.results8, go_sem, *]
    · have ho := (h1.sm hS hz).own
      rw [List.take_length] at ho
      exact ho.base (by omega)
  case round =>
    rintro lr H k W args hlr1 hlr2 hWz ⟨vv, hV1, hBt⟩ hkk ⟨⟨i, j, hij, rfl⟩, hH⟩
    clear hit l0 lf t0 t1 hT hPC
    have hnext : bpV U ((bpL n U n).take (k + 1)) = bpV U ((bpL n U n).take k) ++ [U (i * 5), U (j * 5)] := by
      rw [List.take_add_one, hij, bpV_app]; rfl
    generalize (bpL n U n).take (k + 1) = l1 at hnext ⊢
    generalize (bpL n U n).take k = l0 at hnext hV1 ⊢
    simp only [List.zip_toArray, List.zip_cons_cons, List.zip_nil_left, List.foldl_toArray, List.foldl_cons, List.foldl_nil, List.setIfInBounds_toArray, List.set_cons_succ, List.set_cons_zero]
    refine wpIn_region_plain (by rintro ⟨_, _, h⟩; exact h) (by kernel_rfl) ?_
    go_wp2
    refine ⟨(KeepsOthers.alloc _ _).from _, fun W2 hS hKc hr => ?_⟩
    clear hr
    have hE1 : Below W.heap.size W (W.alloc (Obj.cells #[.int .i64 (U (i * 5)), .int .i64 (U (j * 5))] 48)) := (Below.refl _ _).alloc (Nat.le_refl _) _
    have q0 : (W.alloc (Obj.cells #[.int .i64 (U (i * 5)), .int .i64 (U (j * 5))] 48)).cell? ⟨W.heap.size, 0, none⟩ = some (.int .i64 (U (i * 5))) := by go_simp
    have q1 : (W.alloc (Obj.cells #[.int .i64 (U (i * 5)), .int .i64 (U (j * 5))] 48)).cell? ⟨W.heap.size, 1, none⟩ = some (.int .i64 (U (j * 5))) := by go_simp
    generalize (W.alloc (Obj.cells #[.int .i64 (U (i * 5)), .int .i64 (U (j * 5))] 48)) = W1 at hE1 q0 q1 hS hKc
    have hV2 := (hV1.on hE1).sm hS hz
    have hBt2 := (hBt.up hE1 (by omega)).up hS.below (Nat.le_refl _)
    have hKc2 : Kcs (wc.heap.size + 2) H W W2 := (Kcs.of_below hE1).trans (hKc _ _ hlr2)
    have hz2 : W.heap.size ≤ W2.heap.size := Nat.le_trans hE1.size hS.size
    have hz3 : wc.heap.size + 2 ≤ W2.heap.size := Nat.le_trans hWz hz2
    have p0 := hS.cell q0
    have p1 := hS.cell q1
    clear hS hE1 q0 q1 hKc hV1 hBt
    obtain ⟨av, cv, rfl⟩ := hV2.own.is
    have x0 := hV2.box
    generalize W.heap.size = pb at p0 p1 hH hz2 ⊢
    have hpl : pb < W2.heap.size := cell_lt (a := ⟨pb, 0, none⟩) p0
    have hlbl := hV2.lt
    have hH2 : ∀ b, H b → b < W2.heap.size := fun b e => Nat.lt_of_lt_of_le (hH b e) hz2
    have hE2 : Below W2.heap.size W2 (W2.alloc (Obj.cells #[.int .i64 (U (i * 5)), .int .i64 (U (j * 5))] 48)) := (Below.refl _ _).alloc (Nat.le_refl _) _
    have hxx : ∀ q, q < 2 → (W2.alloc (Obj.cells #[.int .i64 (U (i * 5)), .int .i64 (U (j * 5))] 48)).cell? ⟨W2.heap.size, q, none⟩ = some (.int .i64 (ofL [U (i * 5), U (j * 5)] q)) := fun q hq => by
      rcases (show q = 0 ∨ q = 1 by omega) with rfl | rfl <;> (simp only [ofL]; go_simp; (try rfl))
    refine wpIn_block ?_
    refine wpIn_region_plain (by rintro ⟨_, _, h⟩; exact h) (by kernel_rfl) ?_
    go_wp2_with (refine wpList_appx rfl _ _ _ rfl (wc.heap.size + 2) 48 2 16 zcPr2 Try.underlying26 infoPr2 rfl (by decide) (.slice av k cv) k (ofL (bpV U l0)) rfl (hV2.own.below hE2) W2.heap.size (ofL [U (i * 5), U (j * 5)]) rfl hxx (by unfold maxLen; omega) (by omega) (by simp only [World.size_alloc]; omega) ?_; intro g7 c7 w7 ho7 hg7 hgg; obtain ⟨⟨n0, nf⟩, hV5, hF5⟩ := hV2.push hE2 (by omega) hH2 rfl ho7 hg7 hgg)
    exact ⟨hF5.keeps _, ⟨_, by rw [hnext]; exact hV5, hBt2.trans' hV2.own (by omega) hF5⟩, hKc2.trans (Kcs.fr hF5 (fun b e => e.elim (fun e => .inl (by omega)) (fun e => .inr (hV2.out b e))))⟩
end
end Go.Proofs.Ytcbgcochpflblaa
