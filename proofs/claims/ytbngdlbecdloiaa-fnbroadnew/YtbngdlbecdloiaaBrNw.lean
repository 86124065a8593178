/- Pairs that meet now and did not ahead, by the program. -/
import Derived.Test.YtbngdlbecdloiaaB25
import Derived.Test.YtbngdlbecdloiaaB38
import Derived.Test.YtbngdlbecdloiaaB40
import Derived.Deep.RegionHeld3
import Derived.Deep.DeepCutAuto
set_option maxHeartbeats 16000000
set_option maxRecDepth 20000
namespace Go.Proofs.Ytbngdlbecdloiaa
open Go.RowKit
set_option linter.unusedVariables false
set_option linter.unusedSimpArgs false
/-- of pairs those that are not in a list -/
def nwL (V : Nat → Int) (mo : Nat) (U : Nat → Int) (l : List (Nat × Nat)) : List (Nat × Nat) := l.filter fun p => !inP V (U (p.1 * 5)) (U (p.2 * 5)) mo
theorem nwL_len (V : Nat → Int) (mo : Nat) (U : Nat → Int) (l : List (Nat × Nat)) : (nwL V mo U l).length ≤ l.length := List.length_filter_le _ _
theorem nwL_app (V : Nat → Int) (mo : Nat) (U : Nat → Int) (l r : List (Nat × Nat)) : nwL V mo U (l ++ r) = nwL V mo U l ++ nwL V mo U r := List.filter_append ..
theorem nwL_in {V : Nat → Int} {mo : Nat} {U : Nat → Int} {i j : Nat} (h : inP V (U (i * 5)) (U (j * 5)) mo = true) : nwL V mo U [(i, j)] = [] := by unfold nwL; simp [h]
theorem nwL_out {V : Nat → Int} {mo : Nat} {U : Nat → Int} {i j : Nat} (h : inP V (U (i * 5)) (U (j * 5)) mo = false) : nwL V mo U [(i, j)] = [(i, j)] := by unfold nwL; simp [h]
def FlatLt (L : Nat) (w : World) (a : Option Addr) (m : Nat) (U : Nat → Int) : Prop := 0 < m → ∃ b o : Nat, a = some ⟨b, o, none⟩ ∧ b < L ∧ ∀ j, j < m → w.cell? ⟨b, o + j, none⟩ = some (.int .i64 (U j))
theorem FlatLt.but {L lb : Nat} {w A : World} {a : Option Addr} {m : Nat} {U : Nat → Int} (h : FlatLt L w a m U) (hb : But lb w A) (hL : L ≤ lb) (hz : L ≤ w.heap.size) : FlatLt L A a m U := fun h0 => by
  obtain ⟨b, o, e, hl, hc⟩ := h h0
  exact ⟨b, o, e, hl, fun j hj => (hb.cell (p := ⟨b, o + j, none⟩) (by show b < w.heap.size; omega) (by show b ≠ lb; omega)).trans (hc j hj)⟩
theorem FlatLt.flat {L : Nat} {w : World} {a : Option Addr} {m : Nat} {U : Nat → Int} (h : FlatLt L w a m U) (hz : L ≤ w.heap.size) : Flat w a m U := fun h0 => by
  obtain ⟨b, o, e, hl, hc⟩ := h h0
  exact ⟨b, o, e, Nat.lt_of_lt_of_le hl hz, hc⟩
theorem FlatLt.of {w : World} {a : Option Addr} {m : Nat} {U : Nat → Int} (h : Flat w a m U) : FlatLt w.heap.size w a m U := h
theorem FlatLt.below {L : Nat} {w A : World} {a : Option Addr} {m : Nat} {U : Nat → Int} (h : FlatLt L w a m U) (hb : Below L w A) : FlatLt L A a m U := fun h0 => by
  obtain ⟨b, o, e, hl, hc⟩ := h h0
  exact ⟨b, o, e, hl, fun j hj => (hb.cell (p := ⟨b, o + j, none⟩) hl).trans (hc j hj)⟩
theorem FlatLt.up {L L' : Nat} {w : World} {a : Option Addr} {m : Nat} {U : Nat → Int} (h : FlatLt L w a m U) (hl : L ≤ L') : FlatLt L' w a m U := fun h0 => by
  obtain ⟨b, o, e, hl', hc⟩ := h h0
  exact ⟨b, o, e, Nat.lt_of_lt_of_le hl' hl, hc⟩
section
attribute [local go_sem] Oper.semAt_some
set_option maxRecDepth 20000 in
set_option maxHeartbeats 8000000 in
theorem iBn_t (ai : Option Addr) (na ca : Nat) (Ua : Nat → Int) (bi : Option Addr) (n ci : Nat) (U : Nat → Int) (w : World) (ha : Flat w ai (na * 5) Ua) (h : Flat w bi (n * 5) U) (hna : na ≤ 1048576) (hn : n ≤ 1048576) (k0 : broadB na Ua = true) (k1 : broadB n U = true) (mo : Nat) (V : Nat → Int) (hmo : bpN na Ua = mo) (hV : V = ofL (bpT na Ua)) :
    Calls Try.prog 31 #[.agg #[.slice ai na ca], .agg #[.slice bi n ci]] w fun e w' => ∃ (a' : Option Addr) (c' : Nat), e = .returned (.slice a' (nwL V mo U (bpL n U n)).length c') ∧ OutL w w' 48 2 a' (nwL V mo U (bpL n U n)).length c' (ofL (bpV U (nwL V mo U (bpL n U n)))) := by
  have hset := cset_map
  have hmo5 := bpN_le na Ua
  rw [hmo] at hmo5
  have hn24 := broadB_n k1
  have fl : ∀ w', Below w.heap.size w w' → Flat w' bi (n * 5) U := fun w' hb => h.below hb
  have fa : ∀ w', Below w.heap.size w w' → Flat w' ai (na * 5) Ua := fun w' hb => ha.below hb
  refine calls_of_wp_marks Try.func31 rfl ?_
  simp only [Try.ntmps31, List.size_toArray, List.length_cons, List.length_nil, Nat.reduceAdd, Nat.reduceSub, Array.replicate_succ, Array.replicate_zero, List.push_toArray, List.append_toArray, List.nil_append, List.cons_append]
  go_upto_region 1 with fail
  go_cut [16] from 8 to 32 (fun s wd => s = .bool false ∧ Below w.heap.size w wd ∧ w.heap.size + 1 < wd.heap.size ∧ wd.cell? ⟨w.heap.size, 0, none⟩ = some (.slice ai na ca) ∧ wd.cell? ⟨w.heap.size + 1, 0, none⟩ = some (.slice bi n ci))
  case first =>
    have hb1 : Below w.heap.size w ((w.alloc (.cells #[.slice ai na ca] 25)).alloc (.cells #[.slice bi n ci] 25)) := ((Below.refl _ _).alloc (Nat.le_refl _) _).alloc (by simp) _
    have y0 : ((w.alloc (.cells #[.slice ai na ca] 25)).alloc (.cells #[.slice bi n ci] 25)).cell? ⟨w.heap.size, 0, none⟩ = some (.slice ai na ca) := by go_simp
    have y1 : ((w.alloc (.cells #[.slice ai na ca] 25)).alloc (.cells #[.slice bi n ci] 25)).cell? ⟨w.heap.size + 1, 0, none⟩ = some (.slice bi n ci) := by go_simp
    have hz1 : w.heap.size + 1 < ((w.alloc (.cells #[.slice ai na ca] 25)).alloc (.cells #[.slice bi n ci] 25)).heap.size := by simp
    generalize ((w.alloc (.cells #[.slice ai na ca] 25)).alloc (.cells #[.slice bi n ci] 25)) = w1 at hb1 y0 y1 hz1 ⊢
    go_wp2_with (first
      | (have _ := hb2; go_at_call 13; refine (broadOk_q _ _ _ U _ _ (fl _ hbb) hn k1).mono ?_; rintro e w3 ⟨rfl, hb3⟩)
      | (go_at_call 13; refine (broadOk_q _ _ _ Ua _ _ (fa _ hb1) hna k0).mono ?_; rintro e w2 ⟨rfl, hb2⟩; have hbb := hb1.trans (hb2.mono hb1.size); have z1 := keepc hb2 y1; have z0 := keepc hb2 y0))
    go_meet
    exact ⟨rfl, hbb.trans (hb3.mono hbb.size), by have := hb2.size; have := hb3.size; omega, keepc hb3 z0, keepc hb3 z1⟩
  case rest =>
  obtain ⟨rfl, hb1, hz1, y0, y1⟩ := hcut
  go_upto_region 3 with fail
  go_cut [5] from 8 to 32 (fun s wd => ∃ ob ao co, s = .pointer (some ⟨ob, 0, none⟩) ∧ Below w.heap.size w wd ∧ w.heap.size + 1 < ob ∧ ob < wd.heap.size ∧ wd.cell? ⟨w.heap.size + 1, 0, none⟩ = some (.slice bi n ci) ∧ wd.cell? ⟨ob, 0, none⟩ = some (.slice ao mo co) ∧ Flat wd ao (mo * 2) V)
  case first =>
    go_wp2_with (go_at_call 20; refine (pairs_i _ _ _ Ua mo V _ (fa _ hb1) hna hmo hV).mono ?_; rintro e w4 ⟨ao, co, rfl, hO4⟩)
    go_meet
    have hz4 := hO4.bel.size
    have hb4 := hb1.trans (hO4.bel.mono hb1.size)
    have z1 := (hO4.bel.cell (p := ⟨w.heap.size + 1, 0, none⟩) hz1).trans y1
    have hF := hO4.own.flat
    first
      | (generalize hWW : (w4.alloc _) = w5
         have hE : Below w4.heap.size w4 w5 := by subst hWW; exact (Below.refl _ _).alloc (Nat.le_refl _) _
         exact ⟨_, ao, co, rfl, hb4.trans (hE.mono hb4.size), by omega, by subst hWW; simp, (hE.cell (p := ⟨w.heap.size + 1, 0, none⟩) (by show w.heap.size + 1 < w4.heap.size; omega)).trans z1, by subst hWW; go_simp, hF.below hE⟩)
  case rest =>
  clear hb1 hz1 y0 y1 hV hmo
  obtain ⟨ob, ao, co, rfl, hb1, ho1, ho2, y1, x0, hF⟩ := hcut
  have hz1 : w.heap.size + 1 < wc.heap.size := by omega
  go_upto_region 5 with fail
  go_cut [6, 7] from 8 to 32 (fun s t wd => ∃ lb tb v base, s = .pointer (some ⟨lb, 0, none⟩) ∧ t = .pointer (some ⟨tb, 0, none⟩) ∧ Below w.heap.size w wd ∧ w.heap.size ≤ lb ∧ lb < wd.heap.size ∧ lb < tb ∧ lb < base ∧ wd.cell? ⟨lb, 0, none⟩ = some (.slice none 0 0) ∧ wd.frozen? ⟨lb, 0, none⟩ = false ∧ wd.cell? ⟨tb, 0, none⟩ = some (.slice bi n ci) ∧ wd.cell? ⟨tb, 1, none⟩ = some v ∧ tb < wd.heap.size ∧ Tree wd base n U v ∧ ob < lb ∧ wd.cell? ⟨ob, 0, none⟩ = some (.slice ao mo co) ∧ FlatLt lb wd ao (mo * 2) V)
  case first =>
    have hE1 : Below wc.heap.size wc (wc.alloc (.cells #[.slice none 0 0] 45)) := (Below.refl _ _).alloc (Nat.le_refl _) _
    have hb2 : Below w.heap.size w (wc.alloc (.cells #[.slice none 0 0] 45)) := hb1.trans (hE1.mono hb1.size)
    have l0 : (wc.alloc (.cells #[.slice none 0 0] 45)).cell? ⟨wc.heap.size, 0, none⟩ = some (.slice none 0 0) := by go_simp
    have l1 : (wc.alloc (.cells #[.slice none 0 0] 45)).frozen? ⟨wc.heap.size, 0, none⟩ = false := by go_simp
    have hz2 : (wc.alloc (.cells #[.slice none 0 0] 45)).heap.size = wc.heap.size + 1 := by simp
    go_wp2_with (go_at_call 46; refine (treeOf_any bi n ci U _ (fl _ hb2) hn24 (broadB_bd k1)).mono ?_; rintro e w4 ⟨v, rfl, hb4, hT4⟩; obtain ⟨gv, nv, cv, rfl⟩ : ∃ gv nv cv, v = .slice gv nv cv := (by rcases hT4 with ⟨_, q⟩ | ⟨_, m, D, hNL, _⟩; exact ⟨_, _, _, q⟩; rcases hNL.is with ⟨_, q⟩ | ⟨g, c0, q⟩; exact ⟨_, _, _, q⟩; exact ⟨_, _, _, q⟩))
    go_meet
    have hE : Below w4.heap.size w4 (w4.alloc (.cells #[.slice bi n ci, .slice gv nv cv] 77)) := (Below.refl _ _).alloc (Nat.le_refl _) _
    have hz4 := hb4.size
    have hbe := hb4.trans (hE.mono hb4.size)
    have hwc : Below wc.heap.size wc (w4.alloc (.cells #[.slice bi n ci, .slice gv nv cv] 77)) := hE1.trans (hbe.mono hE1.size)
    exact ⟨_, _, .slice gv nv cv, _, rfl, rfl, hb2.trans (hbe.mono hb2.size), by omega, by (simp only [World.size_alloc] at hz4 ⊢; omega), by (simp only [World.size_alloc] at hz4; omega), by (simp only [World.size_alloc]; omega), (hbe.cell (p := ⟨wc.heap.size, 0, none⟩) (by show wc.heap.size < _; omega)).trans l0, (hbe.frozen (p := ⟨wc.heap.size, 0, none⟩) (by show wc.heap.size < _; omega)).trans l1, by go_simp, by go_simp, by simp, hT4.below hE, ho2, (hwc.cell (p := ⟨ob, 0, none⟩) ho2).trans x0, (FlatLt.of hF).below hwc⟩
  case rest =>
  clear hb1 ho1 ho2 hz1 y1 x0 hF
  obtain ⟨lb, tb, v, base, rfl, rfl, hb1, hl1, hl2, hl3, hl4, l0, lf, t0, t1, ht, hT, hol, x0, hF⟩ := hcut
  have hPC : ∀ A, But lb wc A → PrC tb n ci base bi U v A := fun A hA => PrC.but ⟨fl _ hb1, t0, t1, hT⟩ hA (by omega) hl4 (fun b o e h0 => by
    obtain ⟨b', o', e', hbl, _⟩ := h h0
    rw [e] at e'
    cases e'
    omega)
  have hit := pairs_it tb n ci base bi U v wc hn24
  have hz := hb1.size
  have hNN : (bpL n U n).length ≤ 576 := by
    have := bpL_len n U n
    have := Nat.mul_le_mul hn24 hn24
    omega
  go_wp2
  refine wp_range_outS (gf := 49) (bound := #[.pointer (some ⟨tb, 0, none⟩)]) rfl pairs_enters hit (fun H k args A hE => by obtain ⟨⟨i, j, _, rfl⟩, _⟩ := hE; rfl)
    (fun H k A => ∃ vv m, Vs w A H (wc.heap.size + 2) lb 48 2 vv m (bpV U (nwL V mo U ((bpL n U n).take k))) ∧ But lb wc A) ?hI ?hIs ?hcol ?h0 ?round ?done
  case hI => rintro H H' k A B ⟨vv, m, h1, h2⟩ hk hg; exact ⟨vv, m, h1.kxs hk hg (by omega), h2.up hk.below (by omega)⟩
  case hIs => rintro H k A B ⟨vv, m, h1, h2⟩ hs; exact ⟨vv, m, h1.sm hs (by omega), h2.up hs.below (Nat.le_refl _)⟩
  case hcol => rintro H k A ⟨vv, m, h1, h2⟩; exact hPC A h2
  case h0 =>
    intro H W0 hb hz0 hH
    exact ⟨.slice none 0 0, 0, ⟨hb1.trans (hb.mono hz), (hb.cell (p := ⟨lb, 0, none⟩) hl2).trans l0, (hb.frozen (p := ⟨lb, 0, none⟩) hl2).trans lf, OwnL.nil _ _ _ _ _, hl1, by omega, rfl, fun b hb => by cases hb⟩, But.of_below hb⟩
  case done =>
    rintro D H W hD ⟨vv, m, h1, h2⟩ hK
    obtain ⟨av, cv, rfl⟩ := h1.own.is
    have hbx := h1.box
    have hlen := h1.len
    rw [bpV_len, List.take_length] at hlen
    obtain rfl : m = (nwL V mo U (bpL n U n)).length := by omega
    go_wp2
    refine marks_ret (B := wc.heap.size) hD rfl hK fun W' hS => ⟨.slice av (nwL V mo U (bpL n U n)).length cv, ?_, av, cv, rfl, (h1.sm hS hz).bel, ?_⟩
    · simp [results, Try.results31, go_sem, *]
    · have ho := (h1.sm hS hz).own
      rw [List.take_length] at ho
      exact ho.base (by omega)
  case round =>
    rintro lr H k W args hlr1 hlr2 hWz ⟨vv, m, hV1, hBt⟩ hkk ⟨⟨i, j, hij, rfl⟩, hH⟩
    clear hit l0 lf t0 t1 hT hPC
    have hm5 : m ≤ 576 := by
      have h1 := hV1.len
      rw [bpV_len] at h1
      have h2 := nwL_len V mo U ((bpL n U n).take k)
      have h3 := List.length_take_le k (bpL n U n)
      have h4 : ((bpL n U n).take k).length ≤ (bpL n U n).length := List.length_take_le' _ _
      omega
    have hnext : bpV U (nwL V mo U ((bpL n U n).take (k + 1))) = bpV U (nwL V mo U ((bpL n U n).take k)) ++ bpV U (nwL V mo U [(i, j)]) := by
      rw [List.take_add_one, hij, nwL_app, bpV_app]; rfl
    generalize (bpL n U n).take (k + 1) = l1 at hnext ⊢
    generalize bpV U (nwL V mo U ((bpL n U n).take k)) = l0 at hnext hV1 ⊢
    simp only [List.zip_toArray, List.zip_cons_cons, List.zip_nil_left, List.foldl_toArray, List.foldl_cons, List.foldl_nil, List.setIfInBounds_toArray, List.set_cons_succ, List.set_cons_zero]
    refine wpIn_region_plain (by rintro ⟨_, _, h⟩; exact h) (by kernel_rfl) ?_
    go_wp2
    refine ⟨(KeepsOthers.alloc _ _).from _, fun W2 hS hKc hr => ?_⟩
    clear hr
    have hE1 : Below W.heap.size W (W.alloc (Obj.cells #[.int .i64 (U (i * 5)), .int .i64 (U (j * 5))] 48)) := (Below.refl _ _).alloc (Nat.le_refl _) _
    have q0 : (W.alloc (Obj.cells #[.int .i64 (U (i * 5)), .int .i64 (U (j * 5))] 48)).cell? ⟨W.heap.size, 0, none⟩ = some (.int .i64 (U (i * 5))) := by go_simp
    have q1 : (W.alloc (Obj.cells #[.int .i64 (U (i * 5)), .int .i64 (U (j * 5))] 48)).cell? ⟨W.heap.size, 1, none⟩ = some (.int .i64 (U (j * 5))) := by go_simp
    generalize (W.alloc (Obj.cells #[.int .i64 (U (i * 5)), .int .i64 (U (j * 5))] 48)) = W1 at hE1 q0 q1 hS hKc
    have hV2 := (hV1.on hE1).sm hS hz
    have hBt2 := (hBt.up hE1 (by omega)).up hS.below (Nat.le_refl _)
    have hKc2 : Kcs (wc.heap.size + 2) H W W2 := (Kcs.of_below hE1).trans (hKc _ _ hlr2)
    have hz2 : W.heap.size ≤ W2.heap.size := Nat.le_trans hE1.size hS.size
    have hz3 : wc.heap.size + 2 ≤ W2.heap.size := Nat.le_trans hWz hz2
    have p0 := hS.cell q0
    have p1 := hS.cell q1
    clear hS hE1 q0 q1 hKc hV1 hBt
    generalize W.heap.size = pb at p0 p1 hH hz2 ⊢
    have hpl : pb < W2.heap.size := cell_lt (a := ⟨pb, 0, none⟩) p0
    have hob : W2.cell? ⟨ob, 0, none⟩ = some (.slice ao mo co) := (hBt2.cell (p := ⟨ob, 0, none⟩) (by show ob < wc.heap.size; omega) (by show ob ≠ lb; omega)).trans x0
    have hFo : Flat W2 ao (mo * 2) V := (hF.but hBt2 (Nat.le_refl _) (by omega)).flat (by omega)
    clear x0 hF
    refine wpIn_block ?_
    cases hbo : inP V (U (i * 5)) (U (j * 5)) mo with
    | true =>
      rw [nwL_in hbo] at hnext
      refine wpIn_seq_k fun K0 hK0 => ?_
      refine wpIn_region_plain (by rintro ⟨_, _, h⟩; exact h) (by kernel_rfl) ?_
      go_wp2_with (go_at_call 57; refine (contains_pr _ _ _ hFo (by omega) _ hbo).mono ?_; rintro e W3 ⟨rfl, hb3⟩)
      refine wpIn_cond_false rfl ?_
      refine wpIn_skip ?_
      exact ⟨(Fr.of_below (X := fun _ => False) hb3).keeps _, ⟨_, _, by rw [hnext]; exact (show l0 ++ bpV U [] = l0 from List.append_nil _) ▸ hV2.on hb3, hBt2.up hb3 (by omega)⟩, hKc2.trans (Kcs.of_below hb3)⟩
    | false =>
      rw [nwL_out hbo] at hnext
      refine wpIn_seq_k fun K0 hK0 => ?_
      refine wpIn_region_plain (by rintro ⟨_, _, h⟩; exact h) (by kernel_rfl) ?_
      go_wp2_with (go_at_call 57; refine (contains_pr _ _ _ hFo (by omega) _ hbo).mono ?_; rintro e W3 ⟨rfl, hb3⟩; have hV3 := hV2.on hb3; have hBt3 := hBt2.up hb3 (show wc.heap.size ≤ W2.heap.size by omega); have hKc3 := hKc2.trans (Kcs.of_below hb3); have hw3 := hb3.size; have r0 := keepc hb3 p0; have r1 := keepc hb3 p1; obtain ⟨av, cv, rfl⟩ := hV3.own.is; have x3 := hV3.box; have hlbl := hV3.lt; have hH2 : ∀ b, H b → b < W3.heap.size := fun b e => (by have := hH b e; omega); have hE2 : Below W3.heap.size W3 (W3.alloc (Obj.cells #[.int .i64 (U (i * 5)), .int .i64 (U (j * 5))] 48)) := (Below.refl _ _).alloc (Nat.le_refl _) _; have hxx : ∀ q, q < 2 → (W3.alloc (Obj.cells #[.int .i64 (U (i * 5)), .int .i64 (U (j * 5))] 48)).cell? ⟨W3.heap.size, q, none⟩ = some (.int .i64 (ofL [U (i * 5), U (j * 5)] q)) := fun q hq => (by rcases (show q = 0 ∨ q = 1 by omega) with rfl | rfl <;> (simp only [ofL]; go_simp; (try rfl))))
      refine wpIn_cond_true rfl ?_
      refine wpIn_region_plain (by rintro ⟨_, _, h⟩; exact h) (by kernel_rfl) ?_
      go_wp2_with (refine wpList_appx rfl _ _ _ rfl (wc.heap.size + 2) 48 2 16 zcPr2 Try.underlying45 infoPr2 rfl (by decide) (.slice av m cv) m (ofL l0) rfl (hV3.own.below hE2) W3.heap.size (ofL [U (i * 5), U (j * 5)]) rfl hxx (by unfold maxLen; omega) (by omega) (by simp only [World.size_alloc]; omega) ?_; intro g7 c7 w7 ho7 hg7 hgg; obtain ⟨⟨n0, nf⟩, hV5, hF5⟩ := hV3.push hE2 (by omega) hH2 rfl ho7 hg7 hgg)
      exact ⟨((Fr.of_below (X := fun _ => False) hb3).others.trans hF5.others).from _, ⟨_, _, by rw [hnext]; exact hV5, hBt3.trans' hV3.own (by omega) hF5⟩, hKc3.trans (Kcs.fr hF5 (fun b e => e.elim (fun e => .inl (by omega)) (fun e => .inr (hV3.out b e))))⟩
end
end Go.Proofs.Ytbngdlbecdloiaa
