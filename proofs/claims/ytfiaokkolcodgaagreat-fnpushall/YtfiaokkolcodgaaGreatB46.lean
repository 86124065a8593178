/- Texts of a proof. -/
import Derived.Test.YtfiaokkolcodgaaGreatB4
import Derived.Test.YtfiaokkolcodgaaGreatB41
import Derived.Test.YtfiaokkolcodgaaGreatB38
import Derived.Test.YtfiaokkolcodgaaGreatB2
import Derived.Test.YtfiaokkolcodgaaGreatB24
import Derived.Deep.RegionHeld3
import Derived.Deep.DeepCutAuto
import Derived.Test.YtfiaokkolcodgaaGreatB28
import Derived.Test.YtfiaokkolcodgaaGreatB23
import Derived.Test.YtfiaokkolcodgaaGreatB43
import Derived.Test.YtfiaokkolcodgaaGreatLst
import Derived.Test.YtfiaokkolcodgaaGreatB22
import Derived.Test.YtfiaokkolcodgaaGreatS8a
import Derived.Test.YtfiaokkolcodgaaGreatB25
import Derived.Test.YtfiaokkolcodgaaGreatB11
import Derived.Test.YtfiaokkolcodgaaGreatB7
import Derived.Test.YtfiaokkolcodgaaGreatB34
set_option maxHeartbeats 16000000
set_option maxRecDepth 20000
namespace Go.Proofs.YtfiaokkolcodgaaGreat
open Go.RowKit
set_option linter.unusedVariables false
set_option linter.unusedSimpArgs false
theorem wayTimes_z (x y n p q : Int) (w : World) (hx : -1000000000 ≤ x ∧ x ≤ 1000000000) (hy : -1000000000 ≤ y ∧ y ≤ 1000000000) (hn : -1000000000 ≤ n ∧ n ≤ 1000000000) (ep : fc ((x * n).tdiv 256) = p) (eq : fc ((y * n).tdiv 256) = q) :
 Calls Tryz.prog 82 #[vv x y, .int .i64 n] w fun e w' => e = .returned (vv p q) ∧ Below w.heap.size w w' := by
 subst ep eq; exact wayTimes_any x y n w hx hy hn
theorem kMoveU {cb n k : Nat} {U : Nat → Int} {S : Nat → Value} {w : World} (h : Cs w cb n (colOf U) S) (hk : k < n) (hn : n ≤ 1048576) (a4 : -2560000 ≤ U (k * 12 + 4) ∧ U (k * 12 + 4) ≤ 2560000) (a5 : -2560000 ≤ U (k * 12 + 5) ∧ U (k * 12 + 5) ≤ 2560000) (p q : Int) (bp : -20000000 ≤ p ∧ p ≤ 20000000) (bq : -20000000 ≤ q ∧ q ≤ 20000000) :
 Calls Tryz.prog 81 #[hdk cb k, vv p q] w fun e w' => e = .returned (.tuple #[]) ∧ Cs w' cb n (colOf (putRow U k (moveV (fun j => U (k * 12 + j)) p q))) S ∧ Fr (Xc S) w w' := by
 refine (kMove_c h hk hn p q _ _ _ _ (fun j => U (k * 12 + j)) (fun i => rfl) a4 a5 bp bq rfl rfl rfl rfl).mono ?_
 rintro e w1 ⟨rfl, hC, hF⟩
 refine ⟨rfl, hC.congr fun i j hi hj => ?_, hF⟩
 rw [col_put hi]
 unfold setC moveV mvX mvY setV
 by_cases e : j = k
 · subst e
   simp only [and_true, if_true]
   repeat' split
   all_goals rfl
 · simp only [e, and_false, if_false]
theorem td_sh {x m : Int} (hx : -256 ≤ x ∧ x ≤ 256) (hm : 0 ≤ m ∧ m ≤ 30000) : -30000 ≤ (x * m).tdiv 256 ∧ (x * m).tdiv 256 ≤ 30000 ∧ fc ((x * m).tdiv 256) = (x * m).tdiv 256 := by
 have p := mul_bd (a := x) (b := m) (A := 256) (B := 30000) hx (by omega)
 have t := tdiv_le (x := x * m) (B := 30000) (m := 256) (by omega) (by omega) (by omega)
 exact ⟨t.1, t.2, fc_id (by omega) (by omega)⟩
theorem mApart {cb n A B : Nat} {U : Nat → Int} {S : Nat → Value} {w : World} (x y d : Int) (h : Cs w cb n (colOf U) S) (hn : n ≤ 1048576) (hAn : A < n) (hBn : B < n) (hAB : A ≠ B) (oA : BOk (fun j => U (A * 12 + j))) (oB : BOk (fun j => U (B * 12 + j))) (hX : -256 ≤ x ∧ x ≤ 256) (hY : -256 ≤ y ∧ y ≤ 256) (hD : 0 ≤ d ∧ d ≤ 102400) :
 Calls Tryz.prog 51 #[(.agg #[.int .i64 x, .int .i64 y, .int .i64 d, .int .i64 (A : Int), .pointer (some ⟨cb, 0, none⟩), .int .i64 (B : Int), .pointer (some ⟨cb, 0, none⟩)])] w fun e w' => e = .returned (.tuple #[]) ∧ Cs w' cb n (colOf (apartU U A B x y d)) S ∧ Fr (Xc S) w w' := by
 have hset := cset_map
 have hx : ∀ b, w.heap.size ≤ b → ¬ Xc S b := fun b hb x => by have := (h.xlt x).2; omega
 obtain ⟨m, em⟩ : ∃ m, (d - 64).tdiv 4 = m := ⟨_, rfl⟩
 have bm : -30000 ≤ m ∧ m ≤ 30000 := by rw [← em]; exact tdiv_le (by omega) (by omega) (by omega)
 have w1_ : IntKind.i64.wrap (d - 64) = d - 64 := i64w (by omega)
 have w2_ : IntKind.i64.wrap ((d - 64).tdiv 4) = m := by rw [em]; exact i64w (by omega)
 have w3_ : IntKind.i64.wrap m = m := i64w (by omega)
 by_cases hm : 0 < m
 · have hmn : ¬ (m ≤ 0) := by omega
   obtain ⟨sa, esa⟩ : ∃ s, shareV (fun j => U (A * 12 + j)) (fun j => U (B * 12 + j)) m = s := ⟨_, rfl⟩
   obtain ⟨sb, esb⟩ : ∃ s, shareV (fun j => U (B * 12 + j)) (fun j => U (A * 12 + j)) m = s := ⟨_, rfl⟩
   have ba := share_bd (V := (fun j => U (A * 12 + j))) (W := (fun j => U (B * 12 + j))) (n := m) oA.m8.1 oB.m8.1 (by omega)
   have bb := share_bd (V := (fun j => U (B * 12 + j))) (W := (fun j => U (A * 12 + j))) (n := m) oB.m8.1 oA.m8.1 (by omega)
   rw [esa] at ba
   rw [esb] at bb
   obtain ⟨p, ep⟩ : ∃ p, (-x * sa).tdiv 256 = p := ⟨_, rfl⟩
   obtain ⟨q, eq⟩ : ∃ q, (-y * sa).tdiv 256 = q := ⟨_, rfl⟩
   obtain ⟨r, er⟩ : ∃ r, (x * sb).tdiv 256 = r := ⟨_, rfl⟩
   obtain ⟨s, es⟩ : ∃ s, (y * sb).tdiv 256 = s := ⟨_, rfl⟩
   obtain ⟨tp1, tp2, fp⟩ := td_sh (x := -x) (m := sa) (by omega) (by omega)
   obtain ⟨tq1, tq2, fq⟩ := td_sh (x := -y) (m := sa) (by omega) (by omega)
   obtain ⟨tr1, tr2, fr⟩ := td_sh (x := x) (m := sb) (by omega) (by omega)
   obtain ⟨ts1, ts2, fs⟩ := td_sh (x := y) (m := sb) (by omega) (by omega)
   rw [ep] at tp1 tp2
   replace fp := fp.trans ep
   rw [eq] at tq1 tq2
   replace fq := fq.trans eq
   rw [er] at tr1 tr2
   replace fr := fr.trans er
   rw [es] at ts1 ts2
   replace fs := fs.trans es
   have ht := apart_two (U := U) (A := A) (B := B) (x := x) (y := y) (d := d) (p := p) (q := q) (r := r) (s := s) hAB oA oB (by rw [em]; exact hm) (by rw [em, esa]; exact ep) (by rw [em, esa]; exact eq) (by rw [em, esb]; exact er) (by rw [em, esb]; exact es)
   have mA := oA.m8
   have mB := oB.m8
   have hA0 : HAt w cb n A (fun j => U (A * 12 + j)) (gOf S) := h.hat hAn hn
   have hB0 : HAt w cb n B (fun j => U (B * 12 + j)) (gOf S) := h.hat hBn hn
   have l1 := hA0.cbl
   clear ep eq er es
   obtain ⟨U1, eU1⟩ : ∃ U1, putRow U A (moveV (fun j => U (A * 12 + j)) p q) = U1 := ⟨_, rfl⟩
   rw [eU1] at ht
   rw [← ht]
   clear ht
   have r8A : U1 (A * 12 + 8) = U (A * 12 + 8) := by rw [← eU1, row_is 8 (by omega)]; rfl
   have r8B : U1 (B * 12 + 8) = U (B * 12 + 8) := by rw [← eU1, row_else (fun e => hAB e.symm) 8 (by omega)]
   have oB1 : (-2560000 ≤ U1 (B * 12 + 4) ∧ U1 (B * 12 + 4) ≤ 2560000) ∧ (-2560000 ≤ U1 (B * 12 + 5) ∧ U1 (B * 12 + 5) ≤ 2560000) := by rw [← eU1, row_else (fun e => hAB e.symm) 4 (by omega), row_else (fun e => hAB e.symm) 5 (by omega)]; exact ⟨oB.a4, oB.a5⟩
   have esb1 : shareV (fun j => U1 (B * 12 + j)) (fun j => U1 (A * 12 + j)) m = sb := (shareV_congr m r8B r8A).trans esb
   have mA1 : 0 ≤ U1 (A * 12 + 8) ∧ U1 (A * 12 + 8) ≤ 1000 := by rw [r8A]; exact mA
   have mB1 : 0 ≤ U1 (B * 12 + 8) ∧ U1 (B * 12 + 8) ≤ 1000 := by rw [r8B]; exact mB
   go_enter Tryz.func51, Tryz.ntmps51
   go_upto_region 3 with fail
   go_cut [] (fun wc => Cs wc cb n (colOf U1) S ∧ Fr (Xc S) w wc ∧ wc.cell? ⟨w.heap.size, 0, none⟩ = some (.int .i64 x) ∧ wc.cell? ⟨w.heap.size, 1, none⟩ = some (.int .i64 y) ∧ wc.cell? ⟨w.heap.size, 2, none⟩ = some (.int .i64 d) ∧ wc.cell? ⟨w.heap.size, 3, none⟩ = some (.int .i64 (A : Int)) ∧ wc.cell? ⟨w.heap.size, 4, none⟩ = some (.pointer (some ⟨cb, 0, none⟩)) ∧ wc.cell? ⟨w.heap.size, 5, none⟩ = some (.int .i64 (B : Int)) ∧ wc.cell? ⟨w.heap.size, 6, none⟩ = some (.pointer (some ⟨cb, 0, none⟩)) ∧ w.heap.size < wc.heap.size)
   case first =>
    clear esb1 mA1 mB1 r8A r8B oB1
    refine wp_region_held_drew (S := fun w' => w'.cell? ⟨w.heap.size, 0, none⟩ = some (.int .i64 x) ∧ w'.cell? ⟨w.heap.size, 1, none⟩ = some (.int .i64 y) ∧ w'.cell? ⟨w.heap.size, 2, none⟩ = some (.int .i64 d) ∧ w'.cell? ⟨w.heap.size, 3, none⟩ = some (.int .i64 (A : Int)) ∧ w'.cell? ⟨w.heap.size, 4, none⟩ = some (.pointer (some ⟨cb, 0, none⟩)) ∧ w'.cell? ⟨w.heap.size, 5, none⟩ = some (.int .i64 (B : Int)) ∧ w'.cell? ⟨w.heap.size, 6, none⟩ = some (.pointer (some ⟨cb, 0, none⟩))) (by kernel_rfl) ?_ (fun hHeld => ?_)
    · (try dsimp only)
      (first | (go_simp; done) | (go_keep; done))
    refine tq 0 hHeld ?_
    refine tq 1 hHeld ?_
    refine tq 2 hHeld ?_
    refine tq 3 hHeld ?_
    refine tq 4 hHeld ?_
    refine tq 6 hHeld ?_
    refine tq 7 hHeld ?_
    refine tq 8 hHeld ?_
    refine tq 9 hHeld ?_
    refine tq 10 hHeld ?_
    (refine tc 5 fun K hK => ?_; go_simp; (go_at_call 64; refine (opp_z _ _ _ (by omega) (by omega)).mono ?_; rintro e w1 ⟨rfl, hb1⟩; have hz1 := hb1.size; (try simp only [zz] at hz1); have := kfa hb1 w.heap.size); (try go_wp2_with fail); refine tr hK (fun hHeld => ?_); clear hK K)
    (refine tc 11 fun K hK => ?_; go_simp; (go_at_call 83; refine (kShare (hA0.below (bel_a)) (hB0.below (bel_a)) _ _ (by omega) (by omega) (by omega) (by with_reducible assumption)).mono ?_; rintro e w2 ⟨rfl, hb2⟩; have hz2 := hb2.size; (try simp only [zz] at hz2); have := kfa hb2 w.heap.size); (try go_wp2_with fail); refine tr hK (fun hHeld => ?_); clear hK K)
    (refine tc 12 fun K hK => ?_; go_simp; (go_at_call 82; refine (wayTimes_z _ _ _ _ _ _ (by omega) (by omega) (by omega) (by with_reducible assumption) (by with_reducible assumption)).mono ?_; rintro e w3 ⟨rfl, hb3⟩; have hz3 := hb3.size; (try simp only [zz] at hz3); have := kfa hb3 w.heap.size); (try go_wp2_with fail); refine tr hK (fun hHeld => ?_); clear hK K)
    (refine tc 13 fun K hK => ?_; go_simp; (go_at_call 81; refine (kMoveU (h.below (bel_a)) hAn hn oA.a4 oA.a5 _ _ (by omega) (by omega)).mono ?_; rintro e w4 ⟨rfl, hr4, hF4⟩; have hk4 := fun o => hF4.cell (p := ⟨w.heap.size, o, none⟩) (by first | omega | (simp; done) | (simp; omega)) (hx _ (Nat.le_refl _)); have hz4 := hF4.size; (try simp only [zz] at hz4)); (try go_wp2_with fail); refine tr hK (fun hHeld => ?_); clear hK K)
    refine wpAnyH_done (by kernel_rfl) ?_ _
    go_wp2_with fail
    go_meet
    exact ⟨(by rw [← eU1]; exact hr4), (Fr.of_below (bel_a)).trans hF4, (by go_simp), (by go_simp), (by go_simp), (by go_simp), (by go_simp), (by go_simp), (by go_simp), (by first | omega | (simp; done) | (simp; omega))⟩
   case rest =>
   obtain ⟨hC, hF, k0, k1, k2, k3, k4, k5, k6, hl⟩ := hcut
   have hA1 : HAt wc cb n A (fun j => U1 (A * 12 + j)) (gOf S) := hC.hat hAn hn
   have hB1 : HAt wc cb n B (fun j => U1 (B * 12 + j)) (gOf S) := hC.hat hBn hn
   have hx1 : ∀ b, wc.heap.size ≤ b → ¬ Xc S b := fun b hb x => by have := (hC.xlt x).2; omega
   have l2 := hA1.cbl
   clear eU1
   go_upto_region 4 with fail
   refine wp_region_held_drew (S := fun w' => w'.cell? ⟨w.heap.size, 0, none⟩ = some (.int .i64 x) ∧ w'.cell? ⟨w.heap.size, 1, none⟩ = some (.int .i64 y) ∧ w'.cell? ⟨w.heap.size, 2, none⟩ = some (.int .i64 d) ∧ w'.cell? ⟨w.heap.size, 3, none⟩ = some (.int .i64 (A : Int)) ∧ w'.cell? ⟨w.heap.size, 4, none⟩ = some (.pointer (some ⟨cb, 0, none⟩)) ∧ w'.cell? ⟨w.heap.size, 5, none⟩ = some (.int .i64 (B : Int)) ∧ w'.cell? ⟨w.heap.size, 6, none⟩ = some (.pointer (some ⟨cb, 0, none⟩))) (by kernel_rfl) ?_ (fun hHeld => ?_)
   · (try dsimp only)
     (first | (go_simp; done) | (go_keep; done))
   refine tq 0 hHeld ?_
   refine tq 1 hHeld ?_
   refine tq 2 hHeld ?_
   refine tq 3 hHeld ?_
   refine tq 4 hHeld ?_
   refine tq 5 hHeld ?_
   refine tq 6 hHeld ?_
   refine tq 7 hHeld ?_
   refine tq 8 hHeld ?_
   refine tq 9 hHeld ?_
   (refine tc 10 fun K hK => ?_; go_simp; (go_at_call 83; refine (kShare (hB1.below (bel_a)) (hA1.below (bel_a)) _ _ (by omega) (by omega) (by omega) (by with_reducible assumption)).mono ?_; rintro e w12 ⟨rfl, hb12⟩; have hz12 := hb12.size; (try simp only [zz] at hz12); have := kfa hb12 w.heap.size); (try go_wp2_with fail); refine tr hK (fun hHeld => ?_); clear hK K)
   (refine tc 11 fun K hK => ?_; go_simp; (go_at_call 82; refine (wayTimes_z _ _ _ _ _ _ (by omega) (by omega) (by omega) (by with_reducible assumption) (by with_reducible assumption)).mono ?_; rintro e w13 ⟨rfl, hb13⟩; have hz13 := hb13.size; (try simp only [zz] at hz13); have := kfa hb13 w.heap.size); (try go_wp2_with fail); refine tr hK (fun hHeld => ?_); clear hK K)
   (refine tc 12 fun K hK => ?_; go_simp; (go_at_call 81; refine (kMoveU (hC.below (bel_a)) hBn hn oB1.1 oB1.2 _ _ (by omega) (by omega)).mono ?_; rintro e w14 ⟨rfl, hr14, hF14⟩; have hk14 := fun o => hF14.cell (p := ⟨w.heap.size, o, none⟩) (by first | omega | (simp; done) | (simp; omega)) (hx _ (Nat.le_refl _))); (try go_wp2_with fail); refine tr hK (fun hHeld => ?_); clear hK K)
   refine wpAnyH_done (by kernel_rfl) ?_ _
   go_wp2_with fail
   go_end0
   exact ⟨rfl, hr14, (hF.trans (Fr.of_below (bel_a))).trans hF14⟩
 · have hmn : m ≤ 0 := by omega
   have e0 : apartU U A B x y d = U := by unfold apartU; rw [em, decide_eq_false hm]; rfl
   rw [e0]
   go_enter Tryz.func51, Tryz.ntmps51
   go_wp2_with fail
   refine bodyPost_ret (results_none rfl _ _ _) rfl ?_
   exact ⟨rfl, h.below (bel_a), Fr.of_below (bel_a)⟩
theorem goApart {w : World} {rb g m c cb n : Nat} {C U : Nat → Int} {S : Nat → Value} (hR0 : Rg w rb g m c cb C 0) (hC0 : Cs w cb n (colOf U) S) (hm : m ≤ 1048576) (hn : n ≤ 1048576) (hbb : Bods n U) (ct : CtOk n m C) (hrb : ¬ Xc S rb) (hg : ¬ Xc S g) (hcb : ¬ cb = rb) :
 Calls Tryz.prog 38 #[.pointer (some ⟨rb, 0, none⟩), (.func (.func 51) #[] #[])] w fun e w' => e = .returned (.tuple #[]) ∧ Cs w' cb n (colOf (apartN C U m)) S ∧ Fr (fun b => Xc S b ∨ b = rb) w w' := by
 have hset := cset_map
 have hxr : ∀ b, Xc S b → ¬ b = rb := fun b hb e => hrb (e ▸ hb)
 have c0 := hR0.c0
 go_enter Tryz.func38, Tryz.ntmps38
 go_upto_region 1 with fail
 go_loopw [9] (fun s wr => ∃ k : Nat, k ≤ m ∧ s = .int .i64 (k : Int) ∧ Rg wr rb g m c cb C (k % m) ∧ Cs wr cb n (colOf (apartN C U k)) S ∧ Fr (fun b => Xc S b ∨ b = rb) w wr) (fun s _ => m - (intOf s).toNat)
 case atStart => exact ⟨0, Nat.zero_le _, rfl, by rw [Nat.zero_mod]; exact hR0, hC0, Fr.refl _ _⟩
 case round =>
  clear hR0 hC0 c0
  obtain ⟨k, hk, rfl, hR, hC, hF⟩ := hrel
  by_cases hlt : k < m
  · have hkm : (k : Int) < (m : Int) := by omega
    rw [Nat.mod_eq_of_lt hlt] at hR
    have ca := ct.a k hlt
    have cb_ := ct.b k hlt
    have cn := ct.ne k hlt
    have cx := ct.x k hlt
    have cy := ct.y k hlt
    have cd := ct.d k hlt
    have hB := (hbb.aparts ct k hk).1
    have HN : Shut (apartN C U (k + 1) = apartU (apartN C U k) (C (k * 5)).toNat (C (k * 5 + 1)).toNat (C (k * 5 + 2)) (C (k * 5 + 3)) (C (k * 5 + 4))) := by show _ = _; rw [apartN]
    obtain ⟨A, hA⟩ : ∃ A : Nat, C (k * 5) = (A : Int) := ⟨(C (k * 5)).toNat, by omega⟩
    obtain ⟨B, hBB⟩ : ∃ B : Nat, C (k * 5 + 1) = (B : Int) := ⟨(C (k * 5 + 1)).toNat, by omega⟩
    rw [hA, hBB, Int.toNat_natCast, Int.toNat_natCast] at HN
    rw [hA] at ca cn
    rw [hBB] at cb_ cn
    go_wp2_with (first
  | (go_at_call 51; refine (mApart _ _ _ (hC.frame hF4 hcb hxr) hn (by omega) (by omega) (by omega) (hB.row (by omega)) (hB.row (by omega)) cx cy cd).mono ?_; rintro e w5 ⟨rfl, hC5, hF5⟩)
  | (go_at_call 62; refine (take_q (j := k) hR hlt hm _ _ _ _ _ rfl rfl rfl hA hBB).mono ?_; rintro e w4 ⟨rfl, hR4, hF4⟩))
    have hF9 : Fr (fun b => Xc S b ∨ b = rb) w w5 := (hF.trans (hF4.mono fun _ _ e => .inr e)).trans (hF5.mono fun _ _ e => .inl e)
    have hR9 := hR4.fr hF5 hrb hg
    go_roundw
    case rel => exact ⟨k + 1, by omega, by go_num, hR9, by rw [HN.out]; exact hC5, hF9⟩
    case measure => simp [intOf]; omega
  · obtain rfl : k = m := by omega
    go_wp2_with fail
    go_end0
    exact ⟨rfl, hC, hF⟩
theorem goApart0 {w : World} {rb c : Nat} (c0 : w.cell? ⟨rb, 0, none⟩ = some (.slice none 0 c)) :
 Calls Tryz.prog 38 #[.pointer (some ⟨rb, 0, none⟩), (.func (.func 51) #[] #[])] w fun e w' => e = .returned (.tuple #[]) ∧ w' = w := by
 go_enter Tryz.func38, Tryz.ntmps38
 go_upto_region 1 with fail
 refine wp_loop_rounds 1 ?_
 rw [rounds_succ]
 go_wp2_with fail
 go_end0
 exact ⟨rfl, rfl⟩
theorem moveApart_q {w : World} {rb g m c cb n : Nat} {C U : Nat → Int} {S : Nat → Value} (hR0 : Rg w rb g m c cb C 0) (hC0 : Cs w cb n (colOf U) S) (hm : m ≤ 1048576) (hn : n ≤ 1048576) (hbb : Bods n U) (ct : CtOk n m C) (hrb : ¬ Xc S rb) (hg : ¬ Xc S g) (hcb : ¬ cb = rb) :
 Calls Tryz.prog 30 #[.pointer (some ⟨rb, 0, none⟩)] w fun e w' => e = .returned (.tuple #[]) ∧ Cs w' cb n (colOf (apartN C U m)) S ∧ Fr (fun b => Xc S b ∨ b = rb) w w' := by
 go_enter Tryz.func30, Tryz.ntmps30
 go_wp2_with (go_at_call 38; refine (goApart hR0 hC0 hm hn hbb ct hrb hg hcb).mono ?_; rintro e w1 ⟨rfl, h1, h2⟩)
 go_end0
 exact ⟨rfl, h1, h2⟩
theorem moveApart_0 {w : World} {rb c : Nat} (c0 : w.cell? ⟨rb, 0, none⟩ = some (.slice none 0 c)) :
 Calls Tryz.prog 30 #[.pointer (some ⟨rb, 0, none⟩)] w fun e w' => e = .returned (.tuple #[]) ∧ w' = w := by
 go_enter Tryz.func30, Tryz.ntmps30
 go_wp2_with (go_at_call 38; refine (goApart0 c0).mono ?_; rintro e w1 ⟨rfl, rfl⟩)
 go_end0
 exact ⟨rfl, rfl⟩
def bcB (n m : Nat) (U Ct : Nat → Int) : Bool := bodsB n U && decide (m ≤ 144) && ctsB n Ct m
theorem ctOk {n m : Nat} {C : Nat → Int} (h : ctsB n C m = true) : CtOk n m C := by
 have k := ctsB_le h
 have q : ∀ j, j < m → (0 ≤ C (j * 5) ∧ C (j * 5) < (n : Int)) ∧ (0 ≤ C (j * 5 + 1) ∧ C (j * 5 + 1) < (n : Int)) ∧ C (j * 5) ≠ C (j * 5 + 1) ∧ (-256 ≤ C (j * 5 + 2) ∧ C (j * 5 + 2) ≤ 256) ∧ (-256 ≤ C (j * 5 + 3) ∧ C (j * 5 + 3) ≤ 256) ∧ (0 ≤ C (j * 5 + 4) ∧ C (j * 5 + 4) ≤ 102400) := fun j hj => by
  have e := k j hj
  unfold atB hitB inB at e
  simp only [Bool.and_eq_true, decide_eq_true_eq, Bool.not_eq_true', decide_eq_false_iff_not] at e
  obtain ⟨⟨e1, e2⟩, e3, e4, e5⟩ := e
  exact ⟨e3, e4, e5, ⟨e1.1, e1.2.1⟩, ⟨e1.2.2.1, e1.2.2.2⟩, e2⟩
 exact ⟨fun j hj => (q j hj).1, fun j hj => (q j hj).2.1, fun j hj => (q j hj).2.2.1, fun j hj => (q j hj).2.2.2.1, fun j hj => (q j hj).2.2.2.2.1, fun j hj => (q j hj).2.2.2.2.2⟩
theorem meetingsOf_t (a : Option Addr) (n c : Nat) (U : Nat → Int) (ac : Option Addr) (m cc : Nat) (Ct : Nat → Int) (w : World) (h : Flat w a (n * 12) U) (hn : n ≤ 1048576) (h2 : Flat w ac (m * 5) Ct) (hm : m ≤ 1048576) (hk : bcB n m U Ct = true) :
 Calls Tryz.prog 19 #[.slice a n c, .slice ac m cc] w fun e w' => ∃ cb rb S v, e = .returned (.tuple #[.pointer (some ⟨cb, 0, none⟩), .pointer (some ⟨rb, 0, none⟩), .bool true]) ∧ w.heap.size ≤ cb ∧ cb < rb ∧ (∀ b, Xc S b → b < rb) ∧ Mo w w' cb n rb m U Ct S v :=
 (meetingsOf_any a n c U ac m cc Ct w h hn h2 hm).mono fun e w' ⟨h1, q⟩ => by
   rcases q with ⟨_, cb, rb, S, v, r⟩ | ⟨z, _⟩
   · exact ⟨cb, rb, S, v, r⟩
   · rw [bcB] at hk; rw [hk] at z; cases z
theorem meetingsOf_f (a : Option Addr) (n c : Nat) (U : Nat → Int) (ac : Option Addr) (m cc : Nat) (Ct : Nat → Int) (w : World) (h : Flat w a (n * 12) U) (hn : n ≤ 1048576) (h2 : Flat w ac (m * 5) Ct) (hm : m ≤ 1048576) (hk : bcB n m U Ct = false) :
 Calls Tryz.prog 19 #[.slice a n c, .slice ac m cc] w fun e w' => e = .returned (.tuple #[.pointer none, .pointer none, .bool false]) ∧ Below w.heap.size w w' :=
 (meetingsOf_any a n c U ac m cc Ct w h hn h2 hm).mono fun e w' ⟨h1, q⟩ => by
   rcases q with ⟨z, _⟩ | ⟨_, r⟩
   · rw [bcB] at hk; rw [hk] at z; cases z
   · exact ⟨r, h1⟩
theorem moveApart_m {w wr : World} {cb n rb m : Nat} {U C : Nat → Int} {S : Nat → Value} {v : Value} (h : Mo w wr cb n rb m U C S v) (hcb : cb < rb) (hxr : ∀ b, Xc S b → b < rb) (hm : m ≤ 1048576) (hn : n ≤ 1048576) (hbb : Bods n U) (ct : CtOk n m C) :
 Calls Tryz.prog 30 #[.pointer (some ⟨rb, 0, none⟩)] wr fun e w' => e = .returned (.tuple #[]) ∧ Cs w' cb n (colOf (apartN C U m)) S ∧ Fr (fun b => Xc S b ∨ b = rb) wr w' := by
 rcases h.ml.is with ⟨rfl, rfl⟩ | ⟨g, c, rfl⟩
 · refine (moveApart_0 h.r0).mono ?_
   rintro e w' ⟨rfl, rfl⟩
   exact ⟨rfl, h.cs, Fr.refl _ _⟩
 · have hg := (h.ml.lt g rfl).1
   exact moveApart_q (h.ml.rg h.r0 h.r1 h.f1 (by omega)) h.cs hm hn hbb ct (fun x => by have := hxr _ x; omega) (fun x => by have := hxr _ x; omega) (by omega)
theorem apart_i (a : Option Addr) (n c : Nat) (U : Nat → Int) (ac : Option Addr) (m cc : Nat) (Ct : Nat → Int) (w : World) (h : Flat w a (n * 12) U) (hn : n ≤ 1048576) (h2 : Flat w ac (m * 5) Ct) (hm : m ≤ 1048576) (N : Nat) (hN : (bif bcB n m U Ct then n else 0) = N) :
 Calls Tryz.prog 12 #[.slice a n c, .slice ac m cc] w fun e w' => ∃ a1 c1, e = .returned (.slice a1 N c1) ∧ OutL w w' 35 12 a1 N c1 (apartN Ct U m) := by
 have hset := cset_map
 cases hk : bcB n m U Ct with
 | false =>
  rw [hk, cond_false] at hN
  subst hN
  go_enter Tryz.func12, Tryz.ntmps12
  go_wp2_with (go_at_call 19; refine (meetingsOf_f a n c U ac m cc Ct _ h hn h2 hm hk).mono ?_; rintro e w1 ⟨rfl, hb1⟩)
  go_ret
  exact ⟨none, 0, rfl, hb1, OwnL.nil _ _ _ _ _⟩
 | true =>
  rw [hk, cond_true] at hN
  subst hN
  have hk2 := hk
  unfold bcB at hk2
  simp only [Bool.and_eq_true] at hk2
  have hbb := Bods.of hk2.1.1
  have hct := ctOk hk2.2
  clear hk2
  go_enter Tryz.func12, Tryz.ntmps12
  go_wp2_with (first
  | (go_at_call 21; refine (list_any cb n _ S _ hC2 hbb.le).mono ?_; rintro e w3 ⟨a3, c3, rfl, hO3⟩)
  | (go_at_call 30; refine (moveApart_m hM hcr hxr hm hn hbb hct).mono ?_; rintro e w2 ⟨rfl, hC2, hF2⟩)
  | (go_at_call 19; refine (meetingsOf_t a n c U ac m cc Ct _ h hn h2 hm hk).mono ?_; rintro e w1 ⟨cb, rb, S, v, rfl, hcb, hcr, hxr, hM⟩))
  go_ret
  have hbw := hM.bel
  have hB2 : Below w.heap.size w w2 := hbw.trans (hF2.below hbw.size (fun b x => by rcases x with x | x; (have := (hM.cs.xlt x).1; omega); omega))
  refine ⟨a3, c3, rfl, hB2.trans (hO3.bel.mono hB2.size), (hO3.own.base hB2.size).congr fun q hq => ?_⟩
  show apartN Ct U m (q / 12 * 12 + q % 12) = _
  rw [Nat.div_add_mod' q 12]
theorem l8Contacts_any (a : Option Addr) (n c : Nat) (ac : Option Addr) (m cc : Nat) (Ct : Nat → Int) (w : World) (hn : n ≤ 1048576) (h2 : Flat w ac (m * 5) Ct) (hm : m ≤ 1048576) :
 Calls Tryz.prog 22 #[.slice a n c, .slice ac m cc] w fun e w' => e = .returned (.bool (decide (m ≤ 144) && ctsB n Ct m)) ∧ Below w.heap.size w w' := by
 have hset := cset_map
 have wn : IntKind.i64.wrap ((n : Int) - 1) = (n : Int) - 1 := i64w (by omega)
 go_enter Tryz.func22, Tryz.ntmps22
 go_upto_region 2 with fail
 go_loopw [5] (fun s wr => ∃ k : Nat, k ≤ m ∧ s = .int .i64 (k : Int) ∧ Below w.heap.size w wr ∧ ctsB n Ct k = true) (fun s _ => m - (intOf s).toNat)
 case atStart => exact ⟨0, Nat.zero_le _, rfl, bel_a, rfl⟩
 case round =>
  obtain ⟨k, hk, rfl, hB, hok⟩ := hrel
  by_cases hlt : k < m
  · have hkm : (k : Int) < (m : Int) := by omega
    have hBs := hB.size
    obtain ⟨b2, o2, e2, hbl2, hc2⟩ := (h2.below hB) (by omega)
    obtain ⟨A, hA⟩ : ∃ A, Ct (k * 5) = A := ⟨_, rfl⟩
    obtain ⟨B, hBB⟩ : ∃ B, Ct (k * 5 + 1) = B := ⟨_, rfl⟩
    obtain ⟨X, hX⟩ : ∃ X, Ct (k * 5 + 2) = X := ⟨_, rfl⟩
    obtain ⟨Y, hY⟩ : ∃ Y, Ct (k * 5 + 3) = Y := ⟨_, rfl⟩
    obtain ⟨D, hD⟩ : ∃ D, Ct (k * 5 + 4) = D := ⟨_, rfl⟩
    have r0 := hc2 (k * 5) (by omega)
    have r1 := hc2 (k * 5 + 1) (by omega)
    have r2 := hc2 (k * 5 + 2) (by omega)
    have r3 := hc2 (k * 5 + 3) (by omega)
    have r4 := hc2 (k * 5 + 4) (by omega)
    simp only [← Nat.add_assoc] at r0 r1 r2 r3 r4
    rw [hA] at r0
    rw [hBB] at r1
    rw [hX] at r2
    rw [hY] at r3
    rw [hD] at r4
    clear hc2
    subst e2
    have eat : atB n (Ct (k * 5)) (Ct (k * 5 + 1)) (Ct (k * 5 + 2)) (Ct (k * 5 + 3)) (Ct (k * 5 + 4)) = atB n A B X Y D := by rw [hA, hBB, hX, hY, hD]
    have hcs : ctsB n Ct (k + 1) = atB n A B X Y D := by rw [ctsB, hok, eat]; rfl
    have hno : atB n A B X Y D = false → (decide (m ≤ 144) && ctsB n Ct m) = false := fun q => by rw [ctsB_no (k := k) (by rw [eat]; exact q) hlt, Bool.and_false]
    clear eat hA hBB hX hY hD
    by_cases k1 : 0 ≤ A ∧ A ≤ (n : Int) - 1
    · have d1 : decide (0 ≤ A ∧ A ≤ (n : Int) - 1) = true := decide_eq_true k1
      by_cases k2 : 0 ≤ B ∧ B ≤ (n : Int) - 1
      · have d2 : decide (0 ≤ B ∧ B ≤ (n : Int) - 1) = true := decide_eq_true k2
        by_cases k3 : A = B
        · have d3 : (A == B) = true := by simp [k3]
          have d4 : decide (A = B) = true := decide_eq_true k3
          have hq := hno (by unfold atB; rw [d4]; simp)
          clear hno hcs k1 k2 k3
          go_wp2_with (go_at_call 41; refine (l1In_any _ _ _ _).mono ?_; rintro e w' ⟨rfl, rfl⟩)
          go_ret
          exact ⟨ret_bool hq.symm, hB.trans (Below.mono ((Below.refl _ _).alloc (Nat.le_refl _) _) hBs)⟩
        · have d3 : (A == B) = false := by simp [k3]
          have d4 : decide (A = B) = false := decide_eq_false k3
          cases kh : hitB X Y D with
          | false =>
           have hq := hno (by unfold atB; rw [kh]; rfl)
           clear hno hcs k1 k2 k3
           go_wp2_with (first
  | (go_at_call 42; refine (l8HitOk_q _ _ _ _ _ kh).mono ?_; rintro e w3 ⟨rfl, hb3⟩)
  | (go_at_call 41; refine (l1In_any _ _ _ _).mono ?_; rintro e w' ⟨rfl, rfl⟩))
           go_ret
           exact ⟨ret_bool hq.symm, hB.trans (Below.mono (((Below.refl _ _).alloc (Nat.le_refl _) _).trans (hb3.mono (by simp))) hBs)⟩
          | true =>
           have hat : atB n A B X Y D = true := by unfold atB; rw [kh, d4, decide_eq_true (show 0 ≤ A ∧ A < (n : Int) by omega), decide_eq_true (show 0 ≤ B ∧ B < (n : Int) by omega)]; rfl
           clear hno k1 k2 k3
           go_wp2_with (first
  | (go_at_call 42; refine (l8HitOk_q _ _ _ _ _ kh).mono ?_; rintro e w3 ⟨rfl, hb3⟩)
  | (go_at_call 41; refine (l1In_any _ _ _ _).mono ?_; rintro e w' ⟨rfl, rfl⟩))
           go_roundw
           case rel => exact ⟨k + 1, by omega, by go_num, hB.trans (Below.mono (((Below.refl _ _).alloc (Nat.le_refl _) _).trans (hb3.mono (by simp))) hBs), hcs.trans hat⟩
           case measure => simp [intOf]; omega
      · have d2 : decide (0 ≤ B ∧ B ≤ (n : Int) - 1) = false := decide_eq_false k2
        have hq := hno (by unfold atB; rw [decide_eq_false (show ¬ (0 ≤ B ∧ B < (n : Int)) by omega)]; simp)
        clear hno hcs k1 k2
        go_wp2_with (go_at_call 41; refine (l1In_any _ _ _ _).mono ?_; rintro e w' ⟨rfl, rfl⟩)
        go_ret
        exact ⟨ret_bool hq.symm, hB.trans (Below.mono ((Below.refl _ _).alloc (Nat.le_refl _) _) hBs)⟩
    · have d1 : decide (0 ≤ A ∧ A ≤ (n : Int) - 1) = false := decide_eq_false k1
      have hq := hno (by unfold atB; rw [decide_eq_false (show ¬ (0 ≤ A ∧ A < (n : Int)) by omega)]; simp)
      clear hno hcs k1
      go_wp2_with (go_at_call 41; refine (l1In_any _ _ _ _).mono ?_; rintro e w' ⟨rfl, rfl⟩)
      go_ret
      exact ⟨ret_bool hq.symm, hB.trans (Below.mono ((Below.refl _ _).alloc (Nat.le_refl _) _) hBs)⟩
  · obtain rfl : k = m := by omega
    by_cases k9 : k ≤ 144
    · have d9 : decide (k ≤ 144) = true := decide_eq_true k9
      have d8 : decide ((k : Int) ≤ 144) = true := decide_eq_true (by omega)
      go_wp2_with fail
      go_ret
      exact ⟨ret_bool (by rw [hok]; simp [*]), bel_a⟩
    · have d9 : decide (k ≤ 144) = false := decide_eq_false k9
      have d8 : decide ((k : Int) ≤ 144) = false := decide_eq_false (by omega)
      go_wp2_with fail
      go_ret
      exact ⟨ret_bool (by rw [hok]; simp [*]), bel_a⟩
theorem l8Contacts_pq (a : Option Addr) (n c : Nat) (ac : Option Addr) (m cc : Nat) (Ct : Nat → Int) (b : Bool) (w : World) (hn : n ≤ 1048576) (h2 : Flat w ac (m * 5) Ct) (hm : m ≤ 1048576) (e : (decide (m ≤ 144) && ctsB n Ct m) = b) :
 Calls Tryz.prog 22 #[.slice a n c, .slice ac m cc] w fun e w' => e = .returned (.bool b) ∧ Below w.heap.size w w' := by
 subst e; exact l8Contacts_any a n c ac m cc Ct w hn h2 hm
theorem pushAll_s (a : Option Addr) (n c : Nat) (U : Nat → Int) (ac : Option Addr) (m cc : Nat) (Ct : Nat → Int) (w : World) (h : Flat w a (n * 12) U) (hn : n ≤ 1048576) (h2 : Flat w ac (m * 5) Ct) (hm : m ≤ 1048576) (N : Nat) (hN : (bif bcB n m U Ct then n else 0) = N) :
 Calls Tryz.prog 8 #[.slice a n c, .slice ac m cc] w fun e w' => ∃ a1 c1, e = .returned (.slice a1 N c1) ∧ OutL w w' 35 12 a1 N c1 (allN Ct U m 4) := by
 have hset := cset_map
 cases kb : bodsB n U with
 | false =>
  have hk : bcB n m U Ct = false := by unfold bcB; rw [kb]; rfl
  rw [hk, cond_false] at hN
  subst hN
  go_enter Tryz.func8, Tryz.ntmps8
  go_wp2_with (go_at_call 9; refine (sBodiesOk_q a n c U false _ h hn kb).mono ?_; rintro e w1 ⟨rfl, hb1⟩)
  go_ret
  exact ⟨_, _, rfl, hb1.trans (((Below.refl _ _).alloc (Nat.le_refl _) _).mono hb1.size), ((LsV.new _ _ _).own.base hb1.size).congr (fun q hq => by omega)⟩
 | true =>
  cases kc : (decide (m ≤ 144) && ctsB n Ct m) with
  | false =>
   have hk : bcB n m U Ct = false := by unfold bcB; rw [kb, Bool.true_and]; exact kc
   rw [hk, cond_false] at hN
   subst hN
   go_enter Tryz.func8, Tryz.ntmps8
   go_wp2_with (first | (go_at_call 22; refine (l8Contacts_pq a n c ac m cc Ct _ _ hn (h2.below hb1) hm kc).mono ?_; rintro e w2 ⟨rfl, hb2⟩) | (go_at_call 9; refine (sBodiesOk_q a n c U true _ h hn kb).mono ?_; rintro e w1 ⟨rfl, hb1⟩))
   have hb1 := hb1.trans (hb2.mono hb1.size)
   go_ret
   exact ⟨_, _, rfl, hb1.trans (((Below.refl _ _).alloc (Nat.le_refl _) _).mono hb1.size), ((LsV.new _ _ _).own.base hb1.size).congr (fun q hq => by omega)⟩
  | true =>
   have hk : bcB n m U Ct = true := by unfold bcB; rw [kb, Bool.true_and]; exact kc
   rw [hk, cond_true] at hN
   subst hN
   have hbb := Bods.of kb
   have hct : CtOk n m Ct := ctOk (by rw [Bool.and_eq_true] at kc; exact kc.2)
   go_enter Tryz.func8, Tryz.ntmps8
   go_wp2_with (first | (go_at_call 23; refine (l8All_any a n c U ac m cc Ct _ (h.below hb12) hn hm (h2.below hb12) hbb hct).mono ?_; rintro e w3 ⟨a1, c1, rfl, hO⟩) | (go_at_call 22; refine (l8Contacts_pq a n c ac m cc Ct _ _ hn (h2.below hb1) hm kc).mono ?_; rintro e w2 ⟨rfl, hb2⟩; have hb12 := hb1.trans (hb2.mono hb1.size)) | (go_at_call 9; refine (sBodiesOk_q a n c U true _ h hn kb).mono ?_; rintro e w1 ⟨rfl, hb1⟩))
   go_ret
   exact ⟨a1, c1, rfl, hb12.trans (hO.bel.mono hb12.size), hO.own.base hb12.size⟩
end Go.Proofs.YtfiaokkolcodgaaGreat
