/- Texts of a proof. -/
import Derived.Test.YthijeiehcdoidaaGreatWdPi
import Derived.Deep.RegionHeld3
import Derived.Deep.DeepCutAuto
set_option maxHeartbeats 16000000
set_option maxRecDepth 20000
namespace Go.Proofs.YthijeiehcdoidaaGreat
open Go.RowKit
set_option linter.unusedVariables false
set_option linter.unusedSimpArgs false
theorem Vw.setBm {wc w1 : World} {lo hi bx : Nat} {T P : Int} {a1 : Option Addr} {n c1 : Nat} {U : Nat → Int} {a2 : Option Addr} {m c2 : Nat} {Q : Nat → Int} {a3 : Option Addr} {n3 c3 : Nat} {U3 : Nat → Int} (h : Vw wc lo hi bx T P a1 n c1 U a2 m c2 Q) (hb : Below wc.heap.size wc w1) (ho : OwnL w1 wc.heap.size 41 12 (.slice a3 n3 c3) n3 U3) : Vw (w1.setCell ⟨bx, 2, none⟩ (.slice a3 n3 c3)) lo w1.heap.size bx T P a3 n3 c3 U3 a2 m c2 Q := by
 have hset := cset_map
 have h1 := (h.on hb).top
 have z0 := h1.c0
 have z1 := h1.c1
 have z2 := h1.c2
 have z3 := h1.c3
 have zf := h1.nf
 have hbl := h.blt
 have hll := h.bl
 have ho' := ho.base (B := lo) (by omega)
 have hx : ∀ b, (Value.slice a3 n3 c3).ownBlock = some b → b ≠ bx := fun b e => by have := (ho.lt b e).1; omega
 have hs : Fr (fun b => b = bx) w1 (w1.setCell ⟨bx, 2, none⟩ (.slice a3 n3 c3)) := Fr.setCell (X := fun b => b = bx) rfl _
 exact ⟨by go_simp, by go_simp, by go_simp, by go_simp, fun o => by go_simp, h1.bl, h1.blt, hs.size, ho'.frame hs (fun b e x => hx b e x), h1.op.frame hs (fun b e x => (h1.t2 b e).2 x), fun b e => ⟨(ho'.lt b e).2, hx b e⟩, h1.t2⟩
theorem flatFromA {wz : World} {a : Option Addr} {n k c : Nat} {U : Nat → Int} {at2 : Option Addr} (hat2 : (if c = k then a else Option.map (fun x => Addr.add x (k * 12)) a) = at2) (hnc : n ≤ c) (q : Flat wz a (n * 12) U) : Flat wz at2 ((n - k) * 12) (fun q => U (q + k * 12)) := fun h0 => by
 obtain ⟨b', o', rfl, l, cc⟩ := q (by omega)
 refine ⟨b', o' + k * 12, by rw [← hat2, if_neg (by omega)]; simp [Addr.add], l, fun q hq => ?_⟩
 rw [show o' + k * 12 + q = o' + (q + k * 12) by omega]
 exact cc _ (by omega)
theorem flatUpA {wz : World} {a : Option Addr} {n k : Nat} {U : Nat → Int} (q : Flat wz a (n * 12) U) (hk : k ≤ n) : Flat wz a (k * 12) U := fun h0 => by
 obtain ⟨b', o', e, l, cc⟩ := q (by omega)
 exact ⟨b', o', e, l, fun q hq => cc q (by omega)⟩
theorem sWorldPut_qa (T P : Int) (a : Option Addr) (n c : Nat) (U : Nat → Int) (a' : Option Addr) (m c' : Nat) (Q : Nat → Int) (V : Nat → Int) (p : Nat) (w : World) (h : Flat w a (n * 12) U) (h' : Flat w a' (m * 2) Q) (hn : n ≤ 1048576) (hm : m ≤ 1048576) (hnc : n ≤ c) (hp : idP U n (V 0) p) (A : WA) (eA : putWA T P n U m Q V p = A) :
 Calls Tryz.prog 12 #[worldW T P a n c a' m c', bodyW V] w fun e w' => WOut w w' e A := by
 have hset := cset_map
 have hS := FmPut.start w T P a a' n c m c' V
 cases hok : worldB T P n U m Q with
 | false =>
  simp only [putWA, hok, cond_false] at eA
  subst eA
  go_enter Tryz.func12, Tryz.ntmps12
  go_wp2_with (go_at_call 8; refine (sWorldOk_q T P a n c U a' m c' Q _ (h.below hS.wd.bel) (h'.below hS.wd.bel) hn hm false hok).mono ?_; rintro e w1 ⟨rfl, hb1⟩; have hS1 := hS.on hb1; have y0 := hS1.wd.c0; have y1 := hS1.wd.c1; have y2 := hS1.wd.c2; have y3 := hS1.wd.c3; have z0 := hS1.z0; have z1 := hS1.z1; have z2 := hS1.z2; have z3 := hS1.z3; have nf := hS1.nf; have bg := hS1.big; have r0 := hS1.r0; have r1 := hS1.r1; have r2 := hS1.r2; have r3 := hS1.r3; have r4 := hS1.r4; have r5 := hS1.r5; have r6 := hS1.r6; have r7 := hS1.r7; have r8 := hS1.r8; have r9 := hS1.r9; have r10 := hS1.r10; have r11 := hS1.r11)
  exact bodyPost_ret (v := .tuple #[worldW 0 0 none 0 0 none 0 0, .int .i64 1]) (by simp [results, Tryz.results12, go_sem, *]) rfl (WOut.ofp none 0 none 0 rfl (OutW.nil ((((hS1.wd.bel.setCell (by first | omega | (simp; done) | (simp; omega)) _).setCell (by first | omega | (simp; done) | (simp; omega)) _).setCell (by first | omega | (simp; done) | (simp; omega)) _).setCell (by first | omega | (simp; done) | (simp; omega)) _)))
 | true =>
  unfold putWA at eA
  have hbb := worldB_bodp hok
  have hn12 := bodsB_n12 hbb
  have ha := bodsB_asc hbb
  obtain ⟨BD, hBD⟩ : ∃ b, bodyB V = b := ⟨_, rfl⟩
  obtain ⟨TH, hTH⟩ : ∃ b, decide (p < n ∧ U (p * 12) = V 0) = b := ⟨_, rfl⟩
  obtain ⟨FU, hFU⟩ : ∃ b, decide (n = 12) = b := ⟨_, rfl⟩
  rw [hok, hBD, hTH, hFU] at eA
  have HTH : Shut (decide (p < n ∧ U (p * 12) = V 0) = TH) := hTH
  have HFU : Shut (decide (n = 12) = FU) := hFU
  clear hTH hFU
  go_enter Tryz.func12, Tryz.ntmps12
  go_upto_region 3 with (go_at_call 8; refine (sWorldOk_q T P a n c U a' m c' Q _ (h.below hS.wd.bel) (h'.below hS.wd.bel) hn hm true hok).mono ?_; rintro e w1 ⟨rfl, hb1⟩; have hS1 := hS.on hb1; have y0 := hS1.wd.c0; have y1 := hS1.wd.c1; have y2 := hS1.wd.c2; have y3 := hS1.wd.c3; have z0 := hS1.z0; have z1 := hS1.z1; have z2 := hS1.z2; have z3 := hS1.z3; have nf := hS1.nf; have bg := hS1.big; have r0 := hS1.r0; have r1 := hS1.r1; have r2 := hS1.r2; have r3 := hS1.r3; have r4 := hS1.r4; have r5 := hS1.r5; have r6 := hS1.r6; have r7 := hS1.r7; have r8 := hS1.r8; have r9 := hS1.r9; have r10 := hS1.r10; have r11 := hS1.r11)
  go_upto_region 3 with fail
  go_cut [6, 7] (fun s0 s1 wc => s0 = .int .i64 (p : Int) ∧ s1 = .bool TH ∧ FmPut w T P a n c a' m c' V wc)
  case first =>
   go_wp2_with (go_at_call 24; refine (l10At_q a n c U (V 0) p _ (h.below hS1.wd.bel) hn hp TH HTH.out).mono ?_; rintro e w4 ⟨rfl, hb4⟩)
   go_meet
   exact ⟨rfl, rfl, hS1.on hb4⟩
  case rest =>
  clear hS hb1 hS1 y0 y1 y2 y3 z0 z1 z2 z3 nf bg r0 r1 r2 r3 r4 r5 r6 r7 r8 r9 r10 r11
  obtain ⟨rfl, rfl, hS⟩ := hcut
  have y0 := hS.wd.c0
  have y1 := hS.wd.c1
  have y2 := hS.wd.c2
  have y3 := hS.wd.c3
  have z0 := hS.z0
  have z1 := hS.z1
  have z2 := hS.z2
  have z3 := hS.z3
  have nf := hS.nf
  have bg := hS.big
  have r0 := hS.r0
  have r1 := hS.r1
  have r2 := hS.r2
  have r3 := hS.r3
  have r4 := hS.r4
  have r5 := hS.r5
  have r6 := hS.r6
  have r7 := hS.r7
  have r8 := hS.r8
  have r9 := hS.r9
  have r10 := hS.r10
  have r11 := hS.r11
  go_upto_region 4 with fail
  go_cut [21] (fun s0 wc => s0 = .bool (!BD) ∧ FmPut w T P a n c a' m c' V wc)
  case first =>
   go_wp2_with (go_at_call 36; refine (sBodyOk_q V BD _ hBD).mono ?_; rintro e w4 ⟨rfl, hb4⟩)
   go_meet
   exact ⟨rfl, hS.on hb4⟩
  case rest =>
  clear hS y0 y1 y2 y3 z0 z1 z2 z3 nf bg r0 r1 r2 r3 r4 r5 r6 r7 r8 r9 r10 r11
  obtain ⟨rfl, hS⟩ := hcut
  have y0 := hS.wd.c0
  have y1 := hS.wd.c1
  have y2 := hS.wd.c2
  have y3 := hS.wd.c3
  have z0 := hS.z0
  have z1 := hS.z1
  have z2 := hS.z2
  have z3 := hS.z3
  have nf := hS.nf
  have bg := hS.big
  have r0 := hS.r0
  have r1 := hS.r1
  have r2 := hS.r2
  have r3 := hS.r3
  have r4 := hS.r4
  have r5 := hS.r5
  have r6 := hS.r6
  have r7 := hS.r7
  have r8 := hS.r8
  have r9 := hS.r9
  have r10 := hS.r10
  have r11 := hS.r11
  cases BD with
  | false =>
   simp only [cond_true, cond_false] at eA
   subst eA
   go_wp2_with (go_at_call 37; refine (l10Copy_any T P a n c U a' m c' Q _ (h.below hS.wd.bel) (h'.below hS.wd.bel) hn hm).mono ?_; rintro e w3 ⟨a1, c1, a2, c2, rfl, hO⟩; have hS3 := hS.on hO.bel; have q0 := hS3.z0; have q1 := hS3.z1; have q2 := hS3.z2; have q3 := hS3.z3; have qf := hS3.nf; have qb := hS3.big)
   exact bodyPost_ret (v := .tuple #[worldW T P a1 n c1 a2 m c2, .int .i64 1]) (by simp [results, Tryz.results12, go_sem, *]) rfl (WOut.ofp a1 c1 a2 c2 rfl (hO.res hS.wd.bel (by first | omega | (simp; done) | (simp; omega)) hS.big _ _ _ _))
  | true =>
   cases TH with
   | true =>
    simp only [cond_true, cond_false] at eA
    subst eA
    go_wp2_with (go_at_call 37; refine (l10Copy_any T P a n c U a' m c' Q _ (h.below hS.wd.bel) (h'.below hS.wd.bel) hn hm).mono ?_; rintro e w3 ⟨a1, c1, a2, c2, rfl, hO⟩; have hS3 := hS.on hO.bel; have q0 := hS3.z0; have q1 := hS3.z1; have q2 := hS3.z2; have q3 := hS3.z3; have qf := hS3.nf; have qb := hS3.big)
    exact bodyPost_ret (v := .tuple #[worldW T P a1 n c1 a2 m c2, .int .i64 2]) (by simp [results, Tryz.results12, go_sem, *]) rfl (WOut.ofp a1 c1 a2 c2 rfl (hO.res hS.wd.bel (by first | omega | (simp; done) | (simp; omega)) hS.big _ _ _ _))
   | false =>
    cases FU with
    | true =>
     simp only [cond_true, cond_false] at eA
     subst eA
     have q1 := of_decide_eq_true HFU.out
     have e1 : ((n : Int) == 12) = true := by simp; omega
     have e2 : (12 : Int) ≤ (n : Int) := by omega
     have e3 : ((n : Int) = 12) = True := eq_true (by omega)
     have Q1 : Shut (n = 12) := q1
     clear q1
     go_wp2_with (go_at_call 37; refine (l10Copy_any T P a n c U a' m c' Q _ (h.below hS.wd.bel) (h'.below hS.wd.bel) hn hm).mono ?_; rintro e w3 ⟨a1, c1, a2, c2, rfl, hO⟩; have hS3 := hS.on hO.bel; have q0 := hS3.z0; have q1 := hS3.z1; have q2 := hS3.z2; have q3 := hS3.z3; have qf := hS3.nf; have qb := hS3.big)
     exact bodyPost_ret (v := .tuple #[worldW T P a1 n c1 a2 m c2, .int .i64 3]) (by simp [results, Tryz.results12, go_sem, *]) rfl (WOut.ofp a1 c1 a2 c2 rfl (hO.res hS.wd.bel (by first | omega | (simp; done) | (simp; omega)) hS.big _ _ _ _))
    | false =>
     simp only [cond_true, cond_false] at eA
     subst eA
     have q1 := of_decide_eq_false HFU.out
     have e1 : ((n : Int) == 12) = false := by simp; omega
     have e2 : ¬ (12 : Int) ≤ (n : Int) := by omega
     have e3 : ¬ (n : Int) = 12 := by omega
     go_upto_region 10 with fail
     go_cut [8] (fun s0 wc => ∃ lo bx a1 c1 a2 c2, s0 = .pointer (some ⟨bx, 0, none⟩) ∧ w.heap.size + 1 + 1 < lo ∧ FmPut w T P a n c a' m c' V wc ∧ Vw wc lo wc.heap.size bx T P a1 n c1 U a2 m c2 Q)
     case first =>
      go_wp2_with (go_at_call 37; refine (l10Copy_any T P a n c U a' m c' Q _ (h.below hS.wd.bel) (h'.below hS.wd.bel) hn hm).mono ?_; rintro e w3 ⟨a1, c1, a2, c2, rfl, hO⟩; have hS3 := hS.on hO.bel; have q0 := hS3.z0; have q1 := hS3.z1; have q2 := hS3.z2; have q3 := hS3.z3; have qf := hS3.nf; have qb := hS3.big)
      go_meet
      exact ⟨_, _, a1, c1, a2, c2, rfl, hS.big, (hS.on hO.bel).on ((Below.refl _ _).alloc (Nat.le_refl _) _), (Vw.new hO).top⟩
     case rest =>
     clear hS y0 y1 y2 y3 z0 z1 z2 z3 nf bg r0 r1 r2 r3 r4 r5 r6 r7 r8 r9 r10 r11
     obtain ⟨lo, bx, a1, c1, a2, c2, rfl, hlo, hS, hV⟩ := hcut
     have y0 := hS.wd.c0
     have y1 := hS.wd.c1
     have y2 := hS.wd.c2
     have y3 := hS.wd.c3
     have z0 := hS.z0
     have z1 := hS.z1
     have z2 := hS.z2
     have z3 := hS.z3
     have nf := hS.nf
     have bg := hS.big
     have r0 := hS.r0
     have r1 := hS.r1
     have r2 := hS.r2
     have r3 := hS.r3
     have r4 := hS.r4
     have r5 := hS.r5
     have r6 := hS.r6
     have r7 := hS.r7
     have r8 := hS.r8
     have r9 := hS.r9
     have r10 := hS.r10
     have r11 := hS.r11
     have v0 := hV.c0
     have v1 := hV.c1
     have v2 := hV.c2
     have v3 := hV.c3
     have vn := hV.nf
     have vb := hV.blt
     have vl := hV.bl
     have hpc : (p : Int) ≤ (c : Int) := by have := hp.le; omega
     have hpn1 : (p : Int) ≤ (n : Int) := by have := hp.le; omega
     have hple := hp.le
     obtain ⟨at2, hat2⟩ : ∃ x, (if c = p then a else Option.map (fun x => Addr.add x (p * 12)) a) = x := ⟨_, rfl⟩
     go_upto_region 11 with fail
     go_cut [] (fun  wc => ∃ a7 c7, FmPut w T P a n c a' m c' V wc ∧ Vw wc lo wc.heap.size bx T P a7 (n + 1) c7 (insU U p V) a2 m c2 Q)
     case first =>
      refine wp_region_held_drew (S := fun w' => w'.cell? ⟨w.heap.size, 2, none⟩ = some (.slice a n c) ∧ w'.cell? ⟨w.heap.size + 1, 0, none⟩ = some (.int .i64 (V 0)) ∧ w'.cell? ⟨w.heap.size + 1, 1, none⟩ = some (.int .i64 (V 1)) ∧ w'.cell? ⟨w.heap.size + 1, 2, none⟩ = some (.int .i64 (V 2)) ∧ w'.cell? ⟨w.heap.size + 1, 3, none⟩ = some (.int .i64 (V 3)) ∧ w'.cell? ⟨w.heap.size + 1, 4, none⟩ = some (.int .i64 (V 4)) ∧ w'.cell? ⟨w.heap.size + 1, 5, none⟩ = some (.int .i64 (V 5)) ∧ w'.cell? ⟨w.heap.size + 1, 6, none⟩ = some (.int .i64 (V 6)) ∧ w'.cell? ⟨w.heap.size + 1, 7, none⟩ = some (.int .i64 (V 7)) ∧ w'.cell? ⟨w.heap.size + 1, 8, none⟩ = some (.int .i64 (V 8)) ∧ w'.cell? ⟨w.heap.size + 1, 9, none⟩ = some (.int .i64 (V 9)) ∧ w'.cell? ⟨w.heap.size + 1, 10, none⟩ = some (.int .i64 (V 10)) ∧ w'.cell? ⟨w.heap.size + 1, 11, none⟩ = some (.int .i64 (V 11))) (by kernel_rfl) ?_ (fun hHeld => ?_)
      · (try dsimp only)
        (first | (go_simp; done) | (go_keep; done))
      refine tq 1 hHeld ?_
      refine tq 2 hHeld ?_
      refine tq 3 hHeld ?_
      refine tq 4 hHeld ?_
      refine tq 6 hHeld ?_
      refine tq 9 hHeld ?_
      refine tq 10 hHeld ?_
      refine tq 11 hHeld ?_
      refine tq 12 hHeld ?_
      refine wpAnyH_ready (rs := [0, 7]) (by kernel_rfl) (by simp) ?_
      refine AllReadyH.cons rfl (fun K hK => ?_) (AllReadyH.cons rfl (fun K hK => ?_) AllReadyH.nil)
      · have hT1 : Below wc.heap.size wc (wc.alloc (Obj.cells #[] 41)).drew := ((Below.refl _ _).alloc (Nat.le_refl _) _).drew
        have hS1 := hS.on hT1
        have y1 := hS1.wd.c2
        have yr1_0 := hS1.r0
        have yr1_1 := hS1.r1
        have yr1_2 := hS1.r2
        have yr1_3 := hS1.r3
        have yr1_4 := hS1.r4
        have yr1_5 := hS1.r5
        have yr1_6 := hS1.r6
        have yr1_7 := hS1.r7
        have yr1_8 := hS1.r8
        have yr1_9 := hS1.r9
        have yr1_10 := hS1.r10
        have yr1_11 := hS1.r11
        have hz1 := hT1.size
        have hst1 : Below wc.heap.size wc (wc.alloc (Obj.cells #[] 41)).drew := ((Below.refl _ _).alloc (Nat.le_refl _) _).drew
        have hsz1 : wc.heap.size < (wc.alloc (Obj.cells #[] 41)).drew.heap.size := by simp
        have ho1 : OwnL (wc.alloc (Obj.cells #[] 41)).drew wc.heap.size 41 12 (.slice (some ⟨wc.heap.size, 0, none⟩) 0 0) 0 (fun _ => 0) := (OwnL.fresh0 _ _ _ _ _ _ rfl (Nat.le_refl _)).drewO
        (go_simp; generalize (wc.alloc (Obj.cells #[] 41)).drew = y1w at hT1 hst1 hsz1 hS1 y1 yr1_0 yr1_1 yr1_2 yr1_3 yr1_4 yr1_5 yr1_6 yr1_7 yr1_8 yr1_9 yr1_10 yr1_11 hz1 ho1 ⊢; refine tr hK (fun hHeld => ?_); clear hK K)
        refine wpAnyH_ready (rs := [5, 7]) (by kernel_rfl) (by simp) ?_
        refine AllReadyH.cons rfl (fun K hK => ?_) (AllReadyH.cons rfl (fun K hK => ?_) AllReadyH.nil)
        · refine step_app0 (by rfl) _ _ _ (by rfl) wc.heap.size 41 12 96 zcBody Tryz.underlying23 infoItBody (by rfl) (by decide) _ (fun _ => 0) (by rfl) ho1 _ p _ U (by rfl) (flatUpA (h.below (hS.wd.bel.trans (hT1.mono hS.wd.bel.size))) hp.le) (by unfold maxLen; omega) (by omega) hT1.size ?_
          intro a2 c2 v2 ho2 hg2
          have hT2 : Below wc.heap.size wc v2 := hT1.grown hg2 hT1.size (fun b e => (ho1.lt b e).1)
          have hS2 := hS.on hT2
          have y2 := hS2.wd.c2
          have yr2_0 := hS2.r0
          have yr2_1 := hS2.r1
          have yr2_2 := hS2.r2
          have yr2_3 := hS2.r3
          have yr2_4 := hS2.r4
          have yr2_5 := hS2.r5
          have yr2_6 := hS2.r6
          have yr2_7 := hS2.r7
          have yr2_8 := hS2.r8
          have yr2_9 := hS2.r9
          have yr2_10 := hS2.r10
          have yr2_11 := hS2.r11
          have hz2 := hT2.size
          refine tr hK (fun hHeld => ?_) ⟨y2, yr2_0, yr2_1, yr2_2, yr2_3, yr2_4, yr2_5, yr2_6, yr2_7, yr2_8, yr2_9, yr2_10, yr2_11⟩
          clear hK K
          refine tc 7 fun K hK => ?_
          have hT3 : Below wc.heap.size wc (v2.alloc (Obj.cells #[.int .i64 (V 0), .int .i64 (V 1), .int .i64 (V 2), .int .i64 (V 3), .int .i64 (V 4), .int .i64 (V 5), .int .i64 (V 6), .int .i64 (V 7), .int .i64 (V 8), .int .i64 (V 9), .int .i64 (V 10), .int .i64 (V 11)] 41)) := hT2.alloc hT2.size _
          have hS3 := hS.on hT3
          have y3 := hS3.wd.c2
          have yr3_0 := hS3.r0
          have yr3_1 := hS3.r1
          have yr3_2 := hS3.r2
          have yr3_3 := hS3.r3
          have yr3_4 := hS3.r4
          have yr3_5 := hS3.r5
          have yr3_6 := hS3.r6
          have yr3_7 := hS3.r7
          have yr3_8 := hS3.r8
          have yr3_9 := hS3.r9
          have yr3_10 := hS3.r10
          have yr3_11 := hS3.r11
          have hz3 := hT3.size
          have hst3 : Below v2.heap.size v2 (v2.alloc (Obj.cells #[.int .i64 (V 0), .int .i64 (V 1), .int .i64 (V 2), .int .i64 (V 3), .int .i64 (V 4), .int .i64 (V 5), .int .i64 (V 6), .int .i64 (V 7), .int .i64 (V 8), .int .i64 (V 9), .int .i64 (V 10), .int .i64 (V 11)] 41)) := ((Below.refl _ _).alloc (Nat.le_refl _) _)
          have hsz3 : v2.heap.size < (v2.alloc (Obj.cells #[.int .i64 (V 0), .int .i64 (V 1), .int .i64 (V 2), .int .i64 (V 3), .int .i64 (V 4), .int .i64 (V 5), .int .i64 (V 6), .int .i64 (V 7), .int .i64 (V 8), .int .i64 (V 9), .int .i64 (V 10), .int .i64 (V 11)] 41)).heap.size := by simp
          have hc3 : ∀ j, j < 12 → (v2.alloc (Obj.cells #[.int .i64 (V 0), .int .i64 (V 1), .int .i64 (V 2), .int .i64 (V 3), .int .i64 (V 4), .int .i64 (V 5), .int .i64 (V 6), .int .i64 (V 7), .int .i64 (V 8), .int .i64 (V 9), .int .i64 (V 10), .int .i64 (V 11)] 41)).cell? ⟨v2.heap.size, j, none⟩ = some (.int .i64 (V j)) := cellsB v2 V _
          have hl3 : v2.heap.size < (v2.alloc (Obj.cells #[.int .i64 (V 0), .int .i64 (V 1), .int .i64 (V 2), .int .i64 (V 3), .int .i64 (V 4), .int .i64 (V 5), .int .i64 (V 6), .int .i64 (V 7), .int .i64 (V 8), .int .i64 (V 9), .int .i64 (V 10), .int .i64 (V 11)] 41)).heap.size := by simp
          have ho3 := ho2.below hst3
          (go_simp; generalize (v2.alloc (Obj.cells #[.int .i64 (V 0), .int .i64 (V 1), .int .i64 (V 2), .int .i64 (V 3), .int .i64 (V 4), .int .i64 (V 5), .int .i64 (V 6), .int .i64 (V 7), .int .i64 (V 8), .int .i64 (V 9), .int .i64 (V 10), .int .i64 (V 11)] 41)) = y3w at hT3 hst3 hsz3 hS3 y3 yr3_0 yr3_1 yr3_2 yr3_3 yr3_4 yr3_5 yr3_6 yr3_7 yr3_8 yr3_9 yr3_10 yr3_11 hz3 hc3 hl3 ho3 ⊢; refine tr hK (fun hHeld => ?_); clear hK K)
          refine tc 8 fun K hK => ?_
          refine step_app (by rfl) _ _ _ (by rfl) wc.heap.size 41 12 96 zcBody Tryz.underlying23 infoItBody (by rfl) (by decide) _ p U (by rfl) ho3 _ 1 _ V (by rfl) (fun _ => ⟨v2.heap.size, 0, rfl, hl3, fun j hj => by rw [Nat.zero_add]; exact hc3 j (by omega)⟩) (by unfold maxLen; omega) (by omega) hT3.size ?_
          intro a4 c4 v4 ho4 hg4
          have hT4 : Below wc.heap.size wc v4 := hT3.grown hg4 hT3.size (fun b e => (ho3.lt b e).1)
          have hS4 := hS.on hT4
          have y4 := hS4.wd.c2
          have yr4_0 := hS4.r0
          have yr4_1 := hS4.r1
          have yr4_2 := hS4.r2
          have yr4_3 := hS4.r3
          have yr4_4 := hS4.r4
          have yr4_5 := hS4.r5
          have yr4_6 := hS4.r6
          have yr4_7 := hS4.r7
          have yr4_8 := hS4.r8
          have yr4_9 := hS4.r9
          have yr4_10 := hS4.r10
          have yr4_11 := hS4.r11
          have hz4 := hT4.size
          refine tr hK (fun hHeld => ?_) ⟨y4, yr4_0, yr4_1, yr4_2, yr4_3, yr4_4, yr4_5, yr4_6, yr4_7, yr4_8, yr4_9, yr4_10, yr4_11⟩
          clear hK K
          refine tc 13 fun K hK => ?_
          refine step_app (by rfl) _ _ _ (by rfl) wc.heap.size 41 12 96 zcBody Tryz.underlying23 infoItBody (by rfl) (by decide) _ (p + 1) (cat (p * 12) U V) (by rfl) ho4 _ (n - p) _ (fun q => U (q + p * 12)) (by rfl) (flatFromA hat2 hnc (h.below (hS.wd.bel.trans (hT4.mono hS.wd.bel.size)))) (by unfold maxLen; omega) (by omega) hT4.size ?_
          intro a5 c5 v5 ho5 hg5
          have hT5 : Below wc.heap.size wc v5 := hT4.grown hg5 hT4.size (fun b e => (ho4.lt b e).1)
          have hS5 := hS.on hT5
          have y5 := hS5.wd.c2
          have yr5_0 := hS5.r0
          have yr5_1 := hS5.r1
          have yr5_2 := hS5.r2
          have yr5_3 := hS5.r3
          have yr5_4 := hS5.r4
          have yr5_5 := hS5.r5
          have yr5_6 := hS5.r6
          have yr5_7 := hS5.r7
          have yr5_8 := hS5.r8
          have yr5_9 := hS5.r9
          have yr5_10 := hS5.r10
          have yr5_11 := hS5.r11
          have hz5 := hT5.size
          refine tr hK (fun hHeld => ?_) ⟨y5, yr5_0, yr5_1, yr5_2, yr5_3, yr5_4, yr5_5, yr5_6, yr5_7, yr5_8, yr5_9, yr5_10, yr5_11⟩
          clear hK K
          refine tq 14 hHeld ?_
          have hVz := hV.onT hT5
          have k6 := hVz.c2
          have k6f := hVz.nf
          have j0 : ¬ bx = w.heap.size := by omega
          have j0' : ¬ w.heap.size = bx := fun e => j0 e.symm
          have j1 : ¬ bx = w.heap.size + 1 := by omega
          have j1' : ¬ w.heap.size + 1 = bx := fun e => j1 e.symm
          refine tc 15 fun K hK => ?_
          (go_simp; refine tr hK (fun hHeld => ?_); clear hK K)
          refine wpAnyH_done (by kernel_rfl) ?_ _
          go_wp2_with fail
          go_meet
          have hne : p + 1 + (n - p) = n + 1 := by have := hp.le; omega
          have ho9 := ho5.congr (fun q _ => cat_ins U V p q)
          have hs1 : Fr (fun b => b = bx) v5 (v5.setCell ⟨bx, 2, none⟩ (.slice a5 (p + 1 + (n - p)) c5)) := Fr.setCell (X := fun b => b = bx) rfl _
          have hR := (hV.setBm hT5 ho9).top
          have hS9 := (hS.on hT5).fr hs1 (fun b e => by subst e; omega)
          rw [hne] at hR hS9 ⊢
          exact ⟨_, _, hS9, hR⟩
        · have hT6 : Below wc.heap.size wc (y1w.alloc (Obj.cells #[.int .i64 (V 0), .int .i64 (V 1), .int .i64 (V 2), .int .i64 (V 3), .int .i64 (V 4), .int .i64 (V 5), .int .i64 (V 6), .int .i64 (V 7), .int .i64 (V 8), .int .i64 (V 9), .int .i64 (V 10), .int .i64 (V 11)] 41)) := hT1.alloc hT1.size _
          have hS6 := hS.on hT6
          have y6 := hS6.wd.c2
          have yr6_0 := hS6.r0
          have yr6_1 := hS6.r1
          have yr6_2 := hS6.r2
          have yr6_3 := hS6.r3
          have yr6_4 := hS6.r4
          have yr6_5 := hS6.r5
          have yr6_6 := hS6.r6
          have yr6_7 := hS6.r7
          have yr6_8 := hS6.r8
          have yr6_9 := hS6.r9
          have yr6_10 := hS6.r10
          have yr6_11 := hS6.r11
          have hz6 := hT6.size
          have hst6 : Below y1w.heap.size y1w (y1w.alloc (Obj.cells #[.int .i64 (V 0), .int .i64 (V 1), .int .i64 (V 2), .int .i64 (V 3), .int .i64 (V 4), .int .i64 (V 5), .int .i64 (V 6), .int .i64 (V 7), .int .i64 (V 8), .int .i64 (V 9), .int .i64 (V 10), .int .i64 (V 11)] 41)) := ((Below.refl _ _).alloc (Nat.le_refl _) _)
          have hsz6 : y1w.heap.size < (y1w.alloc (Obj.cells #[.int .i64 (V 0), .int .i64 (V 1), .int .i64 (V 2), .int .i64 (V 3), .int .i64 (V 4), .int .i64 (V 5), .int .i64 (V 6), .int .i64 (V 7), .int .i64 (V 8), .int .i64 (V 9), .int .i64 (V 10), .int .i64 (V 11)] 41)).heap.size := by simp
          have hc6 : ∀ j, j < 12 → (y1w.alloc (Obj.cells #[.int .i64 (V 0), .int .i64 (V 1), .int .i64 (V 2), .int .i64 (V 3), .int .i64 (V 4), .int .i64 (V 5), .int .i64 (V 6), .int .i64 (V 7), .int .i64 (V 8), .int .i64 (V 9), .int .i64 (V 10), .int .i64 (V 11)] 41)).cell? ⟨y1w.heap.size, j, none⟩ = some (.int .i64 (V j)) := cellsB y1w V _
          have hl6 : y1w.heap.size < (y1w.alloc (Obj.cells #[.int .i64 (V 0), .int .i64 (V 1), .int .i64 (V 2), .int .i64 (V 3), .int .i64 (V 4), .int .i64 (V 5), .int .i64 (V 6), .int .i64 (V 7), .int .i64 (V 8), .int .i64 (V 9), .int .i64 (V 10), .int .i64 (V 11)] 41)).heap.size := by simp
          have ho6 := ho1.below hst6
          (go_simp; generalize (y1w.alloc (Obj.cells #[.int .i64 (V 0), .int .i64 (V 1), .int .i64 (V 2), .int .i64 (V 3), .int .i64 (V 4), .int .i64 (V 5), .int .i64 (V 6), .int .i64 (V 7), .int .i64 (V 8), .int .i64 (V 9), .int .i64 (V 10), .int .i64 (V 11)] 41)) = y6w at hT6 hst6 hsz6 hS6 y6 yr6_0 yr6_1 yr6_2 yr6_3 yr6_4 yr6_5 yr6_6 yr6_7 yr6_8 yr6_9 yr6_10 yr6_11 hz6 hc6 hl6 ho6 ⊢; refine tr hK (fun hHeld => ?_); clear hK K)
          refine tc 5 fun K hK => ?_
          refine step_app0 (by rfl) _ _ _ (by rfl) wc.heap.size 41 12 96 zcBody Tryz.underlying23 infoItBody (by rfl) (by decide) _ (fun _ => 0) (by rfl) ho6 _ p _ U (by rfl) (flatUpA (h.below (hS.wd.bel.trans (hT6.mono hS.wd.bel.size))) hp.le) (by unfold maxLen; omega) (by omega) hT6.size ?_
          intro a7 c7 v7 ho7 hg7
          have hT7 : Below wc.heap.size wc v7 := hT6.grown hg7 hT6.size (fun b e => (ho6.lt b e).1)
          have hS7 := hS.on hT7
          have y7 := hS7.wd.c2
          have yr7_0 := hS7.r0
          have yr7_1 := hS7.r1
          have yr7_2 := hS7.r2
          have yr7_3 := hS7.r3
          have yr7_4 := hS7.r4
          have yr7_5 := hS7.r5
          have yr7_6 := hS7.r6
          have yr7_7 := hS7.r7
          have yr7_8 := hS7.r8
          have yr7_9 := hS7.r9
          have yr7_10 := hS7.r10
          have yr7_11 := hS7.r11
          have hz7 := hT7.size
          have hc7 : ∀ j, j < 12 → v7.cell? ⟨y1w.heap.size, j, none⟩ = some (.int .i64 (V j)) := fun j hj => hg7.cell (hc6 j hj) (fun e => by simp [Value.ownBlock] at e; omega)
          have hl7 : y1w.heap.size < v7.heap.size := Nat.lt_of_lt_of_le hl6 hg7.size
          refine tr hK (fun hHeld => ?_) ⟨y7, yr7_0, yr7_1, yr7_2, yr7_3, yr7_4, yr7_5, yr7_6, yr7_7, yr7_8, yr7_9, yr7_10, yr7_11⟩
          clear hK K
          refine tc 8 fun K hK => ?_
          refine step_app (by rfl) _ _ _ (by rfl) wc.heap.size 41 12 96 zcBody Tryz.underlying23 infoItBody (by rfl) (by decide) _ p U (by rfl) ho7 _ 1 _ V (by rfl) (fun _ => ⟨y1w.heap.size, 0, rfl, hl7, fun j hj => by rw [Nat.zero_add]; exact hc7 j (by omega)⟩) (by unfold maxLen; omega) (by omega) hT7.size ?_
          intro a8 c8 v8 ho8 hg8
          have hT8 : Below wc.heap.size wc v8 := hT7.grown hg8 hT7.size (fun b e => (ho7.lt b e).1)
          have hS8 := hS.on hT8
          have y8 := hS8.wd.c2
          have yr8_0 := hS8.r0
          have yr8_1 := hS8.r1
          have yr8_2 := hS8.r2
          have yr8_3 := hS8.r3
          have yr8_4 := hS8.r4
          have yr8_5 := hS8.r5
          have yr8_6 := hS8.r6
          have yr8_7 := hS8.r7
          have yr8_8 := hS8.r8
          have yr8_9 := hS8.r9
          have yr8_10 := hS8.r10
          have yr8_11 := hS8.r11
          have hz8 := hT8.size
          refine tr hK (fun hHeld => ?_) ⟨y8, yr8_0, yr8_1, yr8_2, yr8_3, yr8_4, yr8_5, yr8_6, yr8_7, yr8_8, yr8_9, yr8_10, yr8_11⟩
          clear hK K
          refine tc 13 fun K hK => ?_
          refine step_app (by rfl) _ _ _ (by rfl) wc.heap.size 41 12 96 zcBody Tryz.underlying23 infoItBody (by rfl) (by decide) _ (p + 1) (cat (p * 12) U V) (by rfl) ho8 _ (n - p) _ (fun q => U (q + p * 12)) (by rfl) (flatFromA hat2 hnc (h.below (hS.wd.bel.trans (hT8.mono hS.wd.bel.size)))) (by unfold maxLen; omega) (by omega) hT8.size ?_
          intro a9 c9 v9 ho9 hg9
          have hT9 : Below wc.heap.size wc v9 := hT8.grown hg9 hT8.size (fun b e => (ho8.lt b e).1)
          have hS9 := hS.on hT9
          have y9 := hS9.wd.c2
          have yr9_0 := hS9.r0
          have yr9_1 := hS9.r1
          have yr9_2 := hS9.r2
          have yr9_3 := hS9.r3
          have yr9_4 := hS9.r4
          have yr9_5 := hS9.r5
          have yr9_6 := hS9.r6
          have yr9_7 := hS9.r7
          have yr9_8 := hS9.r8
          have yr9_9 := hS9.r9
          have yr9_10 := hS9.r10
          have yr9_11 := hS9.r11
          have hz9 := hT9.size
          refine tr hK (fun hHeld => ?_) ⟨y9, yr9_0, yr9_1, yr9_2, yr9_3, yr9_4, yr9_5, yr9_6, yr9_7, yr9_8, yr9_9, yr9_10, yr9_11⟩
          clear hK K
          refine tq 14 hHeld ?_
          have hVz := hV.onT hT9
          have k6 := hVz.c2
          have k6f := hVz.nf
          have j0 : ¬ bx = w.heap.size := by omega
          have j0' : ¬ w.heap.size = bx := fun e => j0 e.symm
          have j1 : ¬ bx = w.heap.size + 1 := by omega
          have j1' : ¬ w.heap.size + 1 = bx := fun e => j1 e.symm
          refine tc 15 fun K hK => ?_
          (go_simp; refine tr hK (fun hHeld => ?_); clear hK K)
          refine wpAnyH_done (by kernel_rfl) ?_ _
          go_wp2_with fail
          go_meet
          have hne : p + 1 + (n - p) = n + 1 := by have := hp.le; omega
          have ho9 := ho9.congr (fun q _ => cat_ins U V p q)
          have hs1 : Fr (fun b => b = bx) v9 (v9.setCell ⟨bx, 2, none⟩ (.slice a9 (p + 1 + (n - p)) c9)) := Fr.setCell (X := fun b => b = bx) rfl _
          have hR := (hV.setBm hT9 ho9).top
          have hS9 := (hS.on hT9).fr hs1 (fun b e => by subst e; omega)
          rw [hne] at hR hS9 ⊢
          exact ⟨_, _, hS9, hR⟩
      · have hT10 : Below wc.heap.size wc (wc.alloc (Obj.cells #[.int .i64 (V 0), .int .i64 (V 1), .int .i64 (V 2), .int .i64 (V 3), .int .i64 (V 4), .int .i64 (V 5), .int .i64 (V 6), .int .i64 (V 7), .int .i64 (V 8), .int .i64 (V 9), .int .i64 (V 10), .int .i64 (V 11)] 41)).drew := ((Below.refl _ _).alloc (Nat.le_refl _) _).drew
        have hS10 := hS.on hT10
        have y10 := hS10.wd.c2
        have yr10_0 := hS10.r0
        have yr10_1 := hS10.r1
        have yr10_2 := hS10.r2
        have yr10_3 := hS10.r3
        have yr10_4 := hS10.r4
        have yr10_5 := hS10.r5
        have yr10_6 := hS10.r6
        have yr10_7 := hS10.r7
        have yr10_8 := hS10.r8
        have yr10_9 := hS10.r9
        have yr10_10 := hS10.r10
        have yr10_11 := hS10.r11
        have hz10 := hT10.size
        have hst10 : Below wc.heap.size wc (wc.alloc (Obj.cells #[.int .i64 (V 0), .int .i64 (V 1), .int .i64 (V 2), .int .i64 (V 3), .int .i64 (V 4), .int .i64 (V 5), .int .i64 (V 6), .int .i64 (V 7), .int .i64 (V 8), .int .i64 (V 9), .int .i64 (V 10), .int .i64 (V 11)] 41)).drew := ((Below.refl _ _).alloc (Nat.le_refl _) _).drew
        have hsz10 : wc.heap.size < (wc.alloc (Obj.cells #[.int .i64 (V 0), .int .i64 (V 1), .int .i64 (V 2), .int .i64 (V 3), .int .i64 (V 4), .int .i64 (V 5), .int .i64 (V 6), .int .i64 (V 7), .int .i64 (V 8), .int .i64 (V 9), .int .i64 (V 10), .int .i64 (V 11)] 41)).drew.heap.size := by simp
        have hc10 : ∀ j, j < 12 → (wc.alloc (Obj.cells #[.int .i64 (V 0), .int .i64 (V 1), .int .i64 (V 2), .int .i64 (V 3), .int .i64 (V 4), .int .i64 (V 5), .int .i64 (V 6), .int .i64 (V 7), .int .i64 (V 8), .int .i64 (V 9), .int .i64 (V 10), .int .i64 (V 11)] 41)).drew.cell? ⟨wc.heap.size, j, none⟩ = some (.int .i64 (V j)) := cellsB wc V _
        have hl10 : wc.heap.size < (wc.alloc (Obj.cells #[.int .i64 (V 0), .int .i64 (V 1), .int .i64 (V 2), .int .i64 (V 3), .int .i64 (V 4), .int .i64 (V 5), .int .i64 (V 6), .int .i64 (V 7), .int .i64 (V 8), .int .i64 (V 9), .int .i64 (V 10), .int .i64 (V 11)] 41)).drew.heap.size := by simp
        (go_simp; generalize (wc.alloc (Obj.cells #[.int .i64 (V 0), .int .i64 (V 1), .int .i64 (V 2), .int .i64 (V 3), .int .i64 (V 4), .int .i64 (V 5), .int .i64 (V 6), .int .i64 (V 7), .int .i64 (V 8), .int .i64 (V 9), .int .i64 (V 10), .int .i64 (V 11)] 41)).drew = y10w at hT10 hst10 hsz10 hS10 y10 yr10_0 yr10_1 yr10_2 yr10_3 yr10_4 yr10_5 yr10_6 yr10_7 yr10_8 yr10_9 yr10_10 yr10_11 hz10 hc10 hl10 ⊢; refine tr hK (fun hHeld => ?_); clear hK K)
        refine tc 0 fun K hK => ?_
        have hT11 : Below wc.heap.size wc (y10w.alloc (Obj.cells #[] 41)) := hT10.alloc hT10.size _
        have hS11 := hS.on hT11
        have y11 := hS11.wd.c2
        have yr11_0 := hS11.r0
        have yr11_1 := hS11.r1
        have yr11_2 := hS11.r2
        have yr11_3 := hS11.r3
        have yr11_4 := hS11.r4
        have yr11_5 := hS11.r5
        have yr11_6 := hS11.r6
        have yr11_7 := hS11.r7
        have yr11_8 := hS11.r8
        have yr11_9 := hS11.r9
        have yr11_10 := hS11.r10
        have yr11_11 := hS11.r11
        have hz11 := hT11.size
        have hst11 : Below y10w.heap.size y10w (y10w.alloc (Obj.cells #[] 41)) := ((Below.refl _ _).alloc (Nat.le_refl _) _)
        have hsz11 : y10w.heap.size < (y10w.alloc (Obj.cells #[] 41)).heap.size := by simp
        have ho11 : OwnL (y10w.alloc (Obj.cells #[] 41)) wc.heap.size 41 12 (.slice (some ⟨y10w.heap.size, 0, none⟩) 0 0) 0 (fun _ => 0) := OwnL.fresh0 _ _ _ _ _ _ rfl hT10.size
        have hc11 : ∀ j, j < 12 → (y10w.alloc (Obj.cells #[] 41)).cell? ⟨wc.heap.size, j, none⟩ = some (.int .i64 (V j)) := fun j hj => (hst11.cell (p := ⟨wc.heap.size, j, none⟩) hl10).trans (hc10 j hj)
        have hl11 : wc.heap.size < (y10w.alloc (Obj.cells #[] 41)).heap.size := Nat.lt_of_lt_of_le hl10 hst11.size
        (go_simp; generalize (y10w.alloc (Obj.cells #[] 41)) = y11w at hT11 hst11 hsz11 hS11 y11 yr11_0 yr11_1 yr11_2 yr11_3 yr11_4 yr11_5 yr11_6 yr11_7 yr11_8 yr11_9 yr11_10 yr11_11 hz11 ho11 hc11 hl11 ⊢; refine tr hK (fun hHeld => ?_); clear hK K)
        refine tc 5 fun K hK => ?_
        refine step_app0 (by rfl) _ _ _ (by rfl) wc.heap.size 41 12 96 zcBody Tryz.underlying23 infoItBody (by rfl) (by decide) _ (fun _ => 0) (by rfl) ho11 _ p _ U (by rfl) (flatUpA (h.below (hS.wd.bel.trans (hT11.mono hS.wd.bel.size))) hp.le) (by unfold maxLen; omega) (by omega) hT11.size ?_
        intro a12 c12 v12 ho12 hg12
        have hT12 : Below wc.heap.size wc v12 := hT11.grown hg12 hT11.size (fun b e => (ho11.lt b e).1)
        have hS12 := hS.on hT12
        have y12 := hS12.wd.c2
        have yr12_0 := hS12.r0
        have yr12_1 := hS12.r1
        have yr12_2 := hS12.r2
        have yr12_3 := hS12.r3
        have yr12_4 := hS12.r4
        have yr12_5 := hS12.r5
        have yr12_6 := hS12.r6
        have yr12_7 := hS12.r7
        have yr12_8 := hS12.r8
        have yr12_9 := hS12.r9
        have yr12_10 := hS12.r10
        have yr12_11 := hS12.r11
        have hz12 := hT12.size
        have hc12 : ∀ j, j < 12 → v12.cell? ⟨wc.heap.size, j, none⟩ = some (.int .i64 (V j)) := fun j hj => hg12.cell (hc11 j hj) (fun e => by simp [Value.ownBlock] at e; omega)
        have hl12 : wc.heap.size < v12.heap.size := Nat.lt_of_lt_of_le hl11 hg12.size
        refine tr hK (fun hHeld => ?_) ⟨y12, yr12_0, yr12_1, yr12_2, yr12_3, yr12_4, yr12_5, yr12_6, yr12_7, yr12_8, yr12_9, yr12_10, yr12_11⟩
        clear hK K
        refine tc 8 fun K hK => ?_
        refine step_app (by rfl) _ _ _ (by rfl) wc.heap.size 41 12 96 zcBody Tryz.underlying23 infoItBody (by rfl) (by decide) _ p U (by rfl) ho12 _ 1 _ V (by rfl) (fun _ => ⟨wc.heap.size, 0, rfl, hl12, fun j hj => by rw [Nat.zero_add]; exact hc12 j (by omega)⟩) (by unfold maxLen; omega) (by omega) hT12.size ?_
        intro a13 c13 v13 ho13 hg13
        have hT13 : Below wc.heap.size wc v13 := hT12.grown hg13 hT12.size (fun b e => (ho12.lt b e).1)
        have hS13 := hS.on hT13
        have y13 := hS13.wd.c2
        have yr13_0 := hS13.r0
        have yr13_1 := hS13.r1
        have yr13_2 := hS13.r2
        have yr13_3 := hS13.r3
        have yr13_4 := hS13.r4
        have yr13_5 := hS13.r5
        have yr13_6 := hS13.r6
        have yr13_7 := hS13.r7
        have yr13_8 := hS13.r8
        have yr13_9 := hS13.r9
        have yr13_10 := hS13.r10
        have yr13_11 := hS13.r11
        have hz13 := hT13.size
        refine tr hK (fun hHeld => ?_) ⟨y13, yr13_0, yr13_1, yr13_2, yr13_3, yr13_4, yr13_5, yr13_6, yr13_7, yr13_8, yr13_9, yr13_10, yr13_11⟩
        clear hK K
        refine tc 13 fun K hK => ?_
        refine step_app (by rfl) _ _ _ (by rfl) wc.heap.size 41 12 96 zcBody Tryz.underlying23 infoItBody (by rfl) (by decide) _ (p + 1) (cat (p * 12) U V) (by rfl) ho13 _ (n - p) _ (fun q => U (q + p * 12)) (by rfl) (flatFromA hat2 hnc (h.below (hS.wd.bel.trans (hT13.mono hS.wd.bel.size)))) (by unfold maxLen; omega) (by omega) hT13.size ?_
        intro a14 c14 v14 ho14 hg14
        have hT14 : Below wc.heap.size wc v14 := hT13.grown hg14 hT13.size (fun b e => (ho13.lt b e).1)
        have hS14 := hS.on hT14
        have y14 := hS14.wd.c2
        have yr14_0 := hS14.r0
        have yr14_1 := hS14.r1
        have yr14_2 := hS14.r2
        have yr14_3 := hS14.r3
        have yr14_4 := hS14.r4
        have yr14_5 := hS14.r5
        have yr14_6 := hS14.r6
        have yr14_7 := hS14.r7
        have yr14_8 := hS14.r8
        have yr14_9 := hS14.r9
        have yr14_10 := hS14.r10
        have yr14_11 := hS14.r11
        have hz14 := hT14.size
        refine tr hK (fun hHeld => ?_) ⟨y14, yr14_0, yr14_1, yr14_2, yr14_3, yr14_4, yr14_5, yr14_6, yr14_7, yr14_8, yr14_9, yr14_10, yr14_11⟩
        clear hK K
        refine tq 14 hHeld ?_
        have hVz := hV.onT hT14
        have k6 := hVz.c2
        have k6f := hVz.nf
        have j0 : ¬ bx = w.heap.size := by omega
        have j0' : ¬ w.heap.size = bx := fun e => j0 e.symm
        have j1 : ¬ bx = w.heap.size + 1 := by omega
        have j1' : ¬ w.heap.size + 1 = bx := fun e => j1 e.symm
        refine tc 15 fun K hK => ?_
        (go_simp; refine tr hK (fun hHeld => ?_); clear hK K)
        refine wpAnyH_done (by kernel_rfl) ?_ _
        go_wp2_with fail
        go_meet
        have hne : p + 1 + (n - p) = n + 1 := by have := hp.le; omega
        have ho9 := ho14.congr (fun q _ => cat_ins U V p q)
        have hs1 : Fr (fun b => b = bx) v14 (v14.setCell ⟨bx, 2, none⟩ (.slice a14 (p + 1 + (n - p)) c14)) := Fr.setCell (X := fun b => b = bx) rfl _
        have hR := (hV.setBm hT14 ho9).top
        have hS9 := (hS.on hT14).fr hs1 (fun b e => by subst e; omega)
        rw [hne] at hR hS9 ⊢
        exact ⟨_, _, hS9, hR⟩
     case rest =>
     clear hS y0 y1 y2 y3 z0 z1 z2 z3 nf bg r0 r1 r2 r3 r4 r5 r6 r7 r8 r9 r10 r11 hV v0 v1 v2 v3 vn vb vl
     clear hat2
     obtain ⟨a7, c7, hS, hV⟩ := hcut
     have y0 := hS.wd.c0
     have y1 := hS.wd.c1
     have y2 := hS.wd.c2
     have y3 := hS.wd.c3
     have z0 := hS.z0
     have z1 := hS.z1
     have z2 := hS.z2
     have z3 := hS.z3
     have nf := hS.nf
     have bg := hS.big
     have r0 := hS.r0
     have r1 := hS.r1
     have r2 := hS.r2
     have r3 := hS.r3
     have r4 := hS.r4
     have r5 := hS.r5
     have r6 := hS.r6
     have r7 := hS.r7
     have r8 := hS.r8
     have r9 := hS.r9
     have r10 := hS.r10
     have r11 := hS.r11
     have v0 := hV.c0
     have v1 := hV.c1
     have v2 := hV.c2
     have v3 := hV.c3
     have vn := hV.nf
     have vb := hV.blt
     have vl := hV.bl
     go_wp2_with fail
     exact bodyPost_ret (v := .tuple #[worldW T P a7 (n + 1) c7 a2 m c2, .int .i64 0]) (by simp [results, Tryz.results12, go_sem, *]) rfl (WOut.ofp a7 c7 a2 c2 rfl (hV.out hS.wd.bel (by omega) (by omega) _ _ _ _))
end Go.Proofs.YthijeiehcdoidaaGreat
