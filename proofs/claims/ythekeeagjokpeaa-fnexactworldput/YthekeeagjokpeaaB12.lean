/- The exact law of WorldPut, walked. Lemmas on whatever program: from the head of its cut's word to the closed facts. Closed facts of the loaded program, each a theorem of its own. -/
import Derived.Test.YthekeeagjokpeaaB10
import Derived.Test.YthekeeagjokpeaaB11
import Derived.Deep.RegionHeld3
import Derived.Deep.DeepCutAuto
import Derived.Test.YthekeeagjokpeaaRows
import Derived.WalkKit
import Derived.JoinedOf
import Derived.ProofKit
namespace Go.Proofs.Ythekeeagjokpeaa
open Go.RowKit
set_option linter.unusedVariables false
set_option linter.unusedSimpArgs false
/-- what the law begins with -/
structure LfPut (w : World) (T P : Int) (a : Option Addr) (n c : Nat) (a' : Option Addr) (m c' : Nat) (V : Nat → Int) (wr : World) : Prop where
  wd : WdR w T P a n c a' m c' wr
  big : w.heap.size + 1 < wr.heap.size
  r0 : wr.cell? ⟨w.heap.size + 1, 0, none⟩ = some (.int .i64 (V 0))
  r1 : wr.cell? ⟨w.heap.size + 1, 1, none⟩ = some (.int .i64 (V 1))
  r2 : wr.cell? ⟨w.heap.size + 1, 2, none⟩ = some (.int .i64 (V 2))
  r3 : wr.cell? ⟨w.heap.size + 1, 3, none⟩ = some (.int .i64 (V 3))
  r4 : wr.cell? ⟨w.heap.size + 1, 4, none⟩ = some (.int .i64 (V 4))
  r5 : wr.cell? ⟨w.heap.size + 1, 5, none⟩ = some (.int .i64 (V 5))
  r6 : wr.cell? ⟨w.heap.size + 1, 6, none⟩ = some (.int .i64 (V 6))
  r7 : wr.cell? ⟨w.heap.size + 1, 7, none⟩ = some (.int .i64 (V 7))
  r8 : wr.cell? ⟨w.heap.size + 1, 8, none⟩ = some (.int .i64 (V 8))
  r9 : wr.cell? ⟨w.heap.size + 1, 9, none⟩ = some (.int .i64 (V 9))
  r10 : wr.cell? ⟨w.heap.size + 1, 10, none⟩ = some (.int .i64 (V 10))
  r11 : wr.cell? ⟨w.heap.size + 1, 11, none⟩ = some (.int .i64 (V 11))
theorem LfPut.on {w wr w' : World} {T P : Int} {a a' : Option Addr} {n c m c' : Nat} {V : Nat → Int} (h : LfPut w T P a n c a' m c' V wr) (hb : Below wr.heap.size wr w') : LfPut w T P a n c a' m c' V w' :=
  have bg := h.big
  ⟨h.wd.on hb, Nat.lt_of_lt_of_le h.big hb.size, (hb.cell (p := ⟨w.heap.size + 1, 0, none⟩) bg).trans h.r0, (hb.cell (p := ⟨w.heap.size + 1, 1, none⟩) bg).trans h.r1, (hb.cell (p := ⟨w.heap.size + 1, 2, none⟩) bg).trans h.r2, (hb.cell (p := ⟨w.heap.size + 1, 3, none⟩) bg).trans h.r3, (hb.cell (p := ⟨w.heap.size + 1, 4, none⟩) bg).trans h.r4, (hb.cell (p := ⟨w.heap.size + 1, 5, none⟩) bg).trans h.r5, (hb.cell (p := ⟨w.heap.size + 1, 6, none⟩) bg).trans h.r6, (hb.cell (p := ⟨w.heap.size + 1, 7, none⟩) bg).trans h.r7, (hb.cell (p := ⟨w.heap.size + 1, 8, none⟩) bg).trans h.r8, (hb.cell (p := ⟨w.heap.size + 1, 9, none⟩) bg).trans h.r9, (hb.cell (p := ⟨w.heap.size + 1, 10, none⟩) bg).trans h.r10, (hb.cell (p := ⟨w.heap.size + 1, 11, none⟩) bg).trans h.r11⟩
theorem LfPut.fr {X : Nat → Prop} {w wr w' : World} {T P : Int} {a a' : Option Addr} {n c m c' : Nat} {V : Nat → Int} (h : LfPut w T P a n c a' m c' V wr) (hs : Fr X wr w') (hX : ∀ b, X b → w.heap.size + 1 < b) : LfPut w T P a n c a' m c' V w' := by
  have bg := h.big
  have n0 : ¬ X w.heap.size := fun x => by have := hX _ x; omega
  have k0 := fun j => hs.cell (p := ⟨w.heap.size, j, none⟩) (by simp; omega) n0
  have n1 : ¬ X (w.heap.size + 1) := fun x => by have := hX _ x; omega
  have k1 := fun j => hs.cell (p := ⟨w.heap.size + 1, j, none⟩) bg n1
  exact ⟨⟨h.wd.bel.trans (hs.below (by omega) (fun b x => by have := hX b x; omega)), Nat.lt_of_lt_of_le h.wd.big hs.size, (k0 0).trans h.wd.c0, (k0 1).trans h.wd.c1, (k0 2).trans h.wd.c2, (k0 3).trans h.wd.c3⟩, Nat.lt_of_lt_of_le bg hs.size, (k1 0).trans h.r0, (k1 1).trans h.r1, (k1 2).trans h.r2, (k1 3).trans h.r3, (k1 4).trans h.r4, (k1 5).trans h.r5, (k1 6).trans h.r6, (k1 7).trans h.r7, (k1 8).trans h.r8, (k1 9).trans h.r9, (k1 10).trans h.r10, (k1 11).trans h.r11⟩
theorem LfPut.start (w : World) (T P : Int) (a a' : Option Addr) (n c m c' : Nat) (V : Nat → Int) : LfPut w T P a n c a' m c' V ((w.alloc (Obj.cells #[.int .i64 T, .int .i64 P, .slice a n c, .slice a' m c'] 25)).alloc (Obj.cells #[.int .i64 (V 0), .int .i64 (V 1), .int .i64 (V 2), .int .i64 (V 3), .int .i64 (V 4), .int .i64 (V 5), .int .i64 (V 6), .int .i64 (V 7), .int .i64 (V 8), .int .i64 (V 9), .int .i64 (V 10), .int .i64 (V 11)] 31)) :=
  ⟨⟨((Below.refl _ _).alloc (Nat.le_refl _) _).alloc (by simp) _, by simp; omega, by go_simp, by go_simp, by go_simp, by go_simp⟩, by simp, by go_simp, by go_simp, by go_simp, by go_simp, by go_simp, by go_simp, by go_simp, by go_simp, by go_simp, by go_simp, by go_simp, by go_simp⟩
set_option maxRecDepth 20000 in
set_option maxHeartbeats 16000000 in
theorem fnExactWorldPut_walk (T P : Int) (a : Option Addr) (n c : Nat) (U : Nat → Int) (a' : Option Addr) (m c' : Nat) (Q : Nat → Int) (V : Nat → Int) (w : World) (h : Flat w a (n * 12) U) (h' : Flat w a' (m * 2) Q) (hn : (n : Int) ≤ 9223372036854775807) (hm : (m : Int) ≤ 9223372036854775807) :
    Calls Try.prog 3 #[worldW T P a n c a' m c', bodyW V] w fun e w' => e = .returned (.bool true) ∧ Below w.heap.size w w' := by
  have hset := cset_map
  by_cases h20 : n + m ≤ 1048576
  · obtain ⟨p, hp⟩ := idP_ex U (V 0) n
    obtain ⟨A, eA⟩ : ∃ A, putWA T P n U m Q V p = A := ⟨_, rfl⟩
    obtain ⟨hn0, hm0⟩ : A.n ≤ 1048576 ∧ A.m ≤ 1048576 := putWA_n eA h20
    obtain ⟨T0, P0, n0, U0, m0, Q0, k0⟩ := A
    have HA : Shut (putWA T P n U m Q V p = ⟨T0, P0, n0, U0, m0, Q0, k0⟩) := eA
    clear eA
    simp only at hn0 hm0
    go_enter Try.func3, Try.ntmps3
    go_upto_region 2 with fail
    go_cut [5] (fun s wc => ∃ z : Int, s = .int .i64 z ∧ 0 ≤ z ∧ LfPut w T P a n c a' m c' V wc)
    case first =>
      go_wp2_with (go_at_call 5; refine (szWorld_any T P a n c a' m c' _ hn hm).mono ?_; rintro e w1 ⟨⟨z, rfl, hz1, hz2, hz3⟩, hb1⟩)
      go_meet
      exact ⟨z, rfl, hz1.2 h20, (LfPut.start w T P a a' n c m c' V).on hb1⟩
    case rest =>
    obtain ⟨z, rfl, hz, hB⟩ := hcut
    have hz' : ¬ z < 0 := by omega
    have y0 := hB.wd.c0
    have y1 := hB.wd.c1
    have y2 := hB.wd.c2
    have y3 := hB.wd.c3
    have yb := hB.big
    have yr_0 := hB.r0
    have yr_1 := hB.r1
    have yr_2 := hB.r2
    have yr_3 := hB.r3
    have yr_4 := hB.r4
    have yr_5 := hB.r5
    have yr_6 := hB.r6
    have yr_7 := hB.r7
    have yr_8 := hB.r8
    have yr_9 := hB.r9
    have yr_10 := hB.r10
    have yr_11 := hB.r11
    go_upto_region 5 with fail
    go_cut [6, 7] (fun s0 s1 wc => ∃ lw hw bw ew fw gw iw, s0 = .pointer (some ⟨bw, 0, none⟩) ∧ s1 = .int .i64 k0 ∧ w.heap.size + 1 < lw ∧ LfPut w T P a n c a' m c' V wc ∧ Vw wc lw hw bw T0 P0 ew n0 fw U0 gw m0 iw Q0)
    case first =>
      refine wp_region_held_drew (S := fun w' => w'.cell? ⟨w.heap.size, 0, none⟩ = some (.int .i64 T) ∧ w'.cell? ⟨w.heap.size, 1, none⟩ = some (.int .i64 P) ∧ w'.cell? ⟨w.heap.size, 2, none⟩ = some (.slice a n c) ∧ w'.cell? ⟨w.heap.size, 3, none⟩ = some (.slice a' m c') ∧ w'.cell? ⟨w.heap.size + 1, 0, none⟩ = some (.int .i64 (V 0)) ∧ w'.cell? ⟨w.heap.size + 1, 1, none⟩ = some (.int .i64 (V 1)) ∧ w'.cell? ⟨w.heap.size + 1, 2, none⟩ = some (.int .i64 (V 2)) ∧ w'.cell? ⟨w.heap.size + 1, 3, none⟩ = some (.int .i64 (V 3)) ∧ w'.cell? ⟨w.heap.size + 1, 4, none⟩ = some (.int .i64 (V 4)) ∧ w'.cell? ⟨w.heap.size + 1, 5, none⟩ = some (.int .i64 (V 5)) ∧ w'.cell? ⟨w.heap.size + 1, 6, none⟩ = some (.int .i64 (V 6)) ∧ w'.cell? ⟨w.heap.size + 1, 7, none⟩ = some (.int .i64 (V 7)) ∧ w'.cell? ⟨w.heap.size + 1, 8, none⟩ = some (.int .i64 (V 8)) ∧ w'.cell? ⟨w.heap.size + 1, 9, none⟩ = some (.int .i64 (V 9)) ∧ w'.cell? ⟨w.heap.size + 1, 10, none⟩ = some (.int .i64 (V 10)) ∧ w'.cell? ⟨w.heap.size + 1, 11, none⟩ = some (.int .i64 (V 11))) (by kernel_rfl) ?_ (fun hHeld => ?_)
      · (try dsimp only)
        (first | (go_simp; done) | (go_keep; done))
      refine tq 0 hHeld ?_
      refine tq 2 hHeld ?_
      refine wpAnyH_ready (rs := [1, 8]) (by kernel_rfl) (by simp) ?_
      refine AllReadyH.cons rfl (fun K hK => ?_) (AllReadyH.cons rfl (fun K hK => ?_) AllReadyH.nil)
      · (go_simp; (go_at_call 7; refine (toWorld_any T P a n c U a' m c' Q _ (h.below (hB.wd.bel.trans ((Below.drew (Below.refl wc.heap.size wc)).mono hB.wd.bel.size))) (h'.below (hB.wd.bel.trans ((Below.drew (Below.refl wc.heap.size wc)).mono hB.wd.bel.size))) (by omega) (by omega)).mono ?_; rintro e v1 ⟨tb, td, ts, rfl, tl, tla, tlb, tlc, tr1, tq1, hb1⟩; have hT1 := (Below.refl wc.heap.size wc).trans (hb1.ofDr.mono (Nat.le_refl _)); have hB1 := hB.on hT1; have y10 := hB1.wd.c0; have y11 := hB1.wd.c1; have y12 := hB1.wd.c2; have y13 := hB1.wd.c3; have yb1 := hB1.big; have yr1_0 := hB1.r0; have yr1_1 := hB1.r1; have yr1_2 := hB1.r2; have yr1_3 := hB1.r3; have yr1_4 := hB1.r4; have yr1_5 := hB1.r5; have yr1_6 := hB1.r6; have yr1_7 := hB1.r7; have yr1_8 := hB1.r8; have yr1_9 := hB1.r9; have yr1_10 := hB1.r10; have yr1_11 := hB1.r11); (try go_wp2_with fail); refine tr hK (fun hHeld => ?_); clear hK K)
        refine wpAnyH_ready (rs := [3, 8]) (by kernel_rfl) (by simp) ?_
        refine AllReadyH.cons rfl (fun K hK => ?_) (AllReadyH.cons rfl (fun K hK => ?_) AllReadyH.nil)
        · (go_simp; (go_at_call 8; refine (toBody_any V _).mono ?_; rintro e v2 ⟨rfl, hb2⟩; have hT2 := hT1.trans (hb2.mono hT1.size); have hB2 := hB.on hT2; have y20 := hB2.wd.c0; have y21 := hB2.wd.c1; have y22 := hB2.wd.c2; have y23 := hB2.wd.c3; have yb2 := hB2.big; have yr2_0 := hB2.r0; have yr2_1 := hB2.r1; have yr2_2 := hB2.r2; have yr2_3 := hB2.r3; have yr2_4 := hB2.r4; have yr2_5 := hB2.r5; have yr2_6 := hB2.r6; have yr2_7 := hB2.r7; have yr2_8 := hB2.r8; have yr2_9 := hB2.r9; have yr2_10 := hB2.r10; have yr2_11 := hB2.r11; have hR2 := tr1.below hb2; have hQ2 := tq1.below hb2); (try go_wp2_with fail); refine tr hK (fun hHeld => ?_); clear hK K)
          refine wpAnyH_ready (rs := [4, 8]) (by kernel_rfl) (by simp) ?_
          refine AllReadyH.cons rfl (fun K hK => ?_) (AllReadyH.cons rfl (fun K hK => ?_) AllReadyH.nil)
          · (go_simp; (go_at_call 6; refine (sWorldPut_q T P _ n _ U _ m _ Q V p _ hR2.flat hQ2.flat (by omega) (by omega) (Nat.le_refl _) ⟨_, _, rfl⟩ hp _ HA.out).mono ?_; rintro e v3 ⟨a3, c3, a4, c4, rfl, hO3⟩; have hb3 := hO3.bel; have hT3 := hT2.trans (hb3.mono hT2.size); have hB3 := hB.on hT3; have y30 := hB3.wd.c0; have y31 := hB3.wd.c1; have y32 := hB3.wd.c2; have y33 := hB3.wd.c3; have yb3 := hB3.big; have yr3_0 := hB3.r0; have yr3_1 := hB3.r1; have yr3_2 := hB3.r2; have yr3_3 := hB3.r3; have yr3_4 := hB3.r4; have yr3_5 := hB3.r5; have yr3_6 := hB3.r6; have yr3_7 := hB3.r7; have yr3_8 := hB3.r8; have yr3_9 := hB3.r9; have yr3_10 := hB3.r10; have yr3_11 := hB3.r11); (try go_wp2_with fail); refine tr hK (fun hHeld => ?_); clear hK K)
            refine tq 5 hHeld ?_
            refine tq 6 hHeld ?_
            refine tq 7 hHeld ?_
            refine tc 8 fun K hK => ?_
            have hT4 : Below wc.heap.size wc (v3.alloc (Obj.cells #[.int .i64 0, .int .i64 0, .slice none 0 0, .slice none 0 0] 36)) := hT3.alloc hT3.size _
            have hB4 := hB.on hT4
            have y40 := hB4.wd.c0
            have y41 := hB4.wd.c1
            have y42 := hB4.wd.c2
            have y43 := hB4.wd.c3
            have yb4 := hB4.big
            have yr4_0 := hB4.r0
            have yr4_1 := hB4.r1
            have yr4_2 := hB4.r2
            have yr4_3 := hB4.r3
            have yr4_4 := hB4.r4
            have yr4_5 := hB4.r5
            have yr4_6 := hB4.r6
            have yr4_7 := hB4.r7
            have yr4_8 := hB4.r8
            have yr4_9 := hB4.r9
            have yr4_10 := hB4.r10
            have yr4_11 := hB4.r11
            have hA4 : Bx0 (v3.alloc (Obj.cells #[.int .i64 0, .int .i64 0, .slice none 0 0, .slice none 0 0] 36)) wc.heap.size v3.heap.size := Bx0.new _ _ hT3.size
            have hN4 : ∀ b, ownX a3 n0 c3 a4 m0 c4 b → b ≠ v3.heap.size := fun b e => by rcases e with e | e; (have := (hO3.ob.lt b e).2; omega); (have := (hO3.op.lt b e).2; omega)
            have hO4 := hO3.on ((Below.refl _ _).alloc (Nat.le_refl _) (Obj.cells #[.int .i64 0, .int .i64 0, .slice none 0 0, .slice none 0 0] 36))
            (go_simp; generalize (v3.alloc (Obj.cells #[.int .i64 0, .int .i64 0, .slice none 0 0, .slice none 0 0] 36)) = y4 at hT4 hB4 y40 y41 y42 y43 yb4 yr4_0 yr4_1 yr4_2 yr4_3 yr4_4 yr4_5 yr4_6 yr4_7 yr4_8 yr4_9 yr4_10 yr4_11 hA4 hO4 ⊢; refine tr hK (fun hHeld => ?_); clear hK K)
            have g0 := hA4.bl
            have g1 := hA4.lt
            have zz0 := hA4.c0
            have zz1 := hA4.c1
            have zz2 := hA4.c2
            have zz3 := hA4.c3
            have zzf := hA4.nf
            have j0 : ¬ v3.heap.size = w.heap.size := by have := hB.wd.big; omega
            have j0' : ¬ w.heap.size = v3.heap.size := fun e => j0 e.symm
            have j1 : ¬ v3.heap.size = w.heap.size + 1 := by have := hB.big; omega
            have j1' : ¬ w.heap.size + 1 = v3.heap.size := fun e => j1 e.symm
            refine tc 9 fun K hK => ?_
            (go_simp; refine tr hK (fun hHeld => ?_); clear hK K)
            refine tq 10 hHeld ?_
            refine wpAnyH_done (by kernel_rfl) ?_ _
            go_wp2_with fail
            go_meet
            have hs4 := setFr4 y4 (v3.heap.size) (.int .i64 T0) (.int .i64 P0) (.slice a3 n0 c3) (.slice a4 m0 c4)
            have hbg := hB.big
            have hwl := hB.wd.big
            have hTz := hT4.size
            exact ⟨_, _, _, a3, c3, a4, c4, rfl, rfl, hbg, (hB.on hT4).fr hs4 (fun b e => by subst e; omega), Vw.put ((hO4.ob).base (B := wc.heap.size) (hT2).size) ((hO4.op).base (B := wc.heap.size) (hT2).size) hA4 hN4⟩
          · have hT5 : Below wc.heap.size wc (v2.alloc (Obj.cells #[.int .i64 0, .int .i64 0, .slice none 0 0, .slice none 0 0] 36)) := hT2.alloc hT2.size _
            have hB5 := hB.on hT5
            have y50 := hB5.wd.c0
            have y51 := hB5.wd.c1
            have y52 := hB5.wd.c2
            have y53 := hB5.wd.c3
            have yb5 := hB5.big
            have yr5_0 := hB5.r0
            have yr5_1 := hB5.r1
            have yr5_2 := hB5.r2
            have yr5_3 := hB5.r3
            have yr5_4 := hB5.r4
            have yr5_5 := hB5.r5
            have yr5_6 := hB5.r6
            have yr5_7 := hB5.r7
            have yr5_8 := hB5.r8
            have yr5_9 := hB5.r9
            have yr5_10 := hB5.r10
            have yr5_11 := hB5.r11
            have hA5 : Bx0 (v2.alloc (Obj.cells #[.int .i64 0, .int .i64 0, .slice none 0 0, .slice none 0 0] 36)) wc.heap.size v2.heap.size := Bx0.new _ _ hT2.size
            have hR5 := hR2.below ((Below.refl _ _).alloc (Nat.le_refl _) (Obj.cells #[.int .i64 0, .int .i64 0, .slice none 0 0, .slice none 0 0] 36))
            have hQ5 := hQ2.below ((Below.refl _ _).alloc (Nat.le_refl _) (Obj.cells #[.int .i64 0, .int .i64 0, .slice none 0 0, .slice none 0 0] 36))
            (go_simp; generalize (v2.alloc (Obj.cells #[.int .i64 0, .int .i64 0, .slice none 0 0, .slice none 0 0] 36)) = y5 at hT5 hB5 y50 y51 y52 y53 yb5 yr5_0 yr5_1 yr5_2 yr5_3 yr5_4 yr5_5 yr5_6 yr5_7 yr5_8 yr5_9 yr5_10 yr5_11 hA5 hR5 hQ5 ⊢; refine tr hK (fun hHeld => ?_); clear hK K)
            refine tc 4 fun K hK => ?_
            (go_simp; (go_at_call 6; refine (sWorldPut_q T P _ n _ U _ m _ Q V p _ hR5.flat hQ5.flat (by omega) (by omega) (Nat.le_refl _) ⟨_, _, rfl⟩ hp _ HA.out).mono ?_; rintro e v6 ⟨a3, c3, a4, c4, rfl, hO6⟩; have hb6 := hO6.bel; have hT6 := hT5.trans (hb6.mono hT5.size); have hB6 := hB.on hT6; have y60 := hB6.wd.c0; have y61 := hB6.wd.c1; have y62 := hB6.wd.c2; have y63 := hB6.wd.c3; have yb6 := hB6.big; have yr6_0 := hB6.r0; have yr6_1 := hB6.r1; have yr6_2 := hB6.r2; have yr6_3 := hB6.r3; have yr6_4 := hB6.r4; have yr6_5 := hB6.r5; have yr6_6 := hB6.r6; have yr6_7 := hB6.r7; have yr6_8 := hB6.r8; have yr6_9 := hB6.r9; have yr6_10 := hB6.r10; have yr6_11 := hB6.r11; have hA6 := hA5.on hb6; have hN6 : ∀ b, ownX a3 n0 c3 a4 m0 c4 b → b ≠ v2.heap.size := fun b e => by have := hA5.lt; rcases e with e | e; (have := (hO6.ob.lt b e).1; omega); (have := (hO6.op.lt b e).1; omega)); (try go_wp2_with fail); refine tr hK (fun hHeld => ?_); clear hK K)
            refine tq 5 hHeld ?_
            refine tq 6 hHeld ?_
            refine tq 7 hHeld ?_
            have g0 := hA6.bl
            have g1 := hA6.lt
            have zz0 := hA6.c0
            have zz1 := hA6.c1
            have zz2 := hA6.c2
            have zz3 := hA6.c3
            have zzf := hA6.nf
            have j0 : ¬ v2.heap.size = w.heap.size := by have := hB.wd.big; omega
            have j0' : ¬ w.heap.size = v2.heap.size := fun e => j0 e.symm
            have j1 : ¬ v2.heap.size = w.heap.size + 1 := by have := hB.big; omega
            have j1' : ¬ w.heap.size + 1 = v2.heap.size := fun e => j1 e.symm
            refine tc 9 fun K hK => ?_
            (go_simp; refine tr hK (fun hHeld => ?_); clear hK K)
            refine tq 10 hHeld ?_
            refine wpAnyH_done (by kernel_rfl) ?_ _
            go_wp2_with fail
            go_meet
            have hs4 := setFr4 v6 (v2.heap.size) (.int .i64 T0) (.int .i64 P0) (.slice a3 n0 c3) (.slice a4 m0 c4)
            have hbg := hB.big
            have hwl := hB.wd.big
            have hTz := hT6.size
            exact ⟨_, _, _, a3, c3, a4, c4, rfl, rfl, hbg, (hB.on hT6).fr hs4 (fun b e => by subst e; omega), Vw.put ((hO6.ob).base (B := wc.heap.size) (hT5).size) ((hO6.op).base (B := wc.heap.size) (hT5).size) hA6 hN6⟩
        · have hT7 : Below wc.heap.size wc (v1.alloc (Obj.cells #[.int .i64 0, .int .i64 0, .slice none 0 0, .slice none 0 0] 36)) := hT1.alloc hT1.size _
          have hB7 := hB.on hT7
          have y70 := hB7.wd.c0
          have y71 := hB7.wd.c1
          have y72 := hB7.wd.c2
          have y73 := hB7.wd.c3
          have yb7 := hB7.big
          have yr7_0 := hB7.r0
          have yr7_1 := hB7.r1
          have yr7_2 := hB7.r2
          have yr7_3 := hB7.r3
          have yr7_4 := hB7.r4
          have yr7_5 := hB7.r5
          have yr7_6 := hB7.r6
          have yr7_7 := hB7.r7
          have yr7_8 := hB7.r8
          have yr7_9 := hB7.r9
          have yr7_10 := hB7.r10
          have yr7_11 := hB7.r11
          have hA7 : Bx0 (v1.alloc (Obj.cells #[.int .i64 0, .int .i64 0, .slice none 0 0, .slice none 0 0] 36)) wc.heap.size v1.heap.size := Bx0.new _ _ hT1.size
          have hR7 := tr1.below ((Below.refl _ _).alloc (Nat.le_refl _) (Obj.cells #[.int .i64 0, .int .i64 0, .slice none 0 0, .slice none 0 0] 36))
          have hQ7 := tq1.below ((Below.refl _ _).alloc (Nat.le_refl _) (Obj.cells #[.int .i64 0, .int .i64 0, .slice none 0 0, .slice none 0 0] 36))
          (go_simp; generalize (v1.alloc (Obj.cells #[.int .i64 0, .int .i64 0, .slice none 0 0, .slice none 0 0] 36)) = y7 at hT7 hB7 y70 y71 y72 y73 yb7 yr7_0 yr7_1 yr7_2 yr7_3 yr7_4 yr7_5 yr7_6 yr7_7 yr7_8 yr7_9 yr7_10 yr7_11 hA7 hR7 hQ7 ⊢; refine tr hK (fun hHeld => ?_); clear hK K)
          refine tc 3 fun K hK => ?_
          (go_simp; (go_at_call 8; refine (toBody_any V _).mono ?_; rintro e v8 ⟨rfl, hb8⟩; have hT8 := hT7.trans (hb8.mono hT7.size); have hB8 := hB.on hT8; have y80 := hB8.wd.c0; have y81 := hB8.wd.c1; have y82 := hB8.wd.c2; have y83 := hB8.wd.c3; have yb8 := hB8.big; have yr8_0 := hB8.r0; have yr8_1 := hB8.r1; have yr8_2 := hB8.r2; have yr8_3 := hB8.r3; have yr8_4 := hB8.r4; have yr8_5 := hB8.r5; have yr8_6 := hB8.r6; have yr8_7 := hB8.r7; have yr8_8 := hB8.r8; have yr8_9 := hB8.r9; have yr8_10 := hB8.r10; have yr8_11 := hB8.r11; have hA8 := hA7.on hb8; have hR8 := hR7.below hb8; have hQ8 := hQ7.below hb8); (try go_wp2_with fail); refine tr hK (fun hHeld => ?_); clear hK K)
          refine tc 4 fun K hK => ?_
          (go_simp; (go_at_call 6; refine (sWorldPut_q T P _ n _ U _ m _ Q V p _ hR8.flat hQ8.flat (by omega) (by omega) (Nat.le_refl _) ⟨_, _, rfl⟩ hp _ HA.out).mono ?_; rintro e v9 ⟨a3, c3, a4, c4, rfl, hO9⟩; have hb9 := hO9.bel; have hT9 := hT8.trans (hb9.mono hT8.size); have hB9 := hB.on hT9; have y90 := hB9.wd.c0; have y91 := hB9.wd.c1; have y92 := hB9.wd.c2; have y93 := hB9.wd.c3; have yb9 := hB9.big; have yr9_0 := hB9.r0; have yr9_1 := hB9.r1; have yr9_2 := hB9.r2; have yr9_3 := hB9.r3; have yr9_4 := hB9.r4; have yr9_5 := hB9.r5; have yr9_6 := hB9.r6; have yr9_7 := hB9.r7; have yr9_8 := hB9.r8; have yr9_9 := hB9.r9; have yr9_10 := hB9.r10; have yr9_11 := hB9.r11; have hA9 := hA8.on hb9; have hN9 : ∀ b, ownX a3 n0 c3 a4 m0 c4 b → b ≠ v1.heap.size := fun b e => by have := hA8.lt; rcases e with e | e; (have := (hO9.ob.lt b e).1; omega); (have := (hO9.op.lt b e).1; omega)); (try go_wp2_with fail); refine tr hK (fun hHeld => ?_); clear hK K)
          refine tq 5 hHeld ?_
          refine tq 6 hHeld ?_
          refine tq 7 hHeld ?_
          have g0 := hA9.bl
          have g1 := hA9.lt
          have zz0 := hA9.c0
          have zz1 := hA9.c1
          have zz2 := hA9.c2
          have zz3 := hA9.c3
          have zzf := hA9.nf
          have j0 : ¬ v1.heap.size = w.heap.size := by have := hB.wd.big; omega
          have j0' : ¬ w.heap.size = v1.heap.size := fun e => j0 e.symm
          have j1 : ¬ v1.heap.size = w.heap.size + 1 := by have := hB.big; omega
          have j1' : ¬ w.heap.size + 1 = v1.heap.size := fun e => j1 e.symm
          refine tc 9 fun K hK => ?_
          (go_simp; refine tr hK (fun hHeld => ?_); clear hK K)
          refine tq 10 hHeld ?_
          refine wpAnyH_done (by kernel_rfl) ?_ _
          go_wp2_with fail
          go_meet
          have hs4 := setFr4 v9 (v1.heap.size) (.int .i64 T0) (.int .i64 P0) (.slice a3 n0 c3) (.slice a4 m0 c4)
          have hbg := hB.big
          have hwl := hB.wd.big
          have hTz := hT9.size
          exact ⟨_, _, _, a3, c3, a4, c4, rfl, rfl, hbg, (hB.on hT9).fr hs4 (fun b e => by subst e; omega), Vw.put ((hO9.ob).base (B := wc.heap.size) (hT8).size) ((hO9.op).base (B := wc.heap.size) (hT8).size) hA9 hN9⟩
      · have hT10 : Below wc.heap.size wc (wc.alloc (Obj.cells #[.int .i64 0, .int .i64 0, .slice none 0 0, .slice none 0 0] 36)).drew := ((Below.refl _ _).alloc (Nat.le_refl _) _).drew
        have hB10 := hB.on hT10
        have y100 := hB10.wd.c0
        have y101 := hB10.wd.c1
        have y102 := hB10.wd.c2
        have y103 := hB10.wd.c3
        have yb10 := hB10.big
        have yr10_0 := hB10.r0
        have yr10_1 := hB10.r1
        have yr10_2 := hB10.r2
        have yr10_3 := hB10.r3
        have yr10_4 := hB10.r4
        have yr10_5 := hB10.r5
        have yr10_6 := hB10.r6
        have yr10_7 := hB10.r7
        have yr10_8 := hB10.r8
        have yr10_9 := hB10.r9
        have yr10_10 := hB10.r10
        have yr10_11 := hB10.r11
        have hA10 : Bx0 (wc.alloc (Obj.cells #[.int .i64 0, .int .i64 0, .slice none 0 0, .slice none 0 0] 36)).drew wc.heap.size wc.heap.size := (Bx0.new wc _ (Nat.le_refl _)).drew
        (go_simp; generalize (wc.alloc (Obj.cells #[.int .i64 0, .int .i64 0, .slice none 0 0, .slice none 0 0] 36)).drew = y10 at hT10 hB10 y100 y101 y102 y103 yb10 yr10_0 yr10_1 yr10_2 yr10_3 yr10_4 yr10_5 yr10_6 yr10_7 yr10_8 yr10_9 yr10_10 yr10_11 hA10 ⊢; refine tr hK (fun hHeld => ?_); clear hK K)
        refine tc 1 fun K hK => ?_
        (go_simp; (go_at_call 7; refine (toWorld_any T P a n c U a' m c' Q _ (h.below (hB.wd.bel.trans (hT10.mono hB.wd.bel.size))) (h'.below (hB.wd.bel.trans (hT10.mono hB.wd.bel.size))) (by omega) (by omega)).mono ?_; rintro e v11 ⟨tb, td, ts, rfl, tl, tla, tlb, tlc, tr1, tq1, hb11⟩; have hT11 := hT10.trans (hb11.mono hT10.size); have hB11 := hB.on hT11; have y110 := hB11.wd.c0; have y111 := hB11.wd.c1; have y112 := hB11.wd.c2; have y113 := hB11.wd.c3; have yb11 := hB11.big; have yr11_0 := hB11.r0; have yr11_1 := hB11.r1; have yr11_2 := hB11.r2; have yr11_3 := hB11.r3; have yr11_4 := hB11.r4; have yr11_5 := hB11.r5; have yr11_6 := hB11.r6; have yr11_7 := hB11.r7; have yr11_8 := hB11.r8; have yr11_9 := hB11.r9; have yr11_10 := hB11.r10; have yr11_11 := hB11.r11; have hA11 := hA10.on hb11); (try go_wp2_with fail); refine tr hK (fun hHeld => ?_); clear hK K)
        refine tc 3 fun K hK => ?_
        (go_simp; (go_at_call 8; refine (toBody_any V _).mono ?_; rintro e v12 ⟨rfl, hb12⟩; have hT12 := hT11.trans (hb12.mono hT11.size); have hB12 := hB.on hT12; have y120 := hB12.wd.c0; have y121 := hB12.wd.c1; have y122 := hB12.wd.c2; have y123 := hB12.wd.c3; have yb12 := hB12.big; have yr12_0 := hB12.r0; have yr12_1 := hB12.r1; have yr12_2 := hB12.r2; have yr12_3 := hB12.r3; have yr12_4 := hB12.r4; have yr12_5 := hB12.r5; have yr12_6 := hB12.r6; have yr12_7 := hB12.r7; have yr12_8 := hB12.r8; have yr12_9 := hB12.r9; have yr12_10 := hB12.r10; have yr12_11 := hB12.r11; have hA12 := hA11.on hb12; have hR12 := tr1.below hb12; have hQ12 := tq1.below hb12); (try go_wp2_with fail); refine tr hK (fun hHeld => ?_); clear hK K)
        refine tc 4 fun K hK => ?_
        (go_simp; (go_at_call 6; refine (sWorldPut_q T P _ n _ U _ m _ Q V p _ hR12.flat hQ12.flat (by omega) (by omega) (Nat.le_refl _) ⟨_, _, rfl⟩ hp _ HA.out).mono ?_; rintro e v13 ⟨a3, c3, a4, c4, rfl, hO13⟩; have hb13 := hO13.bel; have hT13 := hT12.trans (hb13.mono hT12.size); have hB13 := hB.on hT13; have y130 := hB13.wd.c0; have y131 := hB13.wd.c1; have y132 := hB13.wd.c2; have y133 := hB13.wd.c3; have yb13 := hB13.big; have yr13_0 := hB13.r0; have yr13_1 := hB13.r1; have yr13_2 := hB13.r2; have yr13_3 := hB13.r3; have yr13_4 := hB13.r4; have yr13_5 := hB13.r5; have yr13_6 := hB13.r6; have yr13_7 := hB13.r7; have yr13_8 := hB13.r8; have yr13_9 := hB13.r9; have yr13_10 := hB13.r10; have yr13_11 := hB13.r11; have hA13 := hA12.on hb13; have hN13 : ∀ b, ownX a3 n0 c3 a4 m0 c4 b → b ≠ wc.heap.size := fun b e => by have := hA12.lt; rcases e with e | e; (have := (hO13.ob.lt b e).1; omega); (have := (hO13.op.lt b e).1; omega)); (try go_wp2_with fail); refine tr hK (fun hHeld => ?_); clear hK K)
        refine tq 5 hHeld ?_
        refine tq 6 hHeld ?_
        refine tq 7 hHeld ?_
        have g0 := hA13.bl
        have g1 := hA13.lt
        have zz0 := hA13.c0
        have zz1 := hA13.c1
        have zz2 := hA13.c2
        have zz3 := hA13.c3
        have zzf := hA13.nf
        have j0 : ¬ wc.heap.size = w.heap.size := by have := hB.wd.big; omega
        have j0' : ¬ w.heap.size = wc.heap.size := fun e => j0 e.symm
        have j1 : ¬ wc.heap.size = w.heap.size + 1 := by have := hB.big; omega
        have j1' : ¬ w.heap.size + 1 = wc.heap.size := fun e => j1 e.symm
        refine tc 9 fun K hK => ?_
        (go_simp; refine tr hK (fun hHeld => ?_); clear hK K)
        refine tq 10 hHeld ?_
        refine wpAnyH_done (by kernel_rfl) ?_ _
        go_wp2_with fail
        go_meet
        have hs4 := setFr4 v13 (wc.heap.size) (.int .i64 T0) (.int .i64 P0) (.slice a3 n0 c3) (.slice a4 m0 c4)
        have hbg := hB.big
        have hwl := hB.wd.big
        have hTz := hT13.size
        exact ⟨_, _, _, a3, c3, a4, c4, rfl, rfl, hbg, (hB.on hT13).fr hs4 (fun b e => by subst e; omega), Vw.put ((hO13.ob).base (B := wc.heap.size) (hT12).size) ((hO13.op).base (B := wc.heap.size) (hT12).size) hA13 hN13⟩
    case rest =>
    clear hB y0 y1 y2 y3 yb yr_0 yr_1 yr_2 yr_3 yr_4 yr_5 yr_6 yr_7 yr_8 yr_9 yr_10 yr_11
    obtain ⟨lw, hw, bw, ew, fw, gw, iw, rfl, rfl, g1, hB, hW⟩ := hcut
    have y0 := hB.wd.c0
    have y1 := hB.wd.c1
    have y2 := hB.wd.c2
    have y3 := hB.wd.c3
    have yb := hB.big
    have yr_0 := hB.r0
    have yr_1 := hB.r1
    have yr_2 := hB.r2
    have yr_3 := hB.r3
    have yr_4 := hB.r4
    have yr_5 := hB.r5
    have yr_6 := hB.r6
    have yr_7 := hB.r7
    have yr_8 := hB.r8
    have yr_9 := hB.r9
    have yr_10 := hB.r10
    have yr_11 := hB.r11
    have xw0 := hW.c0
    have xw1 := hW.c1
    have xw2 := hW.c2
    have xw3 := hW.c3
    have xbw := hW.blt
    have xlw := hW.bl
    go_upto_region 6 with fail
    go_cut [8] (fun s0 wc => ∃ lx hx bx ex fx gx ix, s0 = .pointer (some ⟨bx, 0, none⟩) ∧ hw ≤ lx ∧ LfPut w T P a n c a' m c' V wc ∧ Vw wc lw hw bw T0 P0 ew n0 fw U0 gw m0 iw Q0 ∧ Vw wc lx hx bx T P ex n fx U gx m ix Q)
    case first =>
      go_wp2_with (go_at_call 7; refine (toWorld_any T P a n c U a' m c' Q _ (h.below hB.wd.bel) (h'.below hB.wd.bel) (by omega) (by omega)).mono ?_; rintro e w2 ⟨b2, d2, s2, rfl, hl2, hl2a, hl2b, hl2c, hr2, hq2, hb2⟩)
      go_meet
      have hO := Vw.rows (T := T) (P := P) hr2 hq2 hl2 (by omega) (by omega) (by omega) hb2
      have hE : Below w2.heap.size w2 (w2.alloc (.cells #[.int .i64 T, .int .i64 P, .slice (some ⟨b2, 0, none⟩) n n, .slice (some ⟨d2, 0, none⟩) m m] 36)) := (Below.refl _ _).alloc (Nat.le_refl _) _
      exact ⟨_, _, _, _, _, _, _, rfl, hW.le, (hB.on hb2).on hE, (hW.on hb2).on hE, Vw.new hO⟩
    case rest =>
    clear hB y0 y1 y2 y3 yb yr_0 yr_1 yr_2 yr_3 yr_4 yr_5 yr_6 yr_7 yr_8 yr_9 yr_10 yr_11 hW xw0 xw1 xw2 xw3 xbw xlw
    obtain ⟨lx, hx, bx, ex, fx, gx, ix, rfl, g2, hB, hW, hX⟩ := hcut
    have y0 := hB.wd.c0
    have y1 := hB.wd.c1
    have y2 := hB.wd.c2
    have y3 := hB.wd.c3
    have yb := hB.big
    have yr_0 := hB.r0
    have yr_1 := hB.r1
    have yr_2 := hB.r2
    have yr_3 := hB.r3
    have yr_4 := hB.r4
    have yr_5 := hB.r5
    have yr_6 := hB.r6
    have yr_7 := hB.r7
    have yr_8 := hB.r8
    have yr_9 := hB.r9
    have yr_10 := hB.r10
    have yr_11 := hB.r11
    have xw0 := hW.c0
    have xw1 := hW.c1
    have xw2 := hW.c2
    have xw3 := hW.c3
    have xbw := hW.blt
    have xlw := hW.bl
    have xx0 := hX.c0
    have xx1 := hX.c1
    have xx2 := hX.c2
    have xx3 := hX.c3
    have xbx := hX.blt
    have xlx := hX.bl
    have g4 : lx < hx := Nat.lt_of_le_of_lt hX.bl hX.bh
    go_upto_region 7 with fail
    go_cut [9, 10] (fun s0 s1 wc => ∃ lg hg bg eg fg gg ig, s0 = .pointer (some ⟨bg, 0, none⟩) ∧ s1 = .int .i64 k0 ∧ hx ≤ lg ∧ LfPut w T P a n c a' m c' V wc ∧ Vw wc lw hw bw T0 P0 ew n0 fw U0 gw m0 iw Q0 ∧ Vw wc lx hx bx T P ex n fx U gx m ix Q ∧ Vw wc lg hg bg T0 P0 eg n0 fg U0 gg m0 ig Q0)
    case first =>
      refine wp_region_held_drew (S := fun w' => w'.cell? ⟨w.heap.size, 0, none⟩ = some (.int .i64 T) ∧ w'.cell? ⟨w.heap.size, 1, none⟩ = some (.int .i64 P) ∧ w'.cell? ⟨w.heap.size, 2, none⟩ = some (.slice a n c) ∧ w'.cell? ⟨w.heap.size, 3, none⟩ = some (.slice a' m c') ∧ w'.cell? ⟨w.heap.size + 1, 0, none⟩ = some (.int .i64 (V 0)) ∧ w'.cell? ⟨w.heap.size + 1, 1, none⟩ = some (.int .i64 (V 1)) ∧ w'.cell? ⟨w.heap.size + 1, 2, none⟩ = some (.int .i64 (V 2)) ∧ w'.cell? ⟨w.heap.size + 1, 3, none⟩ = some (.int .i64 (V 3)) ∧ w'.cell? ⟨w.heap.size + 1, 4, none⟩ = some (.int .i64 (V 4)) ∧ w'.cell? ⟨w.heap.size + 1, 5, none⟩ = some (.int .i64 (V 5)) ∧ w'.cell? ⟨w.heap.size + 1, 6, none⟩ = some (.int .i64 (V 6)) ∧ w'.cell? ⟨w.heap.size + 1, 7, none⟩ = some (.int .i64 (V 7)) ∧ w'.cell? ⟨w.heap.size + 1, 8, none⟩ = some (.int .i64 (V 8)) ∧ w'.cell? ⟨w.heap.size + 1, 9, none⟩ = some (.int .i64 (V 9)) ∧ w'.cell? ⟨w.heap.size + 1, 10, none⟩ = some (.int .i64 (V 10)) ∧ w'.cell? ⟨w.heap.size + 1, 11, none⟩ = some (.int .i64 (V 11)) ∧ w'.cell? ⟨bx, 0, none⟩ = some (.int .i64 T) ∧ w'.cell? ⟨bx, 1, none⟩ = some (.int .i64 P) ∧ w'.cell? ⟨bx, 2, none⟩ = some (.slice ex n fx) ∧ w'.cell? ⟨bx, 3, none⟩ = some (.slice gx m ix)) (by kernel_rfl) ?_ (fun hHeld => ?_)
      · (try dsimp only)
        (first | (go_simp; done) | (go_keep; done))
      refine tq 0 hHeld ?_
      refine tq 1 hHeld ?_
      refine wpAnyH_ready (rs := [2, 7]) (by kernel_rfl) (by simp) ?_
      refine AllReadyH.cons rfl (fun K hK => ?_) (AllReadyH.cons rfl (fun K hK => ?_) AllReadyH.nil)
      · (go_simp; (go_at_call 8; refine (toBody_any V _).mono ?_; rintro e v1 ⟨rfl, hb1⟩; have hT1 := (Below.refl wc.heap.size wc).trans (hb1.ofDr.mono (Nat.le_refl _)); have hB1 := hB.on hT1; have y10 := hB1.wd.c0; have y11 := hB1.wd.c1; have y12 := hB1.wd.c2; have y13 := hB1.wd.c3; have yb1 := hB1.big; have yr1_0 := hB1.r0; have yr1_1 := hB1.r1; have yr1_2 := hB1.r2; have yr1_3 := hB1.r3; have yr1_4 := hB1.r4; have yr1_5 := hB1.r5; have yr1_6 := hB1.r6; have yr1_7 := hB1.r7; have yr1_8 := hB1.r8; have yr1_9 := hB1.r9; have yr1_10 := hB1.r10; have yr1_11 := hB1.r11; have hX1 := hX.on hT1; have x10 := hX1.c0; have x11 := hX1.c1; have x12 := hX1.c2; have x13 := hX1.c3; have xb1 := hX1.blt; have xl1 := hX1.bl); (try go_wp2_with fail); refine tr hK (fun hHeld => ?_); clear hK K)
        refine wpAnyH_ready (rs := [3, 7]) (by kernel_rfl) (by simp) ?_
        refine AllReadyH.cons rfl (fun K hK => ?_) (AllReadyH.cons rfl (fun K hK => ?_) AllReadyH.nil)
        · (go_simp; (have hXc := hX.on hT1; go_at_call 9; refine (worldPut_q T P _ n _ U _ m _ Q V p _ hXc.fb hXc.fp (by omega) (by omega) hp _ HA.out).mono ?_; rintro e v2 ⟨a3, c3, a4, c4, rfl, hO2⟩; have hb2 := hO2.bel; have hT2 := hT1.trans (hb2.mono hT1.size); have hB2 := hB.on hT2; have y20 := hB2.wd.c0; have y21 := hB2.wd.c1; have y22 := hB2.wd.c2; have y23 := hB2.wd.c3; have yb2 := hB2.big; have yr2_0 := hB2.r0; have yr2_1 := hB2.r1; have yr2_2 := hB2.r2; have yr2_3 := hB2.r3; have yr2_4 := hB2.r4; have yr2_5 := hB2.r5; have yr2_6 := hB2.r6; have yr2_7 := hB2.r7; have yr2_8 := hB2.r8; have yr2_9 := hB2.r9; have yr2_10 := hB2.r10; have yr2_11 := hB2.r11; have hX2 := hX.on hT2; have x20 := hX2.c0; have x21 := hX2.c1; have x22 := hX2.c2; have x23 := hX2.c3; have xb2 := hX2.blt; have xl2 := hX2.bl); (try go_wp2_with fail); refine tr hK (fun hHeld => ?_); clear hK K)
          refine tq 4 hHeld ?_
          refine tq 5 hHeld ?_
          refine tq 6 hHeld ?_
          refine tc 7 fun K hK => ?_
          have hT3 : Below wc.heap.size wc (v2.alloc (Obj.cells #[.int .i64 0, .int .i64 0, .slice none 0 0, .slice none 0 0] 36)) := hT2.alloc hT2.size _
          have hB3 := hB.on hT3
          have y30 := hB3.wd.c0
          have y31 := hB3.wd.c1
          have y32 := hB3.wd.c2
          have y33 := hB3.wd.c3
          have yb3 := hB3.big
          have yr3_0 := hB3.r0
          have yr3_1 := hB3.r1
          have yr3_2 := hB3.r2
          have yr3_3 := hB3.r3
          have yr3_4 := hB3.r4
          have yr3_5 := hB3.r5
          have yr3_6 := hB3.r6
          have yr3_7 := hB3.r7
          have yr3_8 := hB3.r8
          have yr3_9 := hB3.r9
          have yr3_10 := hB3.r10
          have yr3_11 := hB3.r11
          have hX3 := hX.on hT3
          have x30 := hX3.c0
          have x31 := hX3.c1
          have x32 := hX3.c2
          have x33 := hX3.c3
          have xb3 := hX3.blt
          have xl3 := hX3.bl
          have hA3 : Bx0 (v2.alloc (Obj.cells #[.int .i64 0, .int .i64 0, .slice none 0 0, .slice none 0 0] 36)) wc.heap.size v2.heap.size := Bx0.new _ _ hT2.size
          have hN3 : ∀ b, ownX a3 n0 c3 a4 m0 c4 b → b ≠ v2.heap.size := fun b e => by rcases e with e | e; (have := (hO2.ob.lt b e).2; omega); (have := (hO2.op.lt b e).2; omega)
          have hO3 := hO2.on ((Below.refl _ _).alloc (Nat.le_refl _) (Obj.cells #[.int .i64 0, .int .i64 0, .slice none 0 0, .slice none 0 0] 36))
          (go_simp; generalize (v2.alloc (Obj.cells #[.int .i64 0, .int .i64 0, .slice none 0 0, .slice none 0 0] 36)) = y3 at hT3 hB3 y30 y31 y32 y33 yb3 yr3_0 yr3_1 yr3_2 yr3_3 yr3_4 yr3_5 yr3_6 yr3_7 yr3_8 yr3_9 yr3_10 yr3_11 hX3 x30 x31 x32 x33 xb3 xl3 hA3 hO3 ⊢; refine tr hK (fun hHeld => ?_); clear hK K)
          have g0 := hA3.bl
          have g1 := hA3.lt
          have zz0 := hA3.c0
          have zz1 := hA3.c1
          have zz2 := hA3.c2
          have zz3 := hA3.c3
          have zzf := hA3.nf
          have j0 : ¬ v2.heap.size = w.heap.size := by have := hB.wd.big; omega
          have j0' : ¬ w.heap.size = v2.heap.size := fun e => j0 e.symm
          have j1 : ¬ v2.heap.size = w.heap.size + 1 := by have := hB.big; omega
          have j1' : ¬ w.heap.size + 1 = v2.heap.size := fun e => j1 e.symm
          have j2 : ¬ v2.heap.size = bx := by have := hX.blt; omega
          have j2' : ¬ bx = v2.heap.size := fun e => j2 e.symm
          refine tc 8 fun K hK => ?_
          (go_simp; refine tr hK (fun hHeld => ?_); clear hK K)
          refine tq 9 hHeld ?_
          refine wpAnyH_done (by kernel_rfl) ?_ _
          go_wp2_with fail
          go_meet
          have hs4 := setFr4 y3 (v2.heap.size) (.int .i64 T0) (.int .i64 P0) (.slice a3 n0 c3) (.slice a4 m0 c4)
          have hbg := hB.big
          have hwl := hB.wd.big
          have hTz := hT3.size
          exact ⟨_, _, _, a3, c3, a4, c4, rfl, rfl, hX.le, (hB.on hT3).fr hs4 (fun b e => by subst e; omega), ((hW.on hT3).fr hs4 (fun b e => by subst e; have := hW.le; have := hW.bh; omega)), ((hX.on hT3).fr hs4 (fun b e => by subst e; have := hX.le; have := hX.bh; omega)), Vw.put ((hO3.ob).base (B := wc.heap.size) (hT1).size) ((hO3.op).base (B := wc.heap.size) (hT1).size) hA3 hN3⟩
        · have hT4 : Below wc.heap.size wc (v1.alloc (Obj.cells #[.int .i64 0, .int .i64 0, .slice none 0 0, .slice none 0 0] 36)) := hT1.alloc hT1.size _
          have hB4 := hB.on hT4
          have y40 := hB4.wd.c0
          have y41 := hB4.wd.c1
          have y42 := hB4.wd.c2
          have y43 := hB4.wd.c3
          have yb4 := hB4.big
          have yr4_0 := hB4.r0
          have yr4_1 := hB4.r1
          have yr4_2 := hB4.r2
          have yr4_3 := hB4.r3
          have yr4_4 := hB4.r4
          have yr4_5 := hB4.r5
          have yr4_6 := hB4.r6
          have yr4_7 := hB4.r7
          have yr4_8 := hB4.r8
          have yr4_9 := hB4.r9
          have yr4_10 := hB4.r10
          have yr4_11 := hB4.r11
          have hX4 := hX.on hT4
          have x40 := hX4.c0
          have x41 := hX4.c1
          have x42 := hX4.c2
          have x43 := hX4.c3
          have xb4 := hX4.blt
          have xl4 := hX4.bl
          have hA4 : Bx0 (v1.alloc (Obj.cells #[.int .i64 0, .int .i64 0, .slice none 0 0, .slice none 0 0] 36)) wc.heap.size v1.heap.size := Bx0.new _ _ hT1.size
          (go_simp; generalize (v1.alloc (Obj.cells #[.int .i64 0, .int .i64 0, .slice none 0 0, .slice none 0 0] 36)) = y4 at hT4 hB4 y40 y41 y42 y43 yb4 yr4_0 yr4_1 yr4_2 yr4_3 yr4_4 yr4_5 yr4_6 yr4_7 yr4_8 yr4_9 yr4_10 yr4_11 hX4 x40 x41 x42 x43 xb4 xl4 hA4 ⊢; refine tr hK (fun hHeld => ?_); clear hK K)
          refine tc 3 fun K hK => ?_
          (go_simp; (have hXc := hX.on hT4; go_at_call 9; refine (worldPut_q T P _ n _ U _ m _ Q V p _ hXc.fb hXc.fp (by omega) (by omega) hp _ HA.out).mono ?_; rintro e v5 ⟨a3, c3, a4, c4, rfl, hO5⟩; have hb5 := hO5.bel; have hT5 := hT4.trans (hb5.mono hT4.size); have hB5 := hB.on hT5; have y50 := hB5.wd.c0; have y51 := hB5.wd.c1; have y52 := hB5.wd.c2; have y53 := hB5.wd.c3; have yb5 := hB5.big; have yr5_0 := hB5.r0; have yr5_1 := hB5.r1; have yr5_2 := hB5.r2; have yr5_3 := hB5.r3; have yr5_4 := hB5.r4; have yr5_5 := hB5.r5; have yr5_6 := hB5.r6; have yr5_7 := hB5.r7; have yr5_8 := hB5.r8; have yr5_9 := hB5.r9; have yr5_10 := hB5.r10; have yr5_11 := hB5.r11; have hX5 := hX.on hT5; have x50 := hX5.c0; have x51 := hX5.c1; have x52 := hX5.c2; have x53 := hX5.c3; have xb5 := hX5.blt; have xl5 := hX5.bl; have hA5 := hA4.on hb5; have hN5 : ∀ b, ownX a3 n0 c3 a4 m0 c4 b → b ≠ v1.heap.size := fun b e => by have := hA4.lt; rcases e with e | e; (have := (hO5.ob.lt b e).1; omega); (have := (hO5.op.lt b e).1; omega)); (try go_wp2_with fail); refine tr hK (fun hHeld => ?_); clear hK K)
          refine tq 4 hHeld ?_
          refine tq 5 hHeld ?_
          refine tq 6 hHeld ?_
          have g0 := hA5.bl
          have g1 := hA5.lt
          have zz0 := hA5.c0
          have zz1 := hA5.c1
          have zz2 := hA5.c2
          have zz3 := hA5.c3
          have zzf := hA5.nf
          have j0 : ¬ v1.heap.size = w.heap.size := by have := hB.wd.big; omega
          have j0' : ¬ w.heap.size = v1.heap.size := fun e => j0 e.symm
          have j1 : ¬ v1.heap.size = w.heap.size + 1 := by have := hB.big; omega
          have j1' : ¬ w.heap.size + 1 = v1.heap.size := fun e => j1 e.symm
          have j2 : ¬ v1.heap.size = bx := by have := hX.blt; omega
          have j2' : ¬ bx = v1.heap.size := fun e => j2 e.symm
          refine tc 8 fun K hK => ?_
          (go_simp; refine tr hK (fun hHeld => ?_); clear hK K)
          refine tq 9 hHeld ?_
          refine wpAnyH_done (by kernel_rfl) ?_ _
          go_wp2_with fail
          go_meet
          have hs4 := setFr4 v5 (v1.heap.size) (.int .i64 T0) (.int .i64 P0) (.slice a3 n0 c3) (.slice a4 m0 c4)
          have hbg := hB.big
          have hwl := hB.wd.big
          have hTz := hT5.size
          exact ⟨_, _, _, a3, c3, a4, c4, rfl, rfl, hX.le, (hB.on hT5).fr hs4 (fun b e => by subst e; omega), ((hW.on hT5).fr hs4 (fun b e => by subst e; have := hW.le; have := hW.bh; omega)), ((hX.on hT5).fr hs4 (fun b e => by subst e; have := hX.le; have := hX.bh; omega)), Vw.put ((hO5.ob).base (B := wc.heap.size) (hT4).size) ((hO5.op).base (B := wc.heap.size) (hT4).size) hA5 hN5⟩
      · have hT6 : Below wc.heap.size wc (wc.alloc (Obj.cells #[.int .i64 0, .int .i64 0, .slice none 0 0, .slice none 0 0] 36)).drew := ((Below.refl _ _).alloc (Nat.le_refl _) _).drew
        have hB6 := hB.on hT6
        have y60 := hB6.wd.c0
        have y61 := hB6.wd.c1
        have y62 := hB6.wd.c2
        have y63 := hB6.wd.c3
        have yb6 := hB6.big
        have yr6_0 := hB6.r0
        have yr6_1 := hB6.r1
        have yr6_2 := hB6.r2
        have yr6_3 := hB6.r3
        have yr6_4 := hB6.r4
        have yr6_5 := hB6.r5
        have yr6_6 := hB6.r6
        have yr6_7 := hB6.r7
        have yr6_8 := hB6.r8
        have yr6_9 := hB6.r9
        have yr6_10 := hB6.r10
        have yr6_11 := hB6.r11
        have hX6 := hX.on hT6
        have x60 := hX6.c0
        have x61 := hX6.c1
        have x62 := hX6.c2
        have x63 := hX6.c3
        have xb6 := hX6.blt
        have xl6 := hX6.bl
        have hA6 : Bx0 (wc.alloc (Obj.cells #[.int .i64 0, .int .i64 0, .slice none 0 0, .slice none 0 0] 36)).drew wc.heap.size wc.heap.size := (Bx0.new wc _ (Nat.le_refl _)).drew
        (go_simp; generalize (wc.alloc (Obj.cells #[.int .i64 0, .int .i64 0, .slice none 0 0, .slice none 0 0] 36)).drew = y6 at hT6 hB6 y60 y61 y62 y63 yb6 yr6_0 yr6_1 yr6_2 yr6_3 yr6_4 yr6_5 yr6_6 yr6_7 yr6_8 yr6_9 yr6_10 yr6_11 hX6 x60 x61 x62 x63 xb6 xl6 hA6 ⊢; refine tr hK (fun hHeld => ?_); clear hK K)
        refine tc 2 fun K hK => ?_
        (go_simp; (go_at_call 8; refine (toBody_any V _).mono ?_; rintro e v7 ⟨rfl, hb7⟩; have hT7 := hT6.trans (hb7.mono hT6.size); have hB7 := hB.on hT7; have y70 := hB7.wd.c0; have y71 := hB7.wd.c1; have y72 := hB7.wd.c2; have y73 := hB7.wd.c3; have yb7 := hB7.big; have yr7_0 := hB7.r0; have yr7_1 := hB7.r1; have yr7_2 := hB7.r2; have yr7_3 := hB7.r3; have yr7_4 := hB7.r4; have yr7_5 := hB7.r5; have yr7_6 := hB7.r6; have yr7_7 := hB7.r7; have yr7_8 := hB7.r8; have yr7_9 := hB7.r9; have yr7_10 := hB7.r10; have yr7_11 := hB7.r11; have hX7 := hX.on hT7; have x70 := hX7.c0; have x71 := hX7.c1; have x72 := hX7.c2; have x73 := hX7.c3; have xb7 := hX7.blt; have xl7 := hX7.bl; have hA7 := hA6.on hb7); (try go_wp2_with fail); refine tr hK (fun hHeld => ?_); clear hK K)
        refine tc 3 fun K hK => ?_
        (go_simp; (have hXc := hX.on hT7; go_at_call 9; refine (worldPut_q T P _ n _ U _ m _ Q V p _ hXc.fb hXc.fp (by omega) (by omega) hp _ HA.out).mono ?_; rintro e v8 ⟨a3, c3, a4, c4, rfl, hO8⟩; have hb8 := hO8.bel; have hT8 := hT7.trans (hb8.mono hT7.size); have hB8 := hB.on hT8; have y80 := hB8.wd.c0; have y81 := hB8.wd.c1; have y82 := hB8.wd.c2; have y83 := hB8.wd.c3; have yb8 := hB8.big; have yr8_0 := hB8.r0; have yr8_1 := hB8.r1; have yr8_2 := hB8.r2; have yr8_3 := hB8.r3; have yr8_4 := hB8.r4; have yr8_5 := hB8.r5; have yr8_6 := hB8.r6; have yr8_7 := hB8.r7; have yr8_8 := hB8.r8; have yr8_9 := hB8.r9; have yr8_10 := hB8.r10; have yr8_11 := hB8.r11; have hX8 := hX.on hT8; have x80 := hX8.c0; have x81 := hX8.c1; have x82 := hX8.c2; have x83 := hX8.c3; have xb8 := hX8.blt; have xl8 := hX8.bl; have hA8 := hA7.on hb8; have hN8 : ∀ b, ownX a3 n0 c3 a4 m0 c4 b → b ≠ wc.heap.size := fun b e => by have := hA7.lt; rcases e with e | e; (have := (hO8.ob.lt b e).1; omega); (have := (hO8.op.lt b e).1; omega)); (try go_wp2_with fail); refine tr hK (fun hHeld => ?_); clear hK K)
        refine tq 4 hHeld ?_
        refine tq 5 hHeld ?_
        refine tq 6 hHeld ?_
        have g0 := hA8.bl
        have g1 := hA8.lt
        have zz0 := hA8.c0
        have zz1 := hA8.c1
        have zz2 := hA8.c2
        have zz3 := hA8.c3
        have zzf := hA8.nf
        have j0 : ¬ wc.heap.size = w.heap.size := by have := hB.wd.big; omega
        have j0' : ¬ w.heap.size = wc.heap.size := fun e => j0 e.symm
        have j1 : ¬ wc.heap.size = w.heap.size + 1 := by have := hB.big; omega
        have j1' : ¬ w.heap.size + 1 = wc.heap.size := fun e => j1 e.symm
        have j2 : ¬ wc.heap.size = bx := by have := hX.blt; omega
        have j2' : ¬ bx = wc.heap.size := fun e => j2 e.symm
        refine tc 8 fun K hK => ?_
        (go_simp; refine tr hK (fun hHeld => ?_); clear hK K)
        refine tq 9 hHeld ?_
        refine wpAnyH_done (by kernel_rfl) ?_ _
        go_wp2_with fail
        go_meet
        have hs4 := setFr4 v8 (wc.heap.size) (.int .i64 T0) (.int .i64 P0) (.slice a3 n0 c3) (.slice a4 m0 c4)
        have hbg := hB.big
        have hwl := hB.wd.big
        have hTz := hT8.size
        exact ⟨_, _, _, a3, c3, a4, c4, rfl, rfl, hX.le, (hB.on hT8).fr hs4 (fun b e => by subst e; omega), ((hW.on hT8).fr hs4 (fun b e => by subst e; have := hW.le; have := hW.bh; omega)), ((hX.on hT8).fr hs4 (fun b e => by subst e; have := hX.le; have := hX.bh; omega)), Vw.put ((hO8.ob).base (B := wc.heap.size) (hT7).size) ((hO8.op).base (B := wc.heap.size) (hT7).size) hA8 hN8⟩
    case rest =>
    clear hB y0 y1 y2 y3 yb yr_0 yr_1 yr_2 yr_3 yr_4 yr_5 yr_6 yr_7 yr_8 yr_9 yr_10 yr_11 hW xw0 xw1 xw2 xw3 xbw xlw hX xx0 xx1 xx2 xx3 xbx xlx
    obtain ⟨lg, hg, bg, eg, fg, gg, ig, rfl, rfl, g3, hB, hW, hX, hG⟩ := hcut
    have y0 := hB.wd.c0
    have y1 := hB.wd.c1
    have y2 := hB.wd.c2
    have y3 := hB.wd.c3
    have yb := hB.big
    have yr_0 := hB.r0
    have yr_1 := hB.r1
    have yr_2 := hB.r2
    have yr_3 := hB.r3
    have yr_4 := hB.r4
    have yr_5 := hB.r5
    have yr_6 := hB.r6
    have yr_7 := hB.r7
    have yr_8 := hB.r8
    have yr_9 := hB.r9
    have yr_10 := hB.r10
    have yr_11 := hB.r11
    have xw0 := hW.c0
    have xw1 := hW.c1
    have xw2 := hW.c2
    have xw3 := hW.c3
    have xbw := hW.blt
    have xlw := hW.bl
    have xx0 := hX.c0
    have xx1 := hX.c1
    have xx2 := hX.c2
    have xx3 := hX.c3
    have xbx := hX.blt
    have xlx := hX.bl
    have xg0 := hG.c0
    have xg1 := hG.c1
    have xg2 := hG.c2
    have xg3 := hG.c3
    have xbg := hG.blt
    have xlg := hG.bl
    go_upto_region 8 with fail
    go_cut [46] (fun s0 wc => s0 = .bool false ∧ LfPut w T P a n c a' m c' V wc ∧ Vw wc lw hw bw T0 P0 ew n0 fw U0 gw m0 iw Q0 ∧ Vw wc lx hx bx T P ex n fx U gx m ix Q ∧ Vw wc lg hg bg T0 P0 eg n0 fg U0 gg m0 ig Q0)
    case first =>
      go_wp2_with (go_at_call 10; refine (eqWorld_same T0 P0 _ _ n0 _ _ U0 _ _ m0 _ _ Q0 _ hG.fb hW.fb hG.fp hW.fp hn0 hm0).mono ?_; rintro e w8 ⟨rfl, hb8⟩)
      go_meet
      exact ⟨by simp, hB.on hb8, hW.on hb8, hX.on hb8, hG.on hb8⟩
    case rest =>
    clear hB y0 y1 y2 y3 yb yr_0 yr_1 yr_2 yr_3 yr_4 yr_5 yr_6 yr_7 yr_8 yr_9 yr_10 yr_11 hW xw0 xw1 xw2 xw3 xbw xlw hX xx0 xx1 xx2 xx3 xbx xlx hG xg0 xg1 xg2 xg3 xbg xlg
    obtain ⟨rfl, hB, hW, hX, hG⟩ := hcut
    have y0 := hB.wd.c0
    have y1 := hB.wd.c1
    have y2 := hB.wd.c2
    have y3 := hB.wd.c3
    have yb := hB.big
    have yr_0 := hB.r0
    have yr_1 := hB.r1
    have yr_2 := hB.r2
    have yr_3 := hB.r3
    have yr_4 := hB.r4
    have yr_5 := hB.r5
    have yr_6 := hB.r6
    have yr_7 := hB.r7
    have yr_8 := hB.r8
    have yr_9 := hB.r9
    have yr_10 := hB.r10
    have yr_11 := hB.r11
    have xw0 := hW.c0
    have xw1 := hW.c1
    have xw2 := hW.c2
    have xw3 := hW.c3
    have xbw := hW.blt
    have xlw := hW.bl
    have xx0 := hX.c0
    have xx1 := hX.c1
    have xx2 := hX.c2
    have xx3 := hX.c3
    have xbx := hX.blt
    have xlx := hX.bl
    have xg0 := hG.c0
    have xg1 := hG.c1
    have xg2 := hG.c2
    have xg3 := hG.c3
    have xbg := hG.blt
    have xlg := hG.bl
    go_upto_region 10 with fail
    go_cut [51] (fun s0 wc => s0 = .bool false ∧ LfPut w T P a n c a' m c' V wc ∧ Vw wc lw hw bw T0 P0 ew n0 fw U0 gw m0 iw Q0 ∧ Vw wc lx hx bx T P ex n fx U gx m ix Q ∧ Vw wc lg hg bg T0 P0 eg n0 fg U0 gg m0 ig Q0)
    case first =>
      refine wp_region_held_drew (S := fun w' => w'.cell? ⟨w.heap.size, 0, none⟩ = some (.int .i64 T) ∧ w'.cell? ⟨w.heap.size, 1, none⟩ = some (.int .i64 P) ∧ w'.cell? ⟨w.heap.size, 2, none⟩ = some (.slice a n c) ∧ w'.cell? ⟨w.heap.size, 3, none⟩ = some (.slice a' m c') ∧ w'.cell? ⟨bx, 0, none⟩ = some (.int .i64 T) ∧ w'.cell? ⟨bx, 1, none⟩ = some (.int .i64 P) ∧ w'.cell? ⟨bx, 2, none⟩ = some (.slice ex n fx) ∧ w'.cell? ⟨bx, 3, none⟩ = some (.slice gx m ix)) (by kernel_rfl) ?_ (fun hHeld => ?_)
      · (try dsimp only)
        (first | (go_simp; done) | (go_keep; done))
      refine tq 0 hHeld ?_
      refine tq 1 hHeld ?_
      (refine tc 2 fun K hK => ?_; go_simp; (go_at_call 7; refine (toWorld_any T P a n c U a' m c' Q _ (h.below hB.wd.bel.drew) (h'.below hB.wd.bel.drew) (by omega) (by omega)).mono ?_; rintro e w6 ⟨b6, d6, s6, rfl, hl6, hl6a, hl6b, hl6c, hr6, hq6, hb6⟩; have hB6 := hB.on hb6.ofDr; have hX6 := hX.on hb6.ofDr; have y60 := hB6.wd.c0; have y61 := hB6.wd.c1; have y62 := hB6.wd.c2; have y63 := hB6.wd.c3; have yb6 := hB6.big; have yr6_0 := hB6.r0; have yr6_1 := hB6.r1; have yr6_2 := hB6.r2; have yr6_3 := hB6.r3; have yr6_4 := hB6.r4; have yr6_5 := hB6.r5; have yr6_6 := hB6.r6; have yr6_7 := hB6.r7; have yr6_8 := hB6.r8; have yr6_9 := hB6.r9; have yr6_10 := hB6.r10; have yr6_11 := hB6.r11; have x6x0 := hX6.c0; have x6x1 := hX6.c1; have x6x2 := hX6.c2; have x6x3 := hX6.c3; have xb6x := hX6.blt; have xl6x := hX6.bl); (try go_wp2_with fail); refine tr hK (fun hHeld => ?_); clear hK K)
      (refine tc 3 fun K hK => ?_; go_simp; (go_at_call 10; refine (eqWorld_same T P _ _ n _ _ U _ _ m _ _ Q _ hX6.fb hr6.flat hX6.fp hq6.flat (by omega) (by omega)).mono ?_; rintro e w7 ⟨rfl, hb7⟩; have hB7 := hB6.on hb7; have hX7 := hX6.on hb7; have y70 := hB7.wd.c0; have y71 := hB7.wd.c1; have y72 := hB7.wd.c2; have y73 := hB7.wd.c3; have yb7 := hB7.big; have yr7_0 := hB7.r0; have yr7_1 := hB7.r1; have yr7_2 := hB7.r2; have yr7_3 := hB7.r3; have yr7_4 := hB7.r4; have yr7_5 := hB7.r5; have yr7_6 := hB7.r6; have yr7_7 := hB7.r7; have yr7_8 := hB7.r8; have yr7_9 := hB7.r9; have yr7_10 := hB7.r10; have yr7_11 := hB7.r11; have x7x0 := hX7.c0; have x7x1 := hX7.c1; have x7x2 := hX7.c2; have x7x3 := hX7.c3; have xb7x := hX7.blt; have xl7x := hX7.bl); (try go_wp2_with fail); refine tr hK (fun hHeld => ?_); clear hK K)
      refine tq 4 hHeld ?_
      refine wpAnyH_done (by kernel_rfl) ?_ _
      go_wp2_with fail
      go_meet
      have hb67 := (hb6.trans (hb7.mono hb6.size)).ofDr
      exact ⟨rfl, hB7, hW.on hb67, hX7, hG.on hb67⟩
    case rest =>
    clear hB y0 y1 y2 y3 yb yr_0 yr_1 yr_2 yr_3 yr_4 yr_5 yr_6 yr_7 yr_8 yr_9 yr_10 yr_11 hW xw0 xw1 xw2 xw3 xbw xlw hX xx0 xx1 xx2 xx3 xbx xlx hG xg0 xg1 xg2 xg3 xbg xlg
    obtain ⟨rfl, hB, hW, hX, hG⟩ := hcut
    have y0 := hB.wd.c0
    have y1 := hB.wd.c1
    have y2 := hB.wd.c2
    have y3 := hB.wd.c3
    have yb := hB.big
    have yr_0 := hB.r0
    have yr_1 := hB.r1
    have yr_2 := hB.r2
    have yr_3 := hB.r3
    have yr_4 := hB.r4
    have yr_5 := hB.r5
    have yr_6 := hB.r6
    have yr_7 := hB.r7
    have yr_8 := hB.r8
    have yr_9 := hB.r9
    have yr_10 := hB.r10
    have yr_11 := hB.r11
    have xw0 := hW.c0
    have xw1 := hW.c1
    have xw2 := hW.c2
    have xw3 := hW.c3
    have xbw := hW.blt
    have xlw := hW.bl
    have xx0 := hX.c0
    have xx1 := hX.c1
    have xx2 := hX.c2
    have xx3 := hX.c3
    have xbx := hX.blt
    have xlx := hX.bl
    have xg0 := hG.c0
    have xg1 := hG.c1
    have xg2 := hG.c2
    have xg3 := hG.c3
    have xbg := hG.blt
    have xlg := hG.bl
    go_upto_region 13 with fail
    go_cut [11] (fun s0 wc => s0 = .int .i64 (1 + (n : Int) * 12 + (m : Int) * 2) ∧ LfPut w T P a n c a' m c' V wc ∧ Vw wc lw hw bw T0 P0 ew n0 fw U0 gw m0 iw Q0 ∧ Vw wc lg hg bg T0 P0 eg n0 fg U0 gg m0 ig Q0)
    case first =>
      go_wp2_with (go_at_call 11; refine (markWorld_own T P lx _ n _ U _ m _ Q _ hX.ob hX.op (by omega) (by omega)).mono ?_; rintro e w2 ⟨rfl, hf2, _, _⟩)
      go_meet
      have q1 := hW.bl
      have q2 := hW.bh
      exact ⟨rfl, hB.fr hf2 (fun b e => by have := hX.xlt b e; omega), hW.fr hf2 (fun b e => by have := hX.xlt b e; omega), hG.fr hf2 (fun b e => by have := hX.xlt b e; omega)⟩
    case rest =>
    clear hB y0 y1 y2 y3 yb yr_0 yr_1 yr_2 yr_3 yr_4 yr_5 yr_6 yr_7 yr_8 yr_9 yr_10 yr_11 hW xw0 xw1 xw2 xw3 xbw xlw hX xx0 xx1 xx2 xx3 xbx xlx hG xg0 xg1 xg2 xg3 xbg xlg
    obtain ⟨rfl, hB, hW, hG⟩ := hcut
    have y0 := hB.wd.c0
    have y1 := hB.wd.c1
    have y2 := hB.wd.c2
    have y3 := hB.wd.c3
    have yb := hB.big
    have yr_0 := hB.r0
    have yr_1 := hB.r1
    have yr_2 := hB.r2
    have yr_3 := hB.r3
    have yr_4 := hB.r4
    have yr_5 := hB.r5
    have yr_6 := hB.r6
    have yr_7 := hB.r7
    have yr_8 := hB.r8
    have yr_9 := hB.r9
    have yr_10 := hB.r10
    have yr_11 := hB.r11
    have xw0 := hW.c0
    have xw1 := hW.c1
    have xw2 := hW.c2
    have xw3 := hW.c3
    have xbw := hW.blt
    have xlw := hW.bl
    have xg0 := hG.c0
    have xg1 := hG.c1
    have xg2 := hG.c2
    have xg3 := hG.c3
    have xbg := hG.blt
    have xlg := hG.bl
    have hk0 : ¬ (1 + (n : Int) * 12 + (m : Int) * 2 < 0) := by omega
    go_upto_region 14 with fail
    go_cut [67] (fun s0 wc => s0 = .bool false ∧ LfPut w T P a n c a' m c' V wc ∧ Vw wc lw hw bw T0 P0 ew n0 fw U0 gw m0 iw Q0 ∧ Vw wc lg hg bg T0 P0 eg n0 fg U0 gg m0 ig Q0)
    case first =>
      go_wp2_with (go_at_call 10; refine (eqWorld_same T0 P0 _ _ n0 _ _ U0 _ _ m0 _ _ Q0 _ hG.fb hW.fb hG.fp hW.fp hn0 hm0).mono ?_; rintro e w8 ⟨rfl, hb8⟩)
      go_meet
      exact ⟨by simp, hB.on hb8, hW.on hb8, hG.on hb8⟩
    case rest =>
    clear hB y0 y1 y2 y3 yb yr_0 yr_1 yr_2 yr_3 yr_4 yr_5 yr_6 yr_7 yr_8 yr_9 yr_10 yr_11 hW xw0 xw1 xw2 xw3 xbw xlw hG xg0 xg1 xg2 xg3 xbg xlg
    obtain ⟨rfl, hB, hW, hG⟩ := hcut
    have y0 := hB.wd.c0
    have y1 := hB.wd.c1
    have y2 := hB.wd.c2
    have y3 := hB.wd.c3
    have yb := hB.big
    have yr_0 := hB.r0
    have yr_1 := hB.r1
    have yr_2 := hB.r2
    have yr_3 := hB.r3
    have yr_4 := hB.r4
    have yr_5 := hB.r5
    have yr_6 := hB.r6
    have yr_7 := hB.r7
    have yr_8 := hB.r8
    have yr_9 := hB.r9
    have yr_10 := hB.r10
    have yr_11 := hB.r11
    have xw0 := hW.c0
    have xw1 := hW.c1
    have xw2 := hW.c2
    have xw3 := hW.c3
    have xbw := hW.blt
    have xlw := hW.bl
    have xg0 := hG.c0
    have xg1 := hG.c1
    have xg2 := hG.c2
    have xg3 := hG.c3
    have xbg := hG.blt
    have xlg := hG.bl
    go_upto_region 17 with fail
    go_cut [12] (fun s0 wc => s0 = .int .i64 (1 + (n0 : Int) * 12 + (m0 : Int) * 2) ∧ LfPut w T P a n c a' m c' V wc ∧ Vw wc lw hw bw T0 P0 ew n0 fw U0 gw m0 iw Q0 ∧ Vw wc lg hg bg T0 P0 eg n0 fg (fun q => 1 + (q : Int)) gg m0 ig (fun q => 1 + (n0 : Int) * 12 + (q : Int)))
    case first =>
      go_wp2_with (go_at_call 11; refine (markWorld_own T0 P0 lg _ n0 _ U0 _ m0 _ Q0 _ hG.ob hG.op hn0 hm0).mono ?_; rintro e w2 ⟨rfl, hf2, o2, p2⟩)
      go_meet
      have q1 := hW.bl
      have q2 := hW.bh
      exact ⟨rfl, hB.fr hf2 (fun b e => by have := hG.xlt b e; omega), hW.fr hf2 (fun b e => by have := hG.xlt b e; omega), hG.mark hf2 o2 p2⟩
    case rest =>
    clear hB y0 y1 y2 y3 yb yr_0 yr_1 yr_2 yr_3 yr_4 yr_5 yr_6 yr_7 yr_8 yr_9 yr_10 yr_11 hW xw0 xw1 xw2 xw3 xbw xlw hG xg0 xg1 xg2 xg3 xbg xlg
    obtain ⟨rfl, hB, hW, hG⟩ := hcut
    have y0 := hB.wd.c0
    have y1 := hB.wd.c1
    have y2 := hB.wd.c2
    have y3 := hB.wd.c3
    have yb := hB.big
    have yr_0 := hB.r0
    have yr_1 := hB.r1
    have yr_2 := hB.r2
    have yr_3 := hB.r3
    have yr_4 := hB.r4
    have yr_5 := hB.r5
    have yr_6 := hB.r6
    have yr_7 := hB.r7
    have yr_8 := hB.r8
    have yr_9 := hB.r9
    have yr_10 := hB.r10
    have yr_11 := hB.r11
    have xw0 := hW.c0
    have xw1 := hW.c1
    have xw2 := hW.c2
    have xw3 := hW.c3
    have xbw := hW.blt
    have xlw := hW.bl
    have xg0 := hG.c0
    have xg1 := hG.c1
    have xg2 := hG.c2
    have xg3 := hG.c3
    have xbg := hG.blt
    have xlg := hG.bl
    have hk1 : ¬ ((1 + (n0 : Int) * 12 + (m0 : Int) * 2) < 0) := by omega
    go_upto_region 19 with fail
    go_cut [13] (fun s0 wc => s0 = .int .i64 (1 + (n0 : Int) * 12 + (m0 : Int) * 2) ∧ LfPut w T P a n c a' m c' V wc ∧ Vw wc lw hw bw T0 P0 ew n0 fw U0 gw m0 iw Q0 ∧ Vw wc lg hg bg T0 P0 eg n0 fg (fun q => 1 + (q : Int)) gg m0 ig (fun q => 1 + (n0 : Int) * 12 + (q : Int)))
    case first =>
      go_wp2_with (go_at_call 12; refine (heldWorld_own T0 P0 _ n0 _ _ m0 _ _ hG.fb hG.fp hn0 hm0).mono ?_; rintro e w2 ⟨rfl, hb2⟩)
      go_meet
      exact ⟨rfl, hB.on hb2, hW.on hb2, hG.on hb2⟩
    case rest =>
    clear hB y0 y1 y2 y3 yb yr_0 yr_1 yr_2 yr_3 yr_4 yr_5 yr_6 yr_7 yr_8 yr_9 yr_10 yr_11 hW xw0 xw1 xw2 xw3 xbw xlw hG xg0 xg1 xg2 xg3 xbg xlg
    obtain ⟨rfl, hB, hW, hG⟩ := hcut
    have y0 := hB.wd.c0
    have y1 := hB.wd.c1
    have y2 := hB.wd.c2
    have y3 := hB.wd.c3
    have yb := hB.big
    have yr_0 := hB.r0
    have yr_1 := hB.r1
    have yr_2 := hB.r2
    have yr_3 := hB.r3
    have yr_4 := hB.r4
    have yr_5 := hB.r5
    have yr_6 := hB.r6
    have yr_7 := hB.r7
    have yr_8 := hB.r8
    have yr_9 := hB.r9
    have yr_10 := hB.r10
    have yr_11 := hB.r11
    have xw0 := hW.c0
    have xw1 := hW.c1
    have xw2 := hW.c2
    have xw3 := hW.c3
    have xbw := hW.blt
    have xlw := hW.bl
    have xg0 := hG.c0
    have xg1 := hG.c1
    have xg2 := hG.c2
    have xg3 := hG.c3
    have xbg := hG.blt
    have xlg := hG.bl
    go_upto_region 24 with fail
    go_cut [14, 15] (fun s0 s1 wc => ∃ lh hh bh eh fh gh ih, s0 = .pointer (some ⟨bh, 0, none⟩) ∧ s1 = .int .i64 k0 ∧ LfPut w T P a n c a' m c' V wc ∧ Vw wc lw hw bw T0 P0 ew n0 fw U0 gw m0 iw Q0 ∧ Vw wc lg hg bg T0 P0 eg n0 fg (fun q => 1 + (q : Int)) gg m0 ig (fun q => 1 + (n0 : Int) * 12 + (q : Int)) ∧ Vw wc lh hh bh T0 P0 eh n0 fh U0 gh m0 ih Q0)
    case first =>
      refine wp_region_held_drew (S := fun w' => w'.cell? ⟨w.heap.size, 0, none⟩ = some (.int .i64 T) ∧ w'.cell? ⟨w.heap.size, 1, none⟩ = some (.int .i64 P) ∧ w'.cell? ⟨w.heap.size, 2, none⟩ = some (.slice a n c) ∧ w'.cell? ⟨w.heap.size, 3, none⟩ = some (.slice a' m c') ∧ w'.cell? ⟨w.heap.size + 1, 0, none⟩ = some (.int .i64 (V 0)) ∧ w'.cell? ⟨w.heap.size + 1, 1, none⟩ = some (.int .i64 (V 1)) ∧ w'.cell? ⟨w.heap.size + 1, 2, none⟩ = some (.int .i64 (V 2)) ∧ w'.cell? ⟨w.heap.size + 1, 3, none⟩ = some (.int .i64 (V 3)) ∧ w'.cell? ⟨w.heap.size + 1, 4, none⟩ = some (.int .i64 (V 4)) ∧ w'.cell? ⟨w.heap.size + 1, 5, none⟩ = some (.int .i64 (V 5)) ∧ w'.cell? ⟨w.heap.size + 1, 6, none⟩ = some (.int .i64 (V 6)) ∧ w'.cell? ⟨w.heap.size + 1, 7, none⟩ = some (.int .i64 (V 7)) ∧ w'.cell? ⟨w.heap.size + 1, 8, none⟩ = some (.int .i64 (V 8)) ∧ w'.cell? ⟨w.heap.size + 1, 9, none⟩ = some (.int .i64 (V 9)) ∧ w'.cell? ⟨w.heap.size + 1, 10, none⟩ = some (.int .i64 (V 10)) ∧ w'.cell? ⟨w.heap.size + 1, 11, none⟩ = some (.int .i64 (V 11))) (by kernel_rfl) ?_ (fun hHeld => ?_)
      · (try dsimp only)
        (first | (go_simp; done) | (go_keep; done))
      refine tq 0 hHeld ?_
      refine tq 2 hHeld ?_
      refine wpAnyH_ready (rs := [1, 8]) (by kernel_rfl) (by simp) ?_
      refine AllReadyH.cons rfl (fun K hK => ?_) (AllReadyH.cons rfl (fun K hK => ?_) AllReadyH.nil)
      · (go_simp; (go_at_call 7; refine (toWorld_any T P a n c U a' m c' Q _ (h.below (hB.wd.bel.trans ((Below.drew (Below.refl wc.heap.size wc)).mono hB.wd.bel.size))) (h'.below (hB.wd.bel.trans ((Below.drew (Below.refl wc.heap.size wc)).mono hB.wd.bel.size))) (by omega) (by omega)).mono ?_; rintro e v1 ⟨tb, td, ts, rfl, tl, tla, tlb, tlc, tr1, tq1, hb1⟩; have hT1 := (Below.refl wc.heap.size wc).trans (hb1.ofDr.mono (Nat.le_refl _)); have hB1 := hB.on hT1; have y10 := hB1.wd.c0; have y11 := hB1.wd.c1; have y12 := hB1.wd.c2; have y13 := hB1.wd.c3; have yb1 := hB1.big; have yr1_0 := hB1.r0; have yr1_1 := hB1.r1; have yr1_2 := hB1.r2; have yr1_3 := hB1.r3; have yr1_4 := hB1.r4; have yr1_5 := hB1.r5; have yr1_6 := hB1.r6; have yr1_7 := hB1.r7; have yr1_8 := hB1.r8; have yr1_9 := hB1.r9; have yr1_10 := hB1.r10; have yr1_11 := hB1.r11); (try go_wp2_with fail); refine tr hK (fun hHeld => ?_); clear hK K)
        refine wpAnyH_ready (rs := [3, 8]) (by kernel_rfl) (by simp) ?_
        refine AllReadyH.cons rfl (fun K hK => ?_) (AllReadyH.cons rfl (fun K hK => ?_) AllReadyH.nil)
        · (go_simp; (go_at_call 8; refine (toBody_any V _).mono ?_; rintro e v2 ⟨rfl, hb2⟩; have hT2 := hT1.trans (hb2.mono hT1.size); have hB2 := hB.on hT2; have y20 := hB2.wd.c0; have y21 := hB2.wd.c1; have y22 := hB2.wd.c2; have y23 := hB2.wd.c3; have yb2 := hB2.big; have yr2_0 := hB2.r0; have yr2_1 := hB2.r1; have yr2_2 := hB2.r2; have yr2_3 := hB2.r3; have yr2_4 := hB2.r4; have yr2_5 := hB2.r5; have yr2_6 := hB2.r6; have yr2_7 := hB2.r7; have yr2_8 := hB2.r8; have yr2_9 := hB2.r9; have yr2_10 := hB2.r10; have yr2_11 := hB2.r11; have hR2 := tr1.below hb2; have hQ2 := tq1.below hb2); (try go_wp2_with fail); refine tr hK (fun hHeld => ?_); clear hK K)
          refine wpAnyH_ready (rs := [4, 8]) (by kernel_rfl) (by simp) ?_
          refine AllReadyH.cons rfl (fun K hK => ?_) (AllReadyH.cons rfl (fun K hK => ?_) AllReadyH.nil)
          · (go_simp; (go_at_call 9; refine (worldPut_q T P _ n _ U _ m _ Q V p _ hR2.flat hQ2.flat (by omega) (by omega) hp _ HA.out).mono ?_; rintro e v3 ⟨a3, c3, a4, c4, rfl, hO3⟩; have hb3 := hO3.bel; have hT3 := hT2.trans (hb3.mono hT2.size); have hB3 := hB.on hT3; have y30 := hB3.wd.c0; have y31 := hB3.wd.c1; have y32 := hB3.wd.c2; have y33 := hB3.wd.c3; have yb3 := hB3.big; have yr3_0 := hB3.r0; have yr3_1 := hB3.r1; have yr3_2 := hB3.r2; have yr3_3 := hB3.r3; have yr3_4 := hB3.r4; have yr3_5 := hB3.r5; have yr3_6 := hB3.r6; have yr3_7 := hB3.r7; have yr3_8 := hB3.r8; have yr3_9 := hB3.r9; have yr3_10 := hB3.r10; have yr3_11 := hB3.r11); (try go_wp2_with fail); refine tr hK (fun hHeld => ?_); clear hK K)
            refine tq 5 hHeld ?_
            refine tq 6 hHeld ?_
            refine tq 7 hHeld ?_
            refine tc 8 fun K hK => ?_
            have hT4 : Below wc.heap.size wc (v3.alloc (Obj.cells #[.int .i64 0, .int .i64 0, .slice none 0 0, .slice none 0 0] 36)) := hT3.alloc hT3.size _
            have hB4 := hB.on hT4
            have y40 := hB4.wd.c0
            have y41 := hB4.wd.c1
            have y42 := hB4.wd.c2
            have y43 := hB4.wd.c3
            have yb4 := hB4.big
            have yr4_0 := hB4.r0
            have yr4_1 := hB4.r1
            have yr4_2 := hB4.r2
            have yr4_3 := hB4.r3
            have yr4_4 := hB4.r4
            have yr4_5 := hB4.r5
            have yr4_6 := hB4.r6
            have yr4_7 := hB4.r7
            have yr4_8 := hB4.r8
            have yr4_9 := hB4.r9
            have yr4_10 := hB4.r10
            have yr4_11 := hB4.r11
            have hA4 : Bx0 (v3.alloc (Obj.cells #[.int .i64 0, .int .i64 0, .slice none 0 0, .slice none 0 0] 36)) wc.heap.size v3.heap.size := Bx0.new _ _ hT3.size
            have hN4 : ∀ b, ownX a3 n0 c3 a4 m0 c4 b → b ≠ v3.heap.size := fun b e => by rcases e with e | e; (have := (hO3.ob.lt b e).2; omega); (have := (hO3.op.lt b e).2; omega)
            have hO4 := hO3.on ((Below.refl _ _).alloc (Nat.le_refl _) (Obj.cells #[.int .i64 0, .int .i64 0, .slice none 0 0, .slice none 0 0] 36))
            (go_simp; generalize (v3.alloc (Obj.cells #[.int .i64 0, .int .i64 0, .slice none 0 0, .slice none 0 0] 36)) = y4 at hT4 hB4 y40 y41 y42 y43 yb4 yr4_0 yr4_1 yr4_2 yr4_3 yr4_4 yr4_5 yr4_6 yr4_7 yr4_8 yr4_9 yr4_10 yr4_11 hA4 hO4 ⊢; refine tr hK (fun hHeld => ?_); clear hK K)
            have g0 := hA4.bl
            have g1 := hA4.lt
            have zz0 := hA4.c0
            have zz1 := hA4.c1
            have zz2 := hA4.c2
            have zz3 := hA4.c3
            have zzf := hA4.nf
            have j0 : ¬ v3.heap.size = w.heap.size := by have := hB.wd.big; omega
            have j0' : ¬ w.heap.size = v3.heap.size := fun e => j0 e.symm
            have j1 : ¬ v3.heap.size = w.heap.size + 1 := by have := hB.big; omega
            have j1' : ¬ w.heap.size + 1 = v3.heap.size := fun e => j1 e.symm
            refine tc 9 fun K hK => ?_
            (go_simp; refine tr hK (fun hHeld => ?_); clear hK K)
            refine tq 10 hHeld ?_
            refine wpAnyH_done (by kernel_rfl) ?_ _
            go_wp2_with fail
            go_meet
            have hs4 := setFr4 y4 (v3.heap.size) (.int .i64 T0) (.int .i64 P0) (.slice a3 n0 c3) (.slice a4 m0 c4)
            have hbg := hB.big
            have hwl := hB.wd.big
            have hTz := hT4.size
            exact ⟨_, _, _, a3, c3, a4, c4, rfl, rfl, (hB.on hT4).fr hs4 (fun b e => by subst e; omega), ((hW.on hT4).fr hs4 (fun b e => by subst e; have := hW.le; have := hW.bh; omega)), ((hG.on hT4).fr hs4 (fun b e => by subst e; have := hG.le; have := hG.bh; omega)), Vw.put ((hO4.ob).base (B := wc.heap.size) (hT2).size) ((hO4.op).base (B := wc.heap.size) (hT2).size) hA4 hN4⟩
          · have hT5 : Below wc.heap.size wc (v2.alloc (Obj.cells #[.int .i64 0, .int .i64 0, .slice none 0 0, .slice none 0 0] 36)) := hT2.alloc hT2.size _
            have hB5 := hB.on hT5
            have y50 := hB5.wd.c0
            have y51 := hB5.wd.c1
            have y52 := hB5.wd.c2
            have y53 := hB5.wd.c3
            have yb5 := hB5.big
            have yr5_0 := hB5.r0
            have yr5_1 := hB5.r1
            have yr5_2 := hB5.r2
            have yr5_3 := hB5.r3
            have yr5_4 := hB5.r4
            have yr5_5 := hB5.r5
            have yr5_6 := hB5.r6
            have yr5_7 := hB5.r7
            have yr5_8 := hB5.r8
            have yr5_9 := hB5.r9
            have yr5_10 := hB5.r10
            have yr5_11 := hB5.r11
            have hA5 : Bx0 (v2.alloc (Obj.cells #[.int .i64 0, .int .i64 0, .slice none 0 0, .slice none 0 0] 36)) wc.heap.size v2.heap.size := Bx0.new _ _ hT2.size
            have hR5 := hR2.below ((Below.refl _ _).alloc (Nat.le_refl _) (Obj.cells #[.int .i64 0, .int .i64 0, .slice none 0 0, .slice none 0 0] 36))
            have hQ5 := hQ2.below ((Below.refl _ _).alloc (Nat.le_refl _) (Obj.cells #[.int .i64 0, .int .i64 0, .slice none 0 0, .slice none 0 0] 36))
            (go_simp; generalize (v2.alloc (Obj.cells #[.int .i64 0, .int .i64 0, .slice none 0 0, .slice none 0 0] 36)) = y5 at hT5 hB5 y50 y51 y52 y53 yb5 yr5_0 yr5_1 yr5_2 yr5_3 yr5_4 yr5_5 yr5_6 yr5_7 yr5_8 yr5_9 yr5_10 yr5_11 hA5 hR5 hQ5 ⊢; refine tr hK (fun hHeld => ?_); clear hK K)
            refine tc 4 fun K hK => ?_
            (go_simp; (go_at_call 9; refine (worldPut_q T P _ n _ U _ m _ Q V p _ hR5.flat hQ5.flat (by omega) (by omega) hp _ HA.out).mono ?_; rintro e v6 ⟨a3, c3, a4, c4, rfl, hO6⟩; have hb6 := hO6.bel; have hT6 := hT5.trans (hb6.mono hT5.size); have hB6 := hB.on hT6; have y60 := hB6.wd.c0; have y61 := hB6.wd.c1; have y62 := hB6.wd.c2; have y63 := hB6.wd.c3; have yb6 := hB6.big; have yr6_0 := hB6.r0; have yr6_1 := hB6.r1; have yr6_2 := hB6.r2; have yr6_3 := hB6.r3; have yr6_4 := hB6.r4; have yr6_5 := hB6.r5; have yr6_6 := hB6.r6; have yr6_7 := hB6.r7; have yr6_8 := hB6.r8; have yr6_9 := hB6.r9; have yr6_10 := hB6.r10; have yr6_11 := hB6.r11; have hA6 := hA5.on hb6; have hN6 : ∀ b, ownX a3 n0 c3 a4 m0 c4 b → b ≠ v2.heap.size := fun b e => by have := hA5.lt; rcases e with e | e; (have := (hO6.ob.lt b e).1; omega); (have := (hO6.op.lt b e).1; omega)); (try go_wp2_with fail); refine tr hK (fun hHeld => ?_); clear hK K)
            refine tq 5 hHeld ?_
            refine tq 6 hHeld ?_
            refine tq 7 hHeld ?_
            have g0 := hA6.bl
            have g1 := hA6.lt
            have zz0 := hA6.c0
            have zz1 := hA6.c1
            have zz2 := hA6.c2
            have zz3 := hA6.c3
            have zzf := hA6.nf
            have j0 : ¬ v2.heap.size = w.heap.size := by have := hB.wd.big; omega
            have j0' : ¬ w.heap.size = v2.heap.size := fun e => j0 e.symm
            have j1 : ¬ v2.heap.size = w.heap.size + 1 := by have := hB.big; omega
            have j1' : ¬ w.heap.size + 1 = v2.heap.size := fun e => j1 e.symm
            refine tc 9 fun K hK => ?_
            (go_simp; refine tr hK (fun hHeld => ?_); clear hK K)
            refine tq 10 hHeld ?_
            refine wpAnyH_done (by kernel_rfl) ?_ _
            go_wp2_with fail
            go_meet
            have hs4 := setFr4 v6 (v2.heap.size) (.int .i64 T0) (.int .i64 P0) (.slice a3 n0 c3) (.slice a4 m0 c4)
            have hbg := hB.big
            have hwl := hB.wd.big
            have hTz := hT6.size
            exact ⟨_, _, _, a3, c3, a4, c4, rfl, rfl, (hB.on hT6).fr hs4 (fun b e => by subst e; omega), ((hW.on hT6).fr hs4 (fun b e => by subst e; have := hW.le; have := hW.bh; omega)), ((hG.on hT6).fr hs4 (fun b e => by subst e; have := hG.le; have := hG.bh; omega)), Vw.put ((hO6.ob).base (B := wc.heap.size) (hT5).size) ((hO6.op).base (B := wc.heap.size) (hT5).size) hA6 hN6⟩
        · have hT7 : Below wc.heap.size wc (v1.alloc (Obj.cells #[.int .i64 0, .int .i64 0, .slice none 0 0, .slice none 0 0] 36)) := hT1.alloc hT1.size _
          have hB7 := hB.on hT7
          have y70 := hB7.wd.c0
          have y71 := hB7.wd.c1
          have y72 := hB7.wd.c2
          have y73 := hB7.wd.c3
          have yb7 := hB7.big
          have yr7_0 := hB7.r0
          have yr7_1 := hB7.r1
          have yr7_2 := hB7.r2
          have yr7_3 := hB7.r3
          have yr7_4 := hB7.r4
          have yr7_5 := hB7.r5
          have yr7_6 := hB7.r6
          have yr7_7 := hB7.r7
          have yr7_8 := hB7.r8
          have yr7_9 := hB7.r9
          have yr7_10 := hB7.r10
          have yr7_11 := hB7.r11
          have hA7 : Bx0 (v1.alloc (Obj.cells #[.int .i64 0, .int .i64 0, .slice none 0 0, .slice none 0 0] 36)) wc.heap.size v1.heap.size := Bx0.new _ _ hT1.size
          have hR7 := tr1.below ((Below.refl _ _).alloc (Nat.le_refl _) (Obj.cells #[.int .i64 0, .int .i64 0, .slice none 0 0, .slice none 0 0] 36))
          have hQ7 := tq1.below ((Below.refl _ _).alloc (Nat.le_refl _) (Obj.cells #[.int .i64 0, .int .i64 0, .slice none 0 0, .slice none 0 0] 36))
          (go_simp; generalize (v1.alloc (Obj.cells #[.int .i64 0, .int .i64 0, .slice none 0 0, .slice none 0 0] 36)) = y7 at hT7 hB7 y70 y71 y72 y73 yb7 yr7_0 yr7_1 yr7_2 yr7_3 yr7_4 yr7_5 yr7_6 yr7_7 yr7_8 yr7_9 yr7_10 yr7_11 hA7 hR7 hQ7 ⊢; refine tr hK (fun hHeld => ?_); clear hK K)
          refine tc 3 fun K hK => ?_
          (go_simp; (go_at_call 8; refine (toBody_any V _).mono ?_; rintro e v8 ⟨rfl, hb8⟩; have hT8 := hT7.trans (hb8.mono hT7.size); have hB8 := hB.on hT8; have y80 := hB8.wd.c0; have y81 := hB8.wd.c1; have y82 := hB8.wd.c2; have y83 := hB8.wd.c3; have yb8 := hB8.big; have yr8_0 := hB8.r0; have yr8_1 := hB8.r1; have yr8_2 := hB8.r2; have yr8_3 := hB8.r3; have yr8_4 := hB8.r4; have yr8_5 := hB8.r5; have yr8_6 := hB8.r6; have yr8_7 := hB8.r7; have yr8_8 := hB8.r8; have yr8_9 := hB8.r9; have yr8_10 := hB8.r10; have yr8_11 := hB8.r11; have hA8 := hA7.on hb8; have hR8 := hR7.below hb8; have hQ8 := hQ7.below hb8); (try go_wp2_with fail); refine tr hK (fun hHeld => ?_); clear hK K)
          refine tc 4 fun K hK => ?_
          (go_simp; (go_at_call 9; refine (worldPut_q T P _ n _ U _ m _ Q V p _ hR8.flat hQ8.flat (by omega) (by omega) hp _ HA.out).mono ?_; rintro e v9 ⟨a3, c3, a4, c4, rfl, hO9⟩; have hb9 := hO9.bel; have hT9 := hT8.trans (hb9.mono hT8.size); have hB9 := hB.on hT9; have y90 := hB9.wd.c0; have y91 := hB9.wd.c1; have y92 := hB9.wd.c2; have y93 := hB9.wd.c3; have yb9 := hB9.big; have yr9_0 := hB9.r0; have yr9_1 := hB9.r1; have yr9_2 := hB9.r2; have yr9_3 := hB9.r3; have yr9_4 := hB9.r4; have yr9_5 := hB9.r5; have yr9_6 := hB9.r6; have yr9_7 := hB9.r7; have yr9_8 := hB9.r8; have yr9_9 := hB9.r9; have yr9_10 := hB9.r10; have yr9_11 := hB9.r11; have hA9 := hA8.on hb9; have hN9 : ∀ b, ownX a3 n0 c3 a4 m0 c4 b → b ≠ v1.heap.size := fun b e => by have := hA8.lt; rcases e with e | e; (have := (hO9.ob.lt b e).1; omega); (have := (hO9.op.lt b e).1; omega)); (try go_wp2_with fail); refine tr hK (fun hHeld => ?_); clear hK K)
          refine tq 5 hHeld ?_
          refine tq 6 hHeld ?_
          refine tq 7 hHeld ?_
          have g0 := hA9.bl
          have g1 := hA9.lt
          have zz0 := hA9.c0
          have zz1 := hA9.c1
          have zz2 := hA9.c2
          have zz3 := hA9.c3
          have zzf := hA9.nf
          have j0 : ¬ v1.heap.size = w.heap.size := by have := hB.wd.big; omega
          have j0' : ¬ w.heap.size = v1.heap.size := fun e => j0 e.symm
          have j1 : ¬ v1.heap.size = w.heap.size + 1 := by have := hB.big; omega
          have j1' : ¬ w.heap.size + 1 = v1.heap.size := fun e => j1 e.symm
          refine tc 9 fun K hK => ?_
          (go_simp; refine tr hK (fun hHeld => ?_); clear hK K)
          refine tq 10 hHeld ?_
          refine wpAnyH_done (by kernel_rfl) ?_ _
          go_wp2_with fail
          go_meet
          have hs4 := setFr4 v9 (v1.heap.size) (.int .i64 T0) (.int .i64 P0) (.slice a3 n0 c3) (.slice a4 m0 c4)
          have hbg := hB.big
          have hwl := hB.wd.big
          have hTz := hT9.size
          exact ⟨_, _, _, a3, c3, a4, c4, rfl, rfl, (hB.on hT9).fr hs4 (fun b e => by subst e; omega), ((hW.on hT9).fr hs4 (fun b e => by subst e; have := hW.le; have := hW.bh; omega)), ((hG.on hT9).fr hs4 (fun b e => by subst e; have := hG.le; have := hG.bh; omega)), Vw.put ((hO9.ob).base (B := wc.heap.size) (hT8).size) ((hO9.op).base (B := wc.heap.size) (hT8).size) hA9 hN9⟩
      · have hT10 : Below wc.heap.size wc (wc.alloc (Obj.cells #[.int .i64 0, .int .i64 0, .slice none 0 0, .slice none 0 0] 36)).drew := ((Below.refl _ _).alloc (Nat.le_refl _) _).drew
        have hB10 := hB.on hT10
        have y100 := hB10.wd.c0
        have y101 := hB10.wd.c1
        have y102 := hB10.wd.c2
        have y103 := hB10.wd.c3
        have yb10 := hB10.big
        have yr10_0 := hB10.r0
        have yr10_1 := hB10.r1
        have yr10_2 := hB10.r2
        have yr10_3 := hB10.r3
        have yr10_4 := hB10.r4
        have yr10_5 := hB10.r5
        have yr10_6 := hB10.r6
        have yr10_7 := hB10.r7
        have yr10_8 := hB10.r8
        have yr10_9 := hB10.r9
        have yr10_10 := hB10.r10
        have yr10_11 := hB10.r11
        have hA10 : Bx0 (wc.alloc (Obj.cells #[.int .i64 0, .int .i64 0, .slice none 0 0, .slice none 0 0] 36)).drew wc.heap.size wc.heap.size := (Bx0.new wc _ (Nat.le_refl _)).drew
        (go_simp; generalize (wc.alloc (Obj.cells #[.int .i64 0, .int .i64 0, .slice none 0 0, .slice none 0 0] 36)).drew = y10 at hT10 hB10 y100 y101 y102 y103 yb10 yr10_0 yr10_1 yr10_2 yr10_3 yr10_4 yr10_5 yr10_6 yr10_7 yr10_8 yr10_9 yr10_10 yr10_11 hA10 ⊢; refine tr hK (fun hHeld => ?_); clear hK K)
        refine tc 1 fun K hK => ?_
        (go_simp; (go_at_call 7; refine (toWorld_any T P a n c U a' m c' Q _ (h.below (hB.wd.bel.trans (hT10.mono hB.wd.bel.size))) (h'.below (hB.wd.bel.trans (hT10.mono hB.wd.bel.size))) (by omega) (by omega)).mono ?_; rintro e v11 ⟨tb, td, ts, rfl, tl, tla, tlb, tlc, tr1, tq1, hb11⟩; have hT11 := hT10.trans (hb11.mono hT10.size); have hB11 := hB.on hT11; have y110 := hB11.wd.c0; have y111 := hB11.wd.c1; have y112 := hB11.wd.c2; have y113 := hB11.wd.c3; have yb11 := hB11.big; have yr11_0 := hB11.r0; have yr11_1 := hB11.r1; have yr11_2 := hB11.r2; have yr11_3 := hB11.r3; have yr11_4 := hB11.r4; have yr11_5 := hB11.r5; have yr11_6 := hB11.r6; have yr11_7 := hB11.r7; have yr11_8 := hB11.r8; have yr11_9 := hB11.r9; have yr11_10 := hB11.r10; have yr11_11 := hB11.r11; have hA11 := hA10.on hb11); (try go_wp2_with fail); refine tr hK (fun hHeld => ?_); clear hK K)
        refine tc 3 fun K hK => ?_
        (go_simp; (go_at_call 8; refine (toBody_any V _).mono ?_; rintro e v12 ⟨rfl, hb12⟩; have hT12 := hT11.trans (hb12.mono hT11.size); have hB12 := hB.on hT12; have y120 := hB12.wd.c0; have y121 := hB12.wd.c1; have y122 := hB12.wd.c2; have y123 := hB12.wd.c3; have yb12 := hB12.big; have yr12_0 := hB12.r0; have yr12_1 := hB12.r1; have yr12_2 := hB12.r2; have yr12_3 := hB12.r3; have yr12_4 := hB12.r4; have yr12_5 := hB12.r5; have yr12_6 := hB12.r6; have yr12_7 := hB12.r7; have yr12_8 := hB12.r8; have yr12_9 := hB12.r9; have yr12_10 := hB12.r10; have yr12_11 := hB12.r11; have hA12 := hA11.on hb12; have hR12 := tr1.below hb12; have hQ12 := tq1.below hb12); (try go_wp2_with fail); refine tr hK (fun hHeld => ?_); clear hK K)
        refine tc 4 fun K hK => ?_
        (go_simp; (go_at_call 9; refine (worldPut_q T P _ n _ U _ m _ Q V p _ hR12.flat hQ12.flat (by omega) (by omega) hp _ HA.out).mono ?_; rintro e v13 ⟨a3, c3, a4, c4, rfl, hO13⟩; have hb13 := hO13.bel; have hT13 := hT12.trans (hb13.mono hT12.size); have hB13 := hB.on hT13; have y130 := hB13.wd.c0; have y131 := hB13.wd.c1; have y132 := hB13.wd.c2; have y133 := hB13.wd.c3; have yb13 := hB13.big; have yr13_0 := hB13.r0; have yr13_1 := hB13.r1; have yr13_2 := hB13.r2; have yr13_3 := hB13.r3; have yr13_4 := hB13.r4; have yr13_5 := hB13.r5; have yr13_6 := hB13.r6; have yr13_7 := hB13.r7; have yr13_8 := hB13.r8; have yr13_9 := hB13.r9; have yr13_10 := hB13.r10; have yr13_11 := hB13.r11; have hA13 := hA12.on hb13; have hN13 : ∀ b, ownX a3 n0 c3 a4 m0 c4 b → b ≠ wc.heap.size := fun b e => by have := hA12.lt; rcases e with e | e; (have := (hO13.ob.lt b e).1; omega); (have := (hO13.op.lt b e).1; omega)); (try go_wp2_with fail); refine tr hK (fun hHeld => ?_); clear hK K)
        refine tq 5 hHeld ?_
        refine tq 6 hHeld ?_
        refine tq 7 hHeld ?_
        have g0 := hA13.bl
        have g1 := hA13.lt
        have zz0 := hA13.c0
        have zz1 := hA13.c1
        have zz2 := hA13.c2
        have zz3 := hA13.c3
        have zzf := hA13.nf
        have j0 : ¬ wc.heap.size = w.heap.size := by have := hB.wd.big; omega
        have j0' : ¬ w.heap.size = wc.heap.size := fun e => j0 e.symm
        have j1 : ¬ wc.heap.size = w.heap.size + 1 := by have := hB.big; omega
        have j1' : ¬ w.heap.size + 1 = wc.heap.size := fun e => j1 e.symm
        refine tc 9 fun K hK => ?_
        (go_simp; refine tr hK (fun hHeld => ?_); clear hK K)
        refine tq 10 hHeld ?_
        refine wpAnyH_done (by kernel_rfl) ?_ _
        go_wp2_with fail
        go_meet
        have hs4 := setFr4 v13 (wc.heap.size) (.int .i64 T0) (.int .i64 P0) (.slice a3 n0 c3) (.slice a4 m0 c4)
        have hbg := hB.big
        have hwl := hB.wd.big
        have hTz := hT13.size
        exact ⟨_, _, _, a3, c3, a4, c4, rfl, rfl, (hB.on hT13).fr hs4 (fun b e => by subst e; omega), ((hW.on hT13).fr hs4 (fun b e => by subst e; have := hW.le; have := hW.bh; omega)), ((hG.on hT13).fr hs4 (fun b e => by subst e; have := hG.le; have := hG.bh; omega)), Vw.put ((hO13.ob).base (B := wc.heap.size) (hT12).size) ((hO13.op).base (B := wc.heap.size) (hT12).size) hA13 hN13⟩
    case rest =>
    clear hB y0 y1 y2 y3 yb yr_0 yr_1 yr_2 yr_3 yr_4 yr_5 yr_6 yr_7 yr_8 yr_9 yr_10 yr_11 hW xw0 xw1 xw2 xw3 xbw xlw hG xg0 xg1 xg2 xg3 xbg xlg
    obtain ⟨lh, hh, bh, eh, fh, gh, ih, rfl, rfl, hB, hW, hG, hH⟩ := hcut
    have y0 := hB.wd.c0
    have y1 := hB.wd.c1
    have y2 := hB.wd.c2
    have y3 := hB.wd.c3
    have yb := hB.big
    have yr_0 := hB.r0
    have yr_1 := hB.r1
    have yr_2 := hB.r2
    have yr_3 := hB.r3
    have yr_4 := hB.r4
    have yr_5 := hB.r5
    have yr_6 := hB.r6
    have yr_7 := hB.r7
    have yr_8 := hB.r8
    have yr_9 := hB.r9
    have yr_10 := hB.r10
    have yr_11 := hB.r11
    have xw0 := hW.c0
    have xw1 := hW.c1
    have xw2 := hW.c2
    have xw3 := hW.c3
    have xbw := hW.blt
    have xlw := hW.bl
    have xg0 := hG.c0
    have xg1 := hG.c1
    have xg2 := hG.c2
    have xg3 := hG.c3
    have xbg := hG.blt
    have xlg := hG.bl
    have xh0 := hH.c0
    have xh1 := hH.c1
    have xh2 := hH.c2
    have xh3 := hH.c3
    have xbh := hH.blt
    have xlh := hH.bl
    go_upto_region 25 with fail
    go_cut [95] (fun s0 wc => s0 = .bool false ∧ LfPut w T P a n c a' m c' V wc ∧ Vw wc lg hg bg T0 P0 eg n0 fg (fun q => 1 + (q : Int)) gg m0 ig (fun q => 1 + (n0 : Int) * 12 + (q : Int)))
    case first =>
      go_wp2_with (go_at_call 10; refine (eqWorld_same T0 P0 _ _ n0 _ _ U0 _ _ m0 _ _ Q0 _ hH.fb hW.fb hH.fp hW.fp hn0 hm0).mono ?_; rintro e w9 ⟨rfl, hb9⟩)
      go_meet
      exact ⟨by simp, hB.on hb9, hG.on hb9⟩
    case rest =>
    clear hB y0 y1 y2 y3 yb yr_0 yr_1 yr_2 yr_3 yr_4 yr_5 yr_6 yr_7 yr_8 yr_9 yr_10 yr_11 hW xw0 xw1 xw2 xw3 xbw xlw hG xg0 xg1 xg2 xg3 xbg xlg hH xh0 xh1 xh2 xh3 xbh xlh
    obtain ⟨rfl, hB, hG⟩ := hcut
    have y0 := hB.wd.c0
    have y1 := hB.wd.c1
    have y2 := hB.wd.c2
    have y3 := hB.wd.c3
    have yb := hB.big
    have yr_0 := hB.r0
    have yr_1 := hB.r1
    have yr_2 := hB.r2
    have yr_3 := hB.r3
    have yr_4 := hB.r4
    have yr_5 := hB.r5
    have yr_6 := hB.r6
    have yr_7 := hB.r7
    have yr_8 := hB.r8
    have yr_9 := hB.r9
    have yr_10 := hB.r10
    have yr_11 := hB.r11
    have xg0 := hG.c0
    have xg1 := hG.c1
    have xg2 := hG.c2
    have xg3 := hG.c3
    have xbg := hG.blt
    have xlg := hG.bl
    go_upto_region 28 with fail
    go_wp2_with (go_at_call 12; refine (heldWorld_own T0 P0 _ n0 _ _ m0 _ _ hG.fb hG.fp hn0 hm0).mono ?_; rintro e w2 ⟨rfl, hb2⟩)
    go_ret
    exact ⟨rfl, (hB.on hb2).wd.bel⟩
  · go_enter Try.func3, Try.ntmps3
    go_upto_region 2 with fail
    go_cut [5] (fun s wc => ∃ z : Int, s = .int .i64 z ∧ z < 0 ∧ Below w.heap.size w wc)
    case first =>
      go_wp2_with (go_at_call 5; refine (szWorld_any T P a n c a' m c' _ hn hm).mono ?_; rintro e w1 ⟨⟨z, rfl, hz1, hz2, hz3⟩, hb1⟩)
      go_meet
      exact ⟨z, rfl, by omega, by repeat (first | with_reducible apply Below.refl | (with_reducible apply Below.setCell; rotate_left; focus (first | omega | (simp; done) | (simp; omega))) | (with_reducible apply Below.alloc; rotate_left; focus (first | omega | (simp; done) | (simp; omega))) | with_reducible apply Below.drew | with_reducible apply belowDrewN | (with_reducible apply Below.trans; rotate_left; with_reducible apply Below.mono; with_reducible assumption; focus (first | omega | (simp; done) | (simp; omega))))⟩
    case rest =>
    obtain ⟨z, rfl, hz, hB⟩ := hcut
    go_wp2
    go_ret
    exact ⟨rfl, hB⟩
end Go.Proofs.Ythekeeagjokpeaa
namespace Go.Proofs.Ythekeeagjokpeaa
theorem head_cut {l : List (List Char)} {c : List Char} (h : (l.head? == some c) = true) : ∃ rest, l = c :: rest := by
  cases l with
  | nil => simp at h
  | cons a r => simp at h; exact ⟨r, by rw [h]⟩
theorem strip_cut (rest : List (List Char)) : stripLifts liftWords ("cut".toList :: rest) = ([], "cut".toList :: rest) := by kernel_rfl
theorem make_of {P : Program} {l : List Char} (h0 : P.initOrder.toList = l) (h1 : ((behindMainWord (wordsSigns l)).head? == some "cut".toList) = true) : P.make = some .cut := by
  obtain ⟨rest, hr⟩ := head_cut h1
  unfold Program.make
  rw [h0, hr]
  rfl
theorem headLifts_of {P : Program} {l : List Char} (h0 : P.initOrder.toList = l) (h1 : ((behindMainWord (wordsSigns l)).head? == some "cut".toList) = true) : P.headLifts = [] := by
  obtain ⟨rest, hr⟩ := head_cut h1
  unfold Program.headLifts
  rw [h0, hr, strip_cut]
  rfl
theorem liftsFinal_of {P : Program} {l : List Char} (h0 : P.initOrder.toList = l) (h1 : ((behindMainWord (wordsSigns l)).head? == some "cut".toList) = true) : P.liftsFinal = false := by
  have hh := headLifts_of h0 h1
  obtain ⟨rest, hr⟩ := head_cut h1
  unfold Program.liftsFinal
  rw [h0, hr, hh]
  rfl
theorem mayEnter_of {P : Program} {l : List Char} (h0 : P.initOrder.toList = l) (h1 : ((behindMainWord (wordsSigns l)).head? == some "cut".toList) = true) (h2 : P.laysLater = false) (h3 : P.bearsReflect = false) (h4 : P.doorFits [] = true) : P.mayEnter = true := by
  obtain ⟨rest, hr⟩ := head_cut h1
  unfold Program.mayEnter
  rw [h0, hr]
  simp only [strip_cut, h2, h3, h4]
  simp
end Go.Proofs.Ythekeeagjokpeaa
namespace Go.Proofs.Ythekeeagjokpeaa
set_option maxRecDepth 100000
def ordL : { l : List Char // Try.prog.initOrder = String.ofList l } := ⟨_, rfl⟩
theorem ordT : Try.prog.initOrder.toList = ordL.1 := (congrArg String.toList ordL.2).trans String.toList_ofList
theorem headE : ((behindMainWord (wordsSigns ordL.1)).head? == some "cut".toList) = true := by kernel_rfl
theorem makeT : Try.prog.make = some .cut := make_of ordT headE
theorem liftsFinalT : Try.prog.liftsFinal = false := liftsFinal_of ordT headE
theorem laysLaterT : Try.prog.laysLater = false := by kernel_rfl
theorem bearsReflectT : Try.prog.bearsReflect = false := by kernel_rfl
theorem doorFitsT : Try.prog.doorFits [] = true := by kernel_rfl
theorem mayEnterT : Try.prog.mayEnter = true := mayEnter_of ordT headE laysLaterT bearsReflectT doorFitsT
theorem ownT : ownKnob Try.prog.godebug = none := by kernel_rfl
theorem laidOutT : laidOutB Try.prog = true := by kernel_rfl
theorem mapsRowedT : mapsRowed Try.prog = true := by kernel_rfl
theorem stopsHeardT : Try.prog.stopsHeard = true := by kernel_rfl
theorem plainKeysT : Try.prog.plainKeys = true := by kernel_rfl
end Go.Proofs.Ythekeeagjokpeaa
