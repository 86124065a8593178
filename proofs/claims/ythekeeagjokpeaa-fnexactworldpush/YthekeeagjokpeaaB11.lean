/- The exact law of WorldPush, walked. Lemmas on whatever program: from the head of its cut's word to the closed facts. Closed facts of the loaded program, each a theorem of its own. Slices of things that are numbers alone, as they come in. Lists of bodies, as they come in. Worlds, as they come in. A box that came in by value is four integers. -/
import Derived.Test.YthekeeagjokpeaaB10
import Derived.Deep.RegionHeld3
import Derived.Deep.DeepCutAuto
import Derived.Test.YthekeeagjokpeaaRows
import Derived.WalkKit
import Derived.JoinedOf
import Derived.ProofKit
import Derived.Test.YthekeeagjokpeaaB1
import Derived.Deep.Slices
import Derived.ChangeSame
import Derived.ChangeArms
import Derived.OpenShut
import Derived.Lib.SmallJoins
namespace Go.Proofs.Ythekeeagjokpeaa
open Go.RowKit
set_option linter.unusedVariables false
set_option linter.unusedSimpArgs false
/-- what the law begins with -/
structure LfPush (w : World) (T P : Int) (a : Option Addr) (n c : Nat) (a' : Option Addr) (m c' : Nat) (x y : Int) (wr : World) : Prop where
  wd : WdR w T P a n c a' m c' wr
  big : w.heap.size + 1 < wr.heap.size
  r0 : wr.cell? ⟨w.heap.size + 1, 0, none⟩ = some (.int .i64 x)
  r1 : wr.cell? ⟨w.heap.size + 1, 1, none⟩ = some (.int .i64 y)
theorem LfPush.on {w wr w' : World} {T P : Int} {a a' : Option Addr} {n c m c' : Nat} {x y : Int} (h : LfPush w T P a n c a' m c' x y wr) (hb : Below wr.heap.size wr w') : LfPush w T P a n c a' m c' x y w' :=
  have bg := h.big
  ⟨h.wd.on hb, Nat.lt_of_lt_of_le h.big hb.size, (hb.cell (p := ⟨w.heap.size + 1, 0, none⟩) bg).trans h.r0, (hb.cell (p := ⟨w.heap.size + 1, 1, none⟩) bg).trans h.r1⟩
theorem LfPush.fr {X : Nat → Prop} {w wr w' : World} {T P : Int} {a a' : Option Addr} {n c m c' : Nat} {x y : Int} (h : LfPush w T P a n c a' m c' x y wr) (hs : Fr X wr w') (hX : ∀ b, X b → w.heap.size + 1 < b) : LfPush w T P a n c a' m c' x y w' := by
  have bg := h.big
  have n0 : ¬ X w.heap.size := fun x => by have := hX _ x; omega
  have k0 := fun j => hs.cell (p := ⟨w.heap.size, j, none⟩) (by simp; omega) n0
  have n1 : ¬ X (w.heap.size + 1) := fun x => by have := hX _ x; omega
  have k1 := fun j => hs.cell (p := ⟨w.heap.size + 1, j, none⟩) bg n1
  exact ⟨⟨h.wd.bel.trans (hs.below (by omega) (fun b x => by have := hX b x; omega)), Nat.lt_of_lt_of_le h.wd.big hs.size, (k0 0).trans h.wd.c0, (k0 1).trans h.wd.c1, (k0 2).trans h.wd.c2, (k0 3).trans h.wd.c3⟩, Nat.lt_of_lt_of_le bg hs.size, (k1 0).trans h.r0, (k1 1).trans h.r1⟩
theorem LfPush.start (w : World) (T P : Int) (a a' : Option Addr) (n c m c' : Nat) (x y : Int) : LfPush w T P a n c a' m c' x y ((w.alloc (Obj.cells #[.int .i64 T, .int .i64 P, .slice a n c, .slice a' m c'] 25)).alloc (Obj.cells #[.int .i64 x, .int .i64 y] 29)) :=
  ⟨⟨((Below.refl _ _).alloc (Nat.le_refl _) _).alloc (by simp) _, by simp; omega, by go_simp, by go_simp, by go_simp, by go_simp⟩, by simp, by go_simp, by go_simp⟩
set_option maxRecDepth 20000 in
set_option maxHeartbeats 16000000 in
theorem fnExactWorldPush_walk (T P : Int) (a : Option Addr) (n c : Nat) (U : Nat → Int) (a' : Option Addr) (m c' : Nat) (Q : Nat → Int) (id x y : Int) (w : World) (h : Flat w a (n * 12) U) (h' : Flat w a' (m * 2) Q) (hn : (n : Int) ≤ 9223372036854775807) (hm : (m : Int) ≤ 9223372036854775807) :
    Calls Try.prog 4 #[worldW T P a n c a' m c', .int .i64 id, vv x y] w fun e w' => e = .returned (.bool true) ∧ Below w.heap.size w w' := by
  have hset := cset_map
  by_cases h20 : n + m ≤ 1048576
  · obtain ⟨p, hp⟩ := idP_ex U id n
    obtain ⟨A, eA⟩ : ∃ A, pushWA T P n U m Q id x y p = A := ⟨_, rfl⟩
    obtain ⟨hn0, hm0⟩ : A.n ≤ 1048576 ∧ A.m ≤ 1048576 := by rw [← eA]; unfold pushWA; cases worldB T P n U m Q <;> cases inB 20000000 x y <;> cases decide (p < n ∧ U (p * 12) = id) <;> (constructor <;> (first | (show n ≤ 1048576; omega) | (show m ≤ 1048576; omega) | (show 0 ≤ 1048576; omega)))
    obtain ⟨T0, P0, n0, U0, m0, Q0, k0⟩ := A
    have HA : Shut (pushWA T P n U m Q id x y p = ⟨T0, P0, n0, U0, m0, Q0, k0⟩) := eA
    clear eA
    simp only at hn0 hm0
    go_enter Try.func4, Try.ntmps4
    go_upto_region 2 with fail
    go_cut [7] (fun s wc => ∃ z : Int, s = .int .i64 z ∧ 0 ≤ z ∧ LfPush w T P a n c a' m c' x y wc)
    case first =>
      go_wp2_with (go_at_call 5; refine (szWorld_any T P a n c a' m c' _ hn hm).mono ?_; rintro e w1 ⟨⟨z, rfl, hz1, hz2, hz3⟩, hb1⟩)
      go_meet
      exact ⟨z, rfl, hz1.2 h20, (LfPush.start w T P a a' n c m c' x y).on hb1⟩
    case rest =>
    obtain ⟨z, rfl, hz, hB⟩ := hcut
    have hz' : ¬ z < 0 := by omega
    have y0 := hB.wd.c0
    have y1 := hB.wd.c1
    have y2 := hB.wd.c2
    have y3 := hB.wd.c3
    have yb := hB.big
    have yr0 := hB.r0
    have yr1 := hB.r1
    go_upto_region 5 with fail
    go_cut [8, 9] (fun s0 s1 wc => ∃ lw hw bw ew fw gw iw, s0 = .pointer (some ⟨bw, 0, none⟩) ∧ s1 = .int .i64 k0 ∧ w.heap.size + 1 < lw ∧ LfPush w T P a n c a' m c' x y wc ∧ Vw wc lw hw bw T0 P0 ew n0 fw U0 gw m0 iw Q0)
    case first =>
      refine wp_region_held_drew (S := fun w' => w'.cell? ⟨w.heap.size, 0, none⟩ = some (.int .i64 T) ∧ w'.cell? ⟨w.heap.size, 1, none⟩ = some (.int .i64 P) ∧ w'.cell? ⟨w.heap.size, 2, none⟩ = some (.slice a n c) ∧ w'.cell? ⟨w.heap.size, 3, none⟩ = some (.slice a' m c') ∧ w'.cell? ⟨w.heap.size + 1, 0, none⟩ = some (.int .i64 x) ∧ w'.cell? ⟨w.heap.size + 1, 1, none⟩ = some (.int .i64 y)) (by kernel_rfl) ?_ (fun hHeld => ?_)
      · (try dsimp only)
        (first | (go_simp; done) | (go_keep; done))
      refine tq 0 hHeld ?_
      refine tq 2 hHeld ?_
      refine tq 3 hHeld ?_
      refine wpAnyH_ready (rs := [1, 9]) (by kernel_rfl) (by simp) ?_
      refine AllReadyH.cons rfl (fun K hK => ?_) (AllReadyH.cons rfl (fun K hK => ?_) AllReadyH.nil)
      · (go_simp; (go_at_call 7; refine (toWorld_any T P a n c U a' m c' Q _ (h.below (hB.wd.bel.trans ((Below.drew (Below.refl wc.heap.size wc)).mono hB.wd.bel.size))) (h'.below (hB.wd.bel.trans ((Below.drew (Below.refl wc.heap.size wc)).mono hB.wd.bel.size))) (by omega) (by omega)).mono ?_; rintro e v1 ⟨tb, td, ts, rfl, tl, tla, tlb, tlc, tr1, tq1, hb1⟩; have hT1 := (Below.refl wc.heap.size wc).trans (hb1.ofDr.mono (Nat.le_refl _)); have hB1 := hB.on hT1; have y10 := hB1.wd.c0; have y11 := hB1.wd.c1; have y12 := hB1.wd.c2; have y13 := hB1.wd.c3; have yb1 := hB1.big; have yr10 := hB1.r0; have yr11 := hB1.r1); (try go_wp2_with fail); refine tr hK (fun hHeld => ?_); clear hK K)
        refine wpAnyH_ready (rs := [4, 9]) (by kernel_rfl) (by simp) ?_
        refine AllReadyH.cons rfl (fun K hK => ?_) (AllReadyH.cons rfl (fun K hK => ?_) AllReadyH.nil)
        · (go_simp; (go_at_call 14; refine (toVec_any x y _).mono ?_; rintro e v2 ⟨rfl, hb2⟩; have hT2 := hT1.trans (hb2.mono hT1.size); have hB2 := hB.on hT2; have y20 := hB2.wd.c0; have y21 := hB2.wd.c1; have y22 := hB2.wd.c2; have y23 := hB2.wd.c3; have yb2 := hB2.big; have yr20 := hB2.r0; have yr21 := hB2.r1; have hR2 := tr1.below hb2; have hQ2 := tq1.below hb2); (try go_wp2_with fail); refine tr hK (fun hHeld => ?_); clear hK K)
          refine wpAnyH_ready (rs := [5, 9]) (by kernel_rfl) (by simp) ?_
          refine AllReadyH.cons rfl (fun K hK => ?_) (AllReadyH.cons rfl (fun K hK => ?_) AllReadyH.nil)
          · (go_simp; (go_at_call 13; refine (sWorldPush_q T P _ n _ U _ m _ Q id x y p _ hR2.flat hQ2.flat (by omega) (by omega) hp _ HA.out).mono ?_; rintro e v3 ⟨a3, c3, a4, c4, rfl, hO3⟩; have hb3 := hO3.bel; have hT3 := hT2.trans (hb3.mono hT2.size); have hB3 := hB.on hT3; have y30 := hB3.wd.c0; have y31 := hB3.wd.c1; have y32 := hB3.wd.c2; have y33 := hB3.wd.c3; have yb3 := hB3.big; have yr30 := hB3.r0; have yr31 := hB3.r1); (try go_wp2_with fail); refine tr hK (fun hHeld => ?_); clear hK K)
            refine tq 6 hHeld ?_
            refine tq 7 hHeld ?_
            refine tq 8 hHeld ?_
            refine tc 9 fun K hK => ?_
            have hT4 : Below wc.heap.size wc (v3.alloc (Obj.cells #[.int .i64 0, .int .i64 0, .slice none 0 0, .slice none 0 0] 36)) := hT3.alloc hT3.size _
            have hB4 := hB.on hT4
            have y40 := hB4.wd.c0
            have y41 := hB4.wd.c1
            have y42 := hB4.wd.c2
            have y43 := hB4.wd.c3
            have yb4 := hB4.big
            have yr40 := hB4.r0
            have yr41 := hB4.r1
            have hA4 : Bx0 (v3.alloc (Obj.cells #[.int .i64 0, .int .i64 0, .slice none 0 0, .slice none 0 0] 36)) wc.heap.size v3.heap.size := Bx0.new _ _ hT3.size
            have hN4 : ∀ b, ownX a3 n0 c3 a4 m0 c4 b → b ≠ v3.heap.size := fun b e => by rcases e with e | e; (have := (hO3.ob.lt b e).2; omega); (have := (hO3.op.lt b e).2; omega)
            have hO4 := hO3.on ((Below.refl _ _).alloc (Nat.le_refl _) (Obj.cells #[.int .i64 0, .int .i64 0, .slice none 0 0, .slice none 0 0] 36))
            (go_simp; generalize (v3.alloc (Obj.cells #[.int .i64 0, .int .i64 0, .slice none 0 0, .slice none 0 0] 36)) = y4 at hT4 hB4 y40 y41 y42 y43 yb4 yr40 yr41 hA4 hO4 ⊢; refine tr hK (fun hHeld => ?_); clear hK K)
            have g0 := hA4.bl
            have g1 := hA4.lt
            have zz0 := hA4.c0
            have zz1 := hA4.c1
            have zz2 := hA4.c2
            have zz3 := hA4.c3
            have zzf := hA4.nf
            have j0 : ¬ v3.heap.size = w.heap.size := by have := hB.wd.big; omega
            have j0' : ¬ w.heap.size = v3.heap.size := fun e => j0 e.symm
            have j1 : ¬ v3.heap.size = w.heap.size + 1 := by have := hB.big; omega
            have j1' : ¬ w.heap.size + 1 = v3.heap.size := fun e => j1 e.symm
            refine tc 10 fun K hK => ?_
            (go_simp; refine tr hK (fun hHeld => ?_); clear hK K)
            refine tq 11 hHeld ?_
            refine wpAnyH_done (by kernel_rfl) ?_ _
            go_wp2_with fail
            go_meet
            have hs4 := setFr4 y4 (v3.heap.size) (.int .i64 T0) (.int .i64 P0) (.slice a3 n0 c3) (.slice a4 m0 c4)
            have hbg := hB.big
            have hwl := hB.wd.big
            have hTz := hT4.size
            exact ⟨_, _, _, a3, c3, a4, c4, rfl, rfl, hbg, (hB.on hT4).fr hs4 (fun b e => by subst e; omega), Vw.put ((hO4.ob).base (B := wc.heap.size) (hT2).size) ((hO4.op).base (B := wc.heap.size) (hT2).size) hA4 hN4⟩
          · have hT5 : Below wc.heap.size wc (v2.alloc (Obj.cells #[.int .i64 0, .int .i64 0, .slice none 0 0, .slice none 0 0] 36)) := hT2.alloc hT2.size _
            have hB5 := hB.on hT5
            have y50 := hB5.wd.c0
            have y51 := hB5.wd.c1
            have y52 := hB5.wd.c2
            have y53 := hB5.wd.c3
            have yb5 := hB5.big
            have yr50 := hB5.r0
            have yr51 := hB5.r1
            have hA5 : Bx0 (v2.alloc (Obj.cells #[.int .i64 0, .int .i64 0, .slice none 0 0, .slice none 0 0] 36)) wc.heap.size v2.heap.size := Bx0.new _ _ hT2.size
            have hR5 := hR2.below ((Below.refl _ _).alloc (Nat.le_refl _) (Obj.cells #[.int .i64 0, .int .i64 0, .slice none 0 0, .slice none 0 0] 36))
            have hQ5 := hQ2.below ((Below.refl _ _).alloc (Nat.le_refl _) (Obj.cells #[.int .i64 0, .int .i64 0, .slice none 0 0, .slice none 0 0] 36))
            (go_simp; generalize (v2.alloc (Obj.cells #[.int .i64 0, .int .i64 0, .slice none 0 0, .slice none 0 0] 36)) = y5 at hT5 hB5 y50 y51 y52 y53 yb5 yr50 yr51 hA5 hR5 hQ5 ⊢; refine tr hK (fun hHeld => ?_); clear hK K)
            refine tc 5 fun K hK => ?_
            (go_simp; (go_at_call 13; refine (sWorldPush_q T P _ n _ U _ m _ Q id x y p _ hR5.flat hQ5.flat (by omega) (by omega) hp _ HA.out).mono ?_; rintro e v6 ⟨a3, c3, a4, c4, rfl, hO6⟩; have hb6 := hO6.bel; have hT6 := hT5.trans (hb6.mono hT5.size); have hB6 := hB.on hT6; have y60 := hB6.wd.c0; have y61 := hB6.wd.c1; have y62 := hB6.wd.c2; have y63 := hB6.wd.c3; have yb6 := hB6.big; have yr60 := hB6.r0; have yr61 := hB6.r1; have hA6 := hA5.on hb6; have hN6 : ∀ b, ownX a3 n0 c3 a4 m0 c4 b → b ≠ v2.heap.size := fun b e => by have := hA5.lt; rcases e with e | e; (have := (hO6.ob.lt b e).1; omega); (have := (hO6.op.lt b e).1; omega)); (try go_wp2_with fail); refine tr hK (fun hHeld => ?_); clear hK K)
            refine tq 6 hHeld ?_
            refine tq 7 hHeld ?_
            refine tq 8 hHeld ?_
            have g0 := hA6.bl
            have g1 := hA6.lt
            have zz0 := hA6.c0
            have zz1 := hA6.c1
            have zz2 := hA6.c2
            have zz3 := hA6.c3
            have zzf := hA6.nf
            have j0 : ¬ v2.heap.size = w.heap.size := by have := hB.wd.big; omega
            have j0' : ¬ w.heap.size = v2.heap.size := fun e => j0 e.symm
            have j1 : ¬ v2.heap.size = w.heap.size + 1 := by have := hB.big; omega
            have j1' : ¬ w.heap.size + 1 = v2.heap.size := fun e => j1 e.symm
            refine tc 10 fun K hK => ?_
            (go_simp; refine tr hK (fun hHeld => ?_); clear hK K)
            refine tq 11 hHeld ?_
            refine wpAnyH_done (by kernel_rfl) ?_ _
            go_wp2_with fail
            go_meet
            have hs4 := setFr4 v6 (v2.heap.size) (.int .i64 T0) (.int .i64 P0) (.slice a3 n0 c3) (.slice a4 m0 c4)
            have hbg := hB.big
            have hwl := hB.wd.big
            have hTz := hT6.size
            exact ⟨_, _, _, a3, c3, a4, c4, rfl, rfl, hbg, (hB.on hT6).fr hs4 (fun b e => by subst e; omega), Vw.put ((hO6.ob).base (B := wc.heap.size) (hT5).size) ((hO6.op).base (B := wc.heap.size) (hT5).size) hA6 hN6⟩
        · have hT7 : Below wc.heap.size wc (v1.alloc (Obj.cells #[.int .i64 0, .int .i64 0, .slice none 0 0, .slice none 0 0] 36)) := hT1.alloc hT1.size _
          have hB7 := hB.on hT7
          have y70 := hB7.wd.c0
          have y71 := hB7.wd.c1
          have y72 := hB7.wd.c2
          have y73 := hB7.wd.c3
          have yb7 := hB7.big
          have yr70 := hB7.r0
          have yr71 := hB7.r1
          have hA7 : Bx0 (v1.alloc (Obj.cells #[.int .i64 0, .int .i64 0, .slice none 0 0, .slice none 0 0] 36)) wc.heap.size v1.heap.size := Bx0.new _ _ hT1.size
          have hR7 := tr1.below ((Below.refl _ _).alloc (Nat.le_refl _) (Obj.cells #[.int .i64 0, .int .i64 0, .slice none 0 0, .slice none 0 0] 36))
          have hQ7 := tq1.below ((Below.refl _ _).alloc (Nat.le_refl _) (Obj.cells #[.int .i64 0, .int .i64 0, .slice none 0 0, .slice none 0 0] 36))
          (go_simp; generalize (v1.alloc (Obj.cells #[.int .i64 0, .int .i64 0, .slice none 0 0, .slice none 0 0] 36)) = y7 at hT7 hB7 y70 y71 y72 y73 yb7 yr70 yr71 hA7 hR7 hQ7 ⊢; refine tr hK (fun hHeld => ?_); clear hK K)
          refine tc 4 fun K hK => ?_
          (go_simp; (go_at_call 14; refine (toVec_any x y _).mono ?_; rintro e v8 ⟨rfl, hb8⟩; have hT8 := hT7.trans (hb8.mono hT7.size); have hB8 := hB.on hT8; have y80 := hB8.wd.c0; have y81 := hB8.wd.c1; have y82 := hB8.wd.c2; have y83 := hB8.wd.c3; have yb8 := hB8.big; have yr80 := hB8.r0; have yr81 := hB8.r1; have hA8 := hA7.on hb8; have hR8 := hR7.below hb8; have hQ8 := hQ7.below hb8); (try go_wp2_with fail); refine tr hK (fun hHeld => ?_); clear hK K)
          refine tc 5 fun K hK => ?_
          (go_simp; (go_at_call 13; refine (sWorldPush_q T P _ n _ U _ m _ Q id x y p _ hR8.flat hQ8.flat (by omega) (by omega) hp _ HA.out).mono ?_; rintro e v9 ⟨a3, c3, a4, c4, rfl, hO9⟩; have hb9 := hO9.bel; have hT9 := hT8.trans (hb9.mono hT8.size); have hB9 := hB.on hT9; have y90 := hB9.wd.c0; have y91 := hB9.wd.c1; have y92 := hB9.wd.c2; have y93 := hB9.wd.c3; have yb9 := hB9.big; have yr90 := hB9.r0; have yr91 := hB9.r1; have hA9 := hA8.on hb9; have hN9 : ∀ b, ownX a3 n0 c3 a4 m0 c4 b → b ≠ v1.heap.size := fun b e => by have := hA8.lt; rcases e with e | e; (have := (hO9.ob.lt b e).1; omega); (have := (hO9.op.lt b e).1; omega)); (try go_wp2_with fail); refine tr hK (fun hHeld => ?_); clear hK K)
          refine tq 6 hHeld ?_
          refine tq 7 hHeld ?_
          refine tq 8 hHeld ?_
          have g0 := hA9.bl
          have g1 := hA9.lt
          have zz0 := hA9.c0
          have zz1 := hA9.c1
          have zz2 := hA9.c2
          have zz3 := hA9.c3
          have zzf := hA9.nf
          have j0 : ¬ v1.heap.size = w.heap.size := by have := hB.wd.big; omega
          have j0' : ¬ w.heap.size = v1.heap.size := fun e => j0 e.symm
          have j1 : ¬ v1.heap.size = w.heap.size + 1 := by have := hB.big; omega
          have j1' : ¬ w.heap.size + 1 = v1.heap.size := fun e => j1 e.symm
          refine tc 10 fun K hK => ?_
          (go_simp; refine tr hK (fun hHeld => ?_); clear hK K)
          refine tq 11 hHeld ?_
          refine wpAnyH_done (by kernel_rfl) ?_ _
          go_wp2_with fail
          go_meet
          have hs4 := setFr4 v9 (v1.heap.size) (.int .i64 T0) (.int .i64 P0) (.slice a3 n0 c3) (.slice a4 m0 c4)
          have hbg := hB.big
          have hwl := hB.wd.big
          have hTz := hT9.size
          exact ⟨_, _, _, a3, c3, a4, c4, rfl, rfl, hbg, (hB.on hT9).fr hs4 (fun b e => by subst e; omega), Vw.put ((hO9.ob).base (B := wc.heap.size) (hT8).size) ((hO9.op).base (B := wc.heap.size) (hT8).size) hA9 hN9⟩
      · have hT10 : Below wc.heap.size wc (wc.alloc (Obj.cells #[.int .i64 0, .int .i64 0, .slice none 0 0, .slice none 0 0] 36)).drew := ((Below.refl _ _).alloc (Nat.le_refl _) _).drew
        have hB10 := hB.on hT10
        have y100 := hB10.wd.c0
        have y101 := hB10.wd.c1
        have y102 := hB10.wd.c2
        have y103 := hB10.wd.c3
        have yb10 := hB10.big
        have yr100 := hB10.r0
        have yr101 := hB10.r1
        have hA10 : Bx0 (wc.alloc (Obj.cells #[.int .i64 0, .int .i64 0, .slice none 0 0, .slice none 0 0] 36)).drew wc.heap.size wc.heap.size := (Bx0.new wc _ (Nat.le_refl _)).drew
        (go_simp; generalize (wc.alloc (Obj.cells #[.int .i64 0, .int .i64 0, .slice none 0 0, .slice none 0 0] 36)).drew = y10 at hT10 hB10 y100 y101 y102 y103 yb10 yr100 yr101 hA10 ⊢; refine tr hK (fun hHeld => ?_); clear hK K)
        refine tc 1 fun K hK => ?_
        (go_simp; (go_at_call 7; refine (toWorld_any T P a n c U a' m c' Q _ (h.below (hB.wd.bel.trans (hT10.mono hB.wd.bel.size))) (h'.below (hB.wd.bel.trans (hT10.mono hB.wd.bel.size))) (by omega) (by omega)).mono ?_; rintro e v11 ⟨tb, td, ts, rfl, tl, tla, tlb, tlc, tr1, tq1, hb11⟩; have hT11 := hT10.trans (hb11.mono hT10.size); have hB11 := hB.on hT11; have y110 := hB11.wd.c0; have y111 := hB11.wd.c1; have y112 := hB11.wd.c2; have y113 := hB11.wd.c3; have yb11 := hB11.big; have yr110 := hB11.r0; have yr111 := hB11.r1; have hA11 := hA10.on hb11); (try go_wp2_with fail); refine tr hK (fun hHeld => ?_); clear hK K)
        refine tc 4 fun K hK => ?_
        (go_simp; (go_at_call 14; refine (toVec_any x y _).mono ?_; rintro e v12 ⟨rfl, hb12⟩; have hT12 := hT11.trans (hb12.mono hT11.size); have hB12 := hB.on hT12; have y120 := hB12.wd.c0; have y121 := hB12.wd.c1; have y122 := hB12.wd.c2; have y123 := hB12.wd.c3; have yb12 := hB12.big; have yr120 := hB12.r0; have yr121 := hB12.r1; have hA12 := hA11.on hb12; have hR12 := tr1.below hb12; have hQ12 := tq1.below hb12); (try go_wp2_with fail); refine tr hK (fun hHeld => ?_); clear hK K)
        refine tc 5 fun K hK => ?_
        (go_simp; (go_at_call 13; refine (sWorldPush_q T P _ n _ U _ m _ Q id x y p _ hR12.flat hQ12.flat (by omega) (by omega) hp _ HA.out).mono ?_; rintro e v13 ⟨a3, c3, a4, c4, rfl, hO13⟩; have hb13 := hO13.bel; have hT13 := hT12.trans (hb13.mono hT12.size); have hB13 := hB.on hT13; have y130 := hB13.wd.c0; have y131 := hB13.wd.c1; have y132 := hB13.wd.c2; have y133 := hB13.wd.c3; have yb13 := hB13.big; have yr130 := hB13.r0; have yr131 := hB13.r1; have hA13 := hA12.on hb13; have hN13 : ∀ b, ownX a3 n0 c3 a4 m0 c4 b → b ≠ wc.heap.size := fun b e => by have := hA12.lt; rcases e with e | e; (have := (hO13.ob.lt b e).1; omega); (have := (hO13.op.lt b e).1; omega)); (try go_wp2_with fail); refine tr hK (fun hHeld => ?_); clear hK K)
        refine tq 6 hHeld ?_
        refine tq 7 hHeld ?_
        refine tq 8 hHeld ?_
        have g0 := hA13.bl
        have g1 := hA13.lt
        have zz0 := hA13.c0
        have zz1 := hA13.c1
        have zz2 := hA13.c2
        have zz3 := hA13.c3
        have zzf := hA13.nf
        have j0 : ¬ wc.heap.size = w.heap.size := by have := hB.wd.big; omega
        have j0' : ¬ w.heap.size = wc.heap.size := fun e => j0 e.symm
        have j1 : ¬ wc.heap.size = w.heap.size + 1 := by have := hB.big; omega
        have j1' : ¬ w.heap.size + 1 = wc.heap.size := fun e => j1 e.symm
        refine tc 10 fun K hK => ?_
        (go_simp; refine tr hK (fun hHeld => ?_); clear hK K)
        refine tq 11 hHeld ?_
        refine wpAnyH_done (by kernel_rfl) ?_ _
        go_wp2_with fail
        go_meet
        have hs4 := setFr4 v13 (wc.heap.size) (.int .i64 T0) (.int .i64 P0) (.slice a3 n0 c3) (.slice a4 m0 c4)
        have hbg := hB.big
        have hwl := hB.wd.big
        have hTz := hT13.size
        exact ⟨_, _, _, a3, c3, a4, c4, rfl, rfl, hbg, (hB.on hT13).fr hs4 (fun b e => by subst e; omega), Vw.put ((hO13.ob).base (B := wc.heap.size) (hT12).size) ((hO13.op).base (B := wc.heap.size) (hT12).size) hA13 hN13⟩
    case rest =>
    clear hB y0 y1 y2 y3 yb yr0 yr1
    obtain ⟨lw, hw, bw, ew, fw, gw, iw, rfl, rfl, g1, hB, hW⟩ := hcut
    have y0 := hB.wd.c0
    have y1 := hB.wd.c1
    have y2 := hB.wd.c2
    have y3 := hB.wd.c3
    have yb := hB.big
    have yr0 := hB.r0
    have yr1 := hB.r1
    have xw0 := hW.c0
    have xw1 := hW.c1
    have xw2 := hW.c2
    have xw3 := hW.c3
    have xbw := hW.blt
    have xlw := hW.bl
    go_upto_region 6 with fail
    go_cut [10] (fun s0 wc => ∃ lx hx bx ex fx gx ix, s0 = .pointer (some ⟨bx, 0, none⟩) ∧ hw ≤ lx ∧ LfPush w T P a n c a' m c' x y wc ∧ Vw wc lw hw bw T0 P0 ew n0 fw U0 gw m0 iw Q0 ∧ Vw wc lx hx bx T P ex n fx U gx m ix Q)
    case first =>
      go_wp2_with (go_at_call 7; refine (toWorld_any T P a n c U a' m c' Q _ (h.below hB.wd.bel) (h'.below hB.wd.bel) (by omega) (by omega)).mono ?_; rintro e w2 ⟨b2, d2, s2, rfl, hl2, hl2a, hl2b, hl2c, hr2, hq2, hb2⟩)
      go_meet
      have hO := Vw.rows (T := T) (P := P) hr2 hq2 hl2 (by omega) (by omega) (by omega) hb2
      have hE : Below w2.heap.size w2 (w2.alloc (.cells #[.int .i64 T, .int .i64 P, .slice (some ⟨b2, 0, none⟩) n n, .slice (some ⟨d2, 0, none⟩) m m] 36)) := (Below.refl _ _).alloc (Nat.le_refl _) _
      exact ⟨_, _, _, _, _, _, _, rfl, hW.le, (hB.on hb2).on hE, (hW.on hb2).on hE, Vw.new hO⟩
    case rest =>
    clear hB y0 y1 y2 y3 yb yr0 yr1 hW xw0 xw1 xw2 xw3 xbw xlw
    obtain ⟨lx, hx, bx, ex, fx, gx, ix, rfl, g2, hB, hW, hX⟩ := hcut
    have y0 := hB.wd.c0
    have y1 := hB.wd.c1
    have y2 := hB.wd.c2
    have y3 := hB.wd.c3
    have yb := hB.big
    have yr0 := hB.r0
    have yr1 := hB.r1
    have xw0 := hW.c0
    have xw1 := hW.c1
    have xw2 := hW.c2
    have xw3 := hW.c3
    have xbw := hW.blt
    have xlw := hW.bl
    have xx0 := hX.c0
    have xx1 := hX.c1
    have xx2 := hX.c2
    have xx3 := hX.c3
    have xbx := hX.blt
    have xlx := hX.bl
    have g4 : lx < hx := Nat.lt_of_le_of_lt hX.bl hX.bh
    go_upto_region 7 with fail
    go_cut [11, 12] (fun s0 s1 wc => ∃ lg hg bg eg fg gg ig, s0 = .pointer (some ⟨bg, 0, none⟩) ∧ s1 = .int .i64 k0 ∧ hx ≤ lg ∧ LfPush w T P a n c a' m c' x y wc ∧ Vw wc lw hw bw T0 P0 ew n0 fw U0 gw m0 iw Q0 ∧ Vw wc lx hx bx T P ex n fx U gx m ix Q ∧ Vw wc lg hg bg T0 P0 eg n0 fg U0 gg m0 ig Q0)
    case first =>
      refine wp_region_held_drew (S := fun w' => w'.cell? ⟨w.heap.size, 0, none⟩ = some (.int .i64 T) ∧ w'.cell? ⟨w.heap.size, 1, none⟩ = some (.int .i64 P) ∧ w'.cell? ⟨w.heap.size, 2, none⟩ = some (.slice a n c) ∧ w'.cell? ⟨w.heap.size, 3, none⟩ = some (.slice a' m c') ∧ w'.cell? ⟨w.heap.size + 1, 0, none⟩ = some (.int .i64 x) ∧ w'.cell? ⟨w.heap.size + 1, 1, none⟩ = some (.int .i64 y) ∧ w'.cell? ⟨bx, 0, none⟩ = some (.int .i64 T) ∧ w'.cell? ⟨bx, 1, none⟩ = some (.int .i64 P) ∧ w'.cell? ⟨bx, 2, none⟩ = some (.slice ex n fx) ∧ w'.cell? ⟨bx, 3, none⟩ = some (.slice gx m ix)) (by kernel_rfl) ?_ (fun hHeld => ?_)
      · (try dsimp only)
        (first | (go_simp; done) | (go_keep; done))
      refine tq 0 hHeld ?_
      refine tq 1 hHeld ?_
      refine tq 2 hHeld ?_
      refine wpAnyH_ready (rs := [3, 8]) (by kernel_rfl) (by simp) ?_
      refine AllReadyH.cons rfl (fun K hK => ?_) (AllReadyH.cons rfl (fun K hK => ?_) AllReadyH.nil)
      · (go_simp; (go_at_call 14; refine (toVec_any x y _).mono ?_; rintro e v1 ⟨rfl, hb1⟩; have hT1 := (Below.refl wc.heap.size wc).trans (hb1.ofDr.mono (Nat.le_refl _)); have hB1 := hB.on hT1; have y10 := hB1.wd.c0; have y11 := hB1.wd.c1; have y12 := hB1.wd.c2; have y13 := hB1.wd.c3; have yb1 := hB1.big; have yr10 := hB1.r0; have yr11 := hB1.r1; have hX1 := hX.on hT1; have x10 := hX1.c0; have x11 := hX1.c1; have x12 := hX1.c2; have x13 := hX1.c3; have xb1 := hX1.blt; have xl1 := hX1.bl); (try go_wp2_with fail); refine tr hK (fun hHeld => ?_); clear hK K)
        refine wpAnyH_ready (rs := [4, 8]) (by kernel_rfl) (by simp) ?_
        refine AllReadyH.cons rfl (fun K hK => ?_) (AllReadyH.cons rfl (fun K hK => ?_) AllReadyH.nil)
        · (go_simp; (have hXc := hX.on hT1; go_at_call 15; refine (worldPush_q T P _ n _ U _ m _ Q id x y p _ hXc.fb hXc.fp (by omega) (by omega) hp _ HA.out).mono ?_; rintro e v2 ⟨a3, c3, a4, c4, rfl, hO2⟩; have hb2 := hO2.bel; have hT2 := hT1.trans (hb2.mono hT1.size); have hB2 := hB.on hT2; have y20 := hB2.wd.c0; have y21 := hB2.wd.c1; have y22 := hB2.wd.c2; have y23 := hB2.wd.c3; have yb2 := hB2.big; have yr20 := hB2.r0; have yr21 := hB2.r1; have hX2 := hX.on hT2; have x20 := hX2.c0; have x21 := hX2.c1; have x22 := hX2.c2; have x23 := hX2.c3; have xb2 := hX2.blt; have xl2 := hX2.bl); (try go_wp2_with fail); refine tr hK (fun hHeld => ?_); clear hK K)
          refine tq 5 hHeld ?_
          refine tq 6 hHeld ?_
          refine tq 7 hHeld ?_
          refine tc 8 fun K hK => ?_
          have hT3 : Below wc.heap.size wc (v2.alloc (Obj.cells #[.int .i64 0, .int .i64 0, .slice none 0 0, .slice none 0 0] 36)) := hT2.alloc hT2.size _
          have hB3 := hB.on hT3
          have y30 := hB3.wd.c0
          have y31 := hB3.wd.c1
          have y32 := hB3.wd.c2
          have y33 := hB3.wd.c3
          have yb3 := hB3.big
          have yr30 := hB3.r0
          have yr31 := hB3.r1
          have hX3 := hX.on hT3
          have x30 := hX3.c0
          have x31 := hX3.c1
          have x32 := hX3.c2
          have x33 := hX3.c3
          have xb3 := hX3.blt
          have xl3 := hX3.bl
          have hA3 : Bx0 (v2.alloc (Obj.cells #[.int .i64 0, .int .i64 0, .slice none 0 0, .slice none 0 0] 36)) wc.heap.size v2.heap.size := Bx0.new _ _ hT2.size
          have hN3 : ∀ b, ownX a3 n0 c3 a4 m0 c4 b → b ≠ v2.heap.size := fun b e => by rcases e with e | e; (have := (hO2.ob.lt b e).2; omega); (have := (hO2.op.lt b e).2; omega)
          have hO3 := hO2.on ((Below.refl _ _).alloc (Nat.le_refl _) (Obj.cells #[.int .i64 0, .int .i64 0, .slice none 0 0, .slice none 0 0] 36))
          (go_simp; generalize (v2.alloc (Obj.cells #[.int .i64 0, .int .i64 0, .slice none 0 0, .slice none 0 0] 36)) = y3 at hT3 hB3 y30 y31 y32 y33 yb3 yr30 yr31 hX3 x30 x31 x32 x33 xb3 xl3 hA3 hO3 ⊢; refine tr hK (fun hHeld => ?_); clear hK K)
          have g0 := hA3.bl
          have g1 := hA3.lt
          have zz0 := hA3.c0
          have zz1 := hA3.c1
          have zz2 := hA3.c2
          have zz3 := hA3.c3
          have zzf := hA3.nf
          have j0 : ¬ v2.heap.size = w.heap.size := by have := hB.wd.big; omega
          have j0' : ¬ w.heap.size = v2.heap.size := fun e => j0 e.symm
          have j1 : ¬ v2.heap.size = w.heap.size + 1 := by have := hB.big; omega
          have j1' : ¬ w.heap.size + 1 = v2.heap.size := fun e => j1 e.symm
          have j2 : ¬ v2.heap.size = bx := by have := hX.blt; omega
          have j2' : ¬ bx = v2.heap.size := fun e => j2 e.symm
          refine tc 9 fun K hK => ?_
          (go_simp; refine tr hK (fun hHeld => ?_); clear hK K)
          refine tq 10 hHeld ?_
          refine wpAnyH_done (by kernel_rfl) ?_ _
          go_wp2_with fail
          go_meet
          have hs4 := setFr4 y3 (v2.heap.size) (.int .i64 T0) (.int .i64 P0) (.slice a3 n0 c3) (.slice a4 m0 c4)
          have hbg := hB.big
          have hwl := hB.wd.big
          have hTz := hT3.size
          exact ⟨_, _, _, a3, c3, a4, c4, rfl, rfl, hX.le, (hB.on hT3).fr hs4 (fun b e => by subst e; omega), ((hW.on hT3).fr hs4 (fun b e => by subst e; have := hW.le; have := hW.bh; omega)), ((hX.on hT3).fr hs4 (fun b e => by subst e; have := hX.le; have := hX.bh; omega)), Vw.put ((hO3.ob).base (B := wc.heap.size) (hT1).size) ((hO3.op).base (B := wc.heap.size) (hT1).size) hA3 hN3⟩
        · have hT4 : Below wc.heap.size wc (v1.alloc (Obj.cells #[.int .i64 0, .int .i64 0, .slice none 0 0, .slice none 0 0] 36)) := hT1.alloc hT1.size _
          have hB4 := hB.on hT4
          have y40 := hB4.wd.c0
          have y41 := hB4.wd.c1
          have y42 := hB4.wd.c2
          have y43 := hB4.wd.c3
          have yb4 := hB4.big
          have yr40 := hB4.r0
          have yr41 := hB4.r1
          have hX4 := hX.on hT4
          have x40 := hX4.c0
          have x41 := hX4.c1
          have x42 := hX4.c2
          have x43 := hX4.c3
          have xb4 := hX4.blt
          have xl4 := hX4.bl
          have hA4 : Bx0 (v1.alloc (Obj.cells #[.int .i64 0, .int .i64 0, .slice none 0 0, .slice none 0 0] 36)) wc.heap.size v1.heap.size := Bx0.new _ _ hT1.size
          (go_simp; generalize (v1.alloc (Obj.cells #[.int .i64 0, .int .i64 0, .slice none 0 0, .slice none 0 0] 36)) = y4 at hT4 hB4 y40 y41 y42 y43 yb4 yr40 yr41 hX4 x40 x41 x42 x43 xb4 xl4 hA4 ⊢; refine tr hK (fun hHeld => ?_); clear hK K)
          refine tc 4 fun K hK => ?_
          (go_simp; (have hXc := hX.on hT4; go_at_call 15; refine (worldPush_q T P _ n _ U _ m _ Q id x y p _ hXc.fb hXc.fp (by omega) (by omega) hp _ HA.out).mono ?_; rintro e v5 ⟨a3, c3, a4, c4, rfl, hO5⟩; have hb5 := hO5.bel; have hT5 := hT4.trans (hb5.mono hT4.size); have hB5 := hB.on hT5; have y50 := hB5.wd.c0; have y51 := hB5.wd.c1; have y52 := hB5.wd.c2; have y53 := hB5.wd.c3; have yb5 := hB5.big; have yr50 := hB5.r0; have yr51 := hB5.r1; have hX5 := hX.on hT5; have x50 := hX5.c0; have x51 := hX5.c1; have x52 := hX5.c2; have x53 := hX5.c3; have xb5 := hX5.blt; have xl5 := hX5.bl; have hA5 := hA4.on hb5; have hN5 : ∀ b, ownX a3 n0 c3 a4 m0 c4 b → b ≠ v1.heap.size := fun b e => by have := hA4.lt; rcases e with e | e; (have := (hO5.ob.lt b e).1; omega); (have := (hO5.op.lt b e).1; omega)); (try go_wp2_with fail); refine tr hK (fun hHeld => ?_); clear hK K)
          refine tq 5 hHeld ?_
          refine tq 6 hHeld ?_
          refine tq 7 hHeld ?_
          have g0 := hA5.bl
          have g1 := hA5.lt
          have zz0 := hA5.c0
          have zz1 := hA5.c1
          have zz2 := hA5.c2
          have zz3 := hA5.c3
          have zzf := hA5.nf
          have j0 : ¬ v1.heap.size = w.heap.size := by have := hB.wd.big; omega
          have j0' : ¬ w.heap.size = v1.heap.size := fun e => j0 e.symm
          have j1 : ¬ v1.heap.size = w.heap.size + 1 := by have := hB.big; omega
          have j1' : ¬ w.heap.size + 1 = v1.heap.size := fun e => j1 e.symm
          have j2 : ¬ v1.heap.size = bx := by have := hX.blt; omega
          have j2' : ¬ bx = v1.heap.size := fun e => j2 e.symm
          refine tc 9 fun K hK => ?_
          (go_simp; refine tr hK (fun hHeld => ?_); clear hK K)
          refine tq 10 hHeld ?_
          refine wpAnyH_done (by kernel_rfl) ?_ _
          go_wp2_with fail
          go_meet
          have hs4 := setFr4 v5 (v1.heap.size) (.int .i64 T0) (.int .i64 P0) (.slice a3 n0 c3) (.slice a4 m0 c4)
          have hbg := hB.big
          have hwl := hB.wd.big
          have hTz := hT5.size
          exact ⟨_, _, _, a3, c3, a4, c4, rfl, rfl, hX.le, (hB.on hT5).fr hs4 (fun b e => by subst e; omega), ((hW.on hT5).fr hs4 (fun b e => by subst e; have := hW.le; have := hW.bh; omega)), ((hX.on hT5).fr hs4 (fun b e => by subst e; have := hX.le; have := hX.bh; omega)), Vw.put ((hO5.ob).base (B := wc.heap.size) (hT4).size) ((hO5.op).base (B := wc.heap.size) (hT4).size) hA5 hN5⟩
      · have hT6 : Below wc.heap.size wc (wc.alloc (Obj.cells #[.int .i64 0, .int .i64 0, .slice none 0 0, .slice none 0 0] 36)).drew := ((Below.refl _ _).alloc (Nat.le_refl _) _).drew
        have hB6 := hB.on hT6
        have y60 := hB6.wd.c0
        have y61 := hB6.wd.c1
        have y62 := hB6.wd.c2
        have y63 := hB6.wd.c3
        have yb6 := hB6.big
        have yr60 := hB6.r0
        have yr61 := hB6.r1
        have hX6 := hX.on hT6
        have x60 := hX6.c0
        have x61 := hX6.c1
        have x62 := hX6.c2
        have x63 := hX6.c3
        have xb6 := hX6.blt
        have xl6 := hX6.bl
        have hA6 : Bx0 (wc.alloc (Obj.cells #[.int .i64 0, .int .i64 0, .slice none 0 0, .slice none 0 0] 36)).drew wc.heap.size wc.heap.size := (Bx0.new wc _ (Nat.le_refl _)).drew
        (go_simp; generalize (wc.alloc (Obj.cells #[.int .i64 0, .int .i64 0, .slice none 0 0, .slice none 0 0] 36)).drew = y6 at hT6 hB6 y60 y61 y62 y63 yb6 yr60 yr61 hX6 x60 x61 x62 x63 xb6 xl6 hA6 ⊢; refine tr hK (fun hHeld => ?_); clear hK K)
        refine tc 3 fun K hK => ?_
        (go_simp; (go_at_call 14; refine (toVec_any x y _).mono ?_; rintro e v7 ⟨rfl, hb7⟩; have hT7 := hT6.trans (hb7.mono hT6.size); have hB7 := hB.on hT7; have y70 := hB7.wd.c0; have y71 := hB7.wd.c1; have y72 := hB7.wd.c2; have y73 := hB7.wd.c3; have yb7 := hB7.big; have yr70 := hB7.r0; have yr71 := hB7.r1; have hX7 := hX.on hT7; have x70 := hX7.c0; have x71 := hX7.c1; have x72 := hX7.c2; have x73 := hX7.c3; have xb7 := hX7.blt; have xl7 := hX7.bl; have hA7 := hA6.on hb7); (try go_wp2_with fail); refine tr hK (fun hHeld => ?_); clear hK K)
        refine tc 4 fun K hK => ?_
        (go_simp; (have hXc := hX.on hT7; go_at_call 15; refine (worldPush_q T P _ n _ U _ m _ Q id x y p _ hXc.fb hXc.fp (by omega) (by omega) hp _ HA.out).mono ?_; rintro e v8 ⟨a3, c3, a4, c4, rfl, hO8⟩; have hb8 := hO8.bel; have hT8 := hT7.trans (hb8.mono hT7.size); have hB8 := hB.on hT8; have y80 := hB8.wd.c0; have y81 := hB8.wd.c1; have y82 := hB8.wd.c2; have y83 := hB8.wd.c3; have yb8 := hB8.big; have yr80 := hB8.r0; have yr81 := hB8.r1; have hX8 := hX.on hT8; have x80 := hX8.c0; have x81 := hX8.c1; have x82 := hX8.c2; have x83 := hX8.c3; have xb8 := hX8.blt; have xl8 := hX8.bl; have hA8 := hA7.on hb8; have hN8 : ∀ b, ownX a3 n0 c3 a4 m0 c4 b → b ≠ wc.heap.size := fun b e => by have := hA7.lt; rcases e with e | e; (have := (hO8.ob.lt b e).1; omega); (have := (hO8.op.lt b e).1; omega)); (try go_wp2_with fail); refine tr hK (fun hHeld => ?_); clear hK K)
        refine tq 5 hHeld ?_
        refine tq 6 hHeld ?_
        refine tq 7 hHeld ?_
        have g0 := hA8.bl
        have g1 := hA8.lt
        have zz0 := hA8.c0
        have zz1 := hA8.c1
        have zz2 := hA8.c2
        have zz3 := hA8.c3
        have zzf := hA8.nf
        have j0 : ¬ wc.heap.size = w.heap.size := by have := hB.wd.big; omega
        have j0' : ¬ w.heap.size = wc.heap.size := fun e => j0 e.symm
        have j1 : ¬ wc.heap.size = w.heap.size + 1 := by have := hB.big; omega
        have j1' : ¬ w.heap.size + 1 = wc.heap.size := fun e => j1 e.symm
        have j2 : ¬ wc.heap.size = bx := by have := hX.blt; omega
        have j2' : ¬ bx = wc.heap.size := fun e => j2 e.symm
        refine tc 9 fun K hK => ?_
        (go_simp; refine tr hK (fun hHeld => ?_); clear hK K)
        refine tq 10 hHeld ?_
        refine wpAnyH_done (by kernel_rfl) ?_ _
        go_wp2_with fail
        go_meet
        have hs4 := setFr4 v8 (wc.heap.size) (.int .i64 T0) (.int .i64 P0) (.slice a3 n0 c3) (.slice a4 m0 c4)
        have hbg := hB.big
        have hwl := hB.wd.big
        have hTz := hT8.size
        exact ⟨_, _, _, a3, c3, a4, c4, rfl, rfl, hX.le, (hB.on hT8).fr hs4 (fun b e => by subst e; omega), ((hW.on hT8).fr hs4 (fun b e => by subst e; have := hW.le; have := hW.bh; omega)), ((hX.on hT8).fr hs4 (fun b e => by subst e; have := hX.le; have := hX.bh; omega)), Vw.put ((hO8.ob).base (B := wc.heap.size) (hT7).size) ((hO8.op).base (B := wc.heap.size) (hT7).size) hA8 hN8⟩
    case rest =>
    clear hB y0 y1 y2 y3 yb yr0 yr1 hW xw0 xw1 xw2 xw3 xbw xlw hX xx0 xx1 xx2 xx3 xbx xlx
    obtain ⟨lg, hg, bg, eg, fg, gg, ig, rfl, rfl, g3, hB, hW, hX, hG⟩ := hcut
    have y0 := hB.wd.c0
    have y1 := hB.wd.c1
    have y2 := hB.wd.c2
    have y3 := hB.wd.c3
    have yb := hB.big
    have yr0 := hB.r0
    have yr1 := hB.r1
    have xw0 := hW.c0
    have xw1 := hW.c1
    have xw2 := hW.c2
    have xw3 := hW.c3
    have xbw := hW.blt
    have xlw := hW.bl
    have xx0 := hX.c0
    have xx1 := hX.c1
    have xx2 := hX.c2
    have xx3 := hX.c3
    have xbx := hX.blt
    have xlx := hX.bl
    have xg0 := hG.c0
    have xg1 := hG.c1
    have xg2 := hG.c2
    have xg3 := hG.c3
    have xbg := hG.blt
    have xlg := hG.bl
    go_upto_region 8 with fail
    go_cut [50] (fun s0 wc => s0 = .bool false ∧ LfPush w T P a n c a' m c' x y wc ∧ Vw wc lw hw bw T0 P0 ew n0 fw U0 gw m0 iw Q0 ∧ Vw wc lx hx bx T P ex n fx U gx m ix Q ∧ Vw wc lg hg bg T0 P0 eg n0 fg U0 gg m0 ig Q0)
    case first =>
      go_wp2_with (go_at_call 10; refine (eqWorld_same T0 P0 _ _ n0 _ _ U0 _ _ m0 _ _ Q0 _ hG.fb hW.fb hG.fp hW.fp hn0 hm0).mono ?_; rintro e w8 ⟨rfl, hb8⟩)
      go_meet
      exact ⟨by simp, hB.on hb8, hW.on hb8, hX.on hb8, hG.on hb8⟩
    case rest =>
    clear hB y0 y1 y2 y3 yb yr0 yr1 hW xw0 xw1 xw2 xw3 xbw xlw hX xx0 xx1 xx2 xx3 xbx xlx hG xg0 xg1 xg2 xg3 xbg xlg
    obtain ⟨rfl, hB, hW, hX, hG⟩ := hcut
    have y0 := hB.wd.c0
    have y1 := hB.wd.c1
    have y2 := hB.wd.c2
    have y3 := hB.wd.c3
    have yb := hB.big
    have yr0 := hB.r0
    have yr1 := hB.r1
    have xw0 := hW.c0
    have xw1 := hW.c1
    have xw2 := hW.c2
    have xw3 := hW.c3
    have xbw := hW.blt
    have xlw := hW.bl
    have xx0 := hX.c0
    have xx1 := hX.c1
    have xx2 := hX.c2
    have xx3 := hX.c3
    have xbx := hX.blt
    have xlx := hX.bl
    have xg0 := hG.c0
    have xg1 := hG.c1
    have xg2 := hG.c2
    have xg3 := hG.c3
    have xbg := hG.blt
    have xlg := hG.bl
    go_upto_region 10 with fail
    go_cut [55] (fun s0 wc => s0 = .bool false ∧ LfPush w T P a n c a' m c' x y wc ∧ Vw wc lw hw bw T0 P0 ew n0 fw U0 gw m0 iw Q0 ∧ Vw wc lx hx bx T P ex n fx U gx m ix Q ∧ Vw wc lg hg bg T0 P0 eg n0 fg U0 gg m0 ig Q0)
    case first =>
      refine wp_region_held_drew (S := fun w' => w'.cell? ⟨w.heap.size, 0, none⟩ = some (.int .i64 T) ∧ w'.cell? ⟨w.heap.size, 1, none⟩ = some (.int .i64 P) ∧ w'.cell? ⟨w.heap.size, 2, none⟩ = some (.slice a n c) ∧ w'.cell? ⟨w.heap.size, 3, none⟩ = some (.slice a' m c') ∧ w'.cell? ⟨bx, 0, none⟩ = some (.int .i64 T) ∧ w'.cell? ⟨bx, 1, none⟩ = some (.int .i64 P) ∧ w'.cell? ⟨bx, 2, none⟩ = some (.slice ex n fx) ∧ w'.cell? ⟨bx, 3, none⟩ = some (.slice gx m ix)) (by kernel_rfl) ?_ (fun hHeld => ?_)
      · (try dsimp only)
        (first | (go_simp; done) | (go_keep; done))
      refine tq 0 hHeld ?_
      refine tq 1 hHeld ?_
      (refine tc 2 fun K hK => ?_; go_simp; (go_at_call 7; refine (toWorld_any T P a n c U a' m c' Q _ (h.below hB.wd.bel.drew) (h'.below hB.wd.bel.drew) (by omega) (by omega)).mono ?_; rintro e w6 ⟨b6, d6, s6, rfl, hl6, hl6a, hl6b, hl6c, hr6, hq6, hb6⟩; have hB6 := hB.on hb6.ofDr; have hX6 := hX.on hb6.ofDr; have y60 := hB6.wd.c0; have y61 := hB6.wd.c1; have y62 := hB6.wd.c2; have y63 := hB6.wd.c3; have yb6 := hB6.big; have yr60 := hB6.r0; have yr61 := hB6.r1; have x6x0 := hX6.c0; have x6x1 := hX6.c1; have x6x2 := hX6.c2; have x6x3 := hX6.c3; have xb6x := hX6.blt; have xl6x := hX6.bl); (try go_wp2_with fail); refine tr hK (fun hHeld => ?_); clear hK K)
      (refine tc 3 fun K hK => ?_; go_simp; (go_at_call 10; refine (eqWorld_same T P _ _ n _ _ U _ _ m _ _ Q _ hX6.fb hr6.flat hX6.fp hq6.flat (by omega) (by omega)).mono ?_; rintro e w7 ⟨rfl, hb7⟩; have hB7 := hB6.on hb7; have hX7 := hX6.on hb7; have y70 := hB7.wd.c0; have y71 := hB7.wd.c1; have y72 := hB7.wd.c2; have y73 := hB7.wd.c3; have yb7 := hB7.big; have yr70 := hB7.r0; have yr71 := hB7.r1; have x7x0 := hX7.c0; have x7x1 := hX7.c1; have x7x2 := hX7.c2; have x7x3 := hX7.c3; have xb7x := hX7.blt; have xl7x := hX7.bl); (try go_wp2_with fail); refine tr hK (fun hHeld => ?_); clear hK K)
      refine tq 4 hHeld ?_
      refine wpAnyH_done (by kernel_rfl) ?_ _
      go_wp2_with fail
      go_meet
      have hb67 := (hb6.trans (hb7.mono hb6.size)).ofDr
      exact ⟨rfl, hB7, hW.on hb67, hX7, hG.on hb67⟩
    case rest =>
    clear hB y0 y1 y2 y3 yb yr0 yr1 hW xw0 xw1 xw2 xw3 xbw xlw hX xx0 xx1 xx2 xx3 xbx xlx hG xg0 xg1 xg2 xg3 xbg xlg
    obtain ⟨rfl, hB, hW, hX, hG⟩ := hcut
    have y0 := hB.wd.c0
    have y1 := hB.wd.c1
    have y2 := hB.wd.c2
    have y3 := hB.wd.c3
    have yb := hB.big
    have yr0 := hB.r0
    have yr1 := hB.r1
    have xw0 := hW.c0
    have xw1 := hW.c1
    have xw2 := hW.c2
    have xw3 := hW.c3
    have xbw := hW.blt
    have xlw := hW.bl
    have xx0 := hX.c0
    have xx1 := hX.c1
    have xx2 := hX.c2
    have xx3 := hX.c3
    have xbx := hX.blt
    have xlx := hX.bl
    have xg0 := hG.c0
    have xg1 := hG.c1
    have xg2 := hG.c2
    have xg3 := hG.c3
    have xbg := hG.blt
    have xlg := hG.bl
    go_upto_region 13 with fail
    go_cut [13] (fun s0 wc => s0 = .int .i64 (1 + (n : Int) * 12 + (m : Int) * 2) ∧ LfPush w T P a n c a' m c' x y wc ∧ Vw wc lw hw bw T0 P0 ew n0 fw U0 gw m0 iw Q0 ∧ Vw wc lg hg bg T0 P0 eg n0 fg U0 gg m0 ig Q0)
    case first =>
      go_wp2_with (go_at_call 11; refine (markWorld_own T P lx _ n _ U _ m _ Q _ hX.ob hX.op (by omega) (by omega)).mono ?_; rintro e w2 ⟨rfl, hf2, _, _⟩)
      go_meet
      have q1 := hW.bl
      have q2 := hW.bh
      exact ⟨rfl, hB.fr hf2 (fun b e => by have := hX.xlt b e; omega), hW.fr hf2 (fun b e => by have := hX.xlt b e; omega), hG.fr hf2 (fun b e => by have := hX.xlt b e; omega)⟩
    case rest =>
    clear hB y0 y1 y2 y3 yb yr0 yr1 hW xw0 xw1 xw2 xw3 xbw xlw hX xx0 xx1 xx2 xx3 xbx xlx hG xg0 xg1 xg2 xg3 xbg xlg
    obtain ⟨rfl, hB, hW, hG⟩ := hcut
    have y0 := hB.wd.c0
    have y1 := hB.wd.c1
    have y2 := hB.wd.c2
    have y3 := hB.wd.c3
    have yb := hB.big
    have yr0 := hB.r0
    have yr1 := hB.r1
    have xw0 := hW.c0
    have xw1 := hW.c1
    have xw2 := hW.c2
    have xw3 := hW.c3
    have xbw := hW.blt
    have xlw := hW.bl
    have xg0 := hG.c0
    have xg1 := hG.c1
    have xg2 := hG.c2
    have xg3 := hG.c3
    have xbg := hG.blt
    have xlg := hG.bl
    have hk0 : ¬ (1 + (n : Int) * 12 + (m : Int) * 2 < 0) := by omega
    go_upto_region 14 with fail
    go_cut [71] (fun s0 wc => s0 = .bool false ∧ LfPush w T P a n c a' m c' x y wc ∧ Vw wc lw hw bw T0 P0 ew n0 fw U0 gw m0 iw Q0 ∧ Vw wc lg hg bg T0 P0 eg n0 fg U0 gg m0 ig Q0)
    case first =>
      go_wp2_with (go_at_call 10; refine (eqWorld_same T0 P0 _ _ n0 _ _ U0 _ _ m0 _ _ Q0 _ hG.fb hW.fb hG.fp hW.fp hn0 hm0).mono ?_; rintro e w8 ⟨rfl, hb8⟩)
      go_meet
      exact ⟨by simp, hB.on hb8, hW.on hb8, hG.on hb8⟩
    case rest =>
    clear hB y0 y1 y2 y3 yb yr0 yr1 hW xw0 xw1 xw2 xw3 xbw xlw hG xg0 xg1 xg2 xg3 xbg xlg
    obtain ⟨rfl, hB, hW, hG⟩ := hcut
    have y0 := hB.wd.c0
    have y1 := hB.wd.c1
    have y2 := hB.wd.c2
    have y3 := hB.wd.c3
    have yb := hB.big
    have yr0 := hB.r0
    have yr1 := hB.r1
    have xw0 := hW.c0
    have xw1 := hW.c1
    have xw2 := hW.c2
    have xw3 := hW.c3
    have xbw := hW.blt
    have xlw := hW.bl
    have xg0 := hG.c0
    have xg1 := hG.c1
    have xg2 := hG.c2
    have xg3 := hG.c3
    have xbg := hG.blt
    have xlg := hG.bl
    go_upto_region 17 with fail
    go_cut [14] (fun s0 wc => s0 = .int .i64 (1 + (n0 : Int) * 12 + (m0 : Int) * 2) ∧ LfPush w T P a n c a' m c' x y wc ∧ Vw wc lw hw bw T0 P0 ew n0 fw U0 gw m0 iw Q0 ∧ Vw wc lg hg bg T0 P0 eg n0 fg (fun q => 1 + (q : Int)) gg m0 ig (fun q => 1 + (n0 : Int) * 12 + (q : Int)))
    case first =>
      go_wp2_with (go_at_call 11; refine (markWorld_own T0 P0 lg _ n0 _ U0 _ m0 _ Q0 _ hG.ob hG.op hn0 hm0).mono ?_; rintro e w2 ⟨rfl, hf2, o2, p2⟩)
      go_meet
      have q1 := hW.bl
      have q2 := hW.bh
      exact ⟨rfl, hB.fr hf2 (fun b e => by have := hG.xlt b e; omega), hW.fr hf2 (fun b e => by have := hG.xlt b e; omega), hG.mark hf2 o2 p2⟩
    case rest =>
    clear hB y0 y1 y2 y3 yb yr0 yr1 hW xw0 xw1 xw2 xw3 xbw xlw hG xg0 xg1 xg2 xg3 xbg xlg
    obtain ⟨rfl, hB, hW, hG⟩ := hcut
    have y0 := hB.wd.c0
    have y1 := hB.wd.c1
    have y2 := hB.wd.c2
    have y3 := hB.wd.c3
    have yb := hB.big
    have yr0 := hB.r0
    have yr1 := hB.r1
    have xw0 := hW.c0
    have xw1 := hW.c1
    have xw2 := hW.c2
    have xw3 := hW.c3
    have xbw := hW.blt
    have xlw := hW.bl
    have xg0 := hG.c0
    have xg1 := hG.c1
    have xg2 := hG.c2
    have xg3 := hG.c3
    have xbg := hG.blt
    have xlg := hG.bl
    have hk1 : ¬ ((1 + (n0 : Int) * 12 + (m0 : Int) * 2) < 0) := by omega
    go_upto_region 19 with fail
    go_cut [15] (fun s0 wc => s0 = .int .i64 (1 + (n0 : Int) * 12 + (m0 : Int) * 2) ∧ LfPush w T P a n c a' m c' x y wc ∧ Vw wc lw hw bw T0 P0 ew n0 fw U0 gw m0 iw Q0 ∧ Vw wc lg hg bg T0 P0 eg n0 fg (fun q => 1 + (q : Int)) gg m0 ig (fun q => 1 + (n0 : Int) * 12 + (q : Int)))
    case first =>
      go_wp2_with (go_at_call 12; refine (heldWorld_own T0 P0 _ n0 _ _ m0 _ _ hG.fb hG.fp hn0 hm0).mono ?_; rintro e w2 ⟨rfl, hb2⟩)
      go_meet
      exact ⟨rfl, hB.on hb2, hW.on hb2, hG.on hb2⟩
    case rest =>
    clear hB y0 y1 y2 y3 yb yr0 yr1 hW xw0 xw1 xw2 xw3 xbw xlw hG xg0 xg1 xg2 xg3 xbg xlg
    obtain ⟨rfl, hB, hW, hG⟩ := hcut
    have y0 := hB.wd.c0
    have y1 := hB.wd.c1
    have y2 := hB.wd.c2
    have y3 := hB.wd.c3
    have yb := hB.big
    have yr0 := hB.r0
    have yr1 := hB.r1
    have xw0 := hW.c0
    have xw1 := hW.c1
    have xw2 := hW.c2
    have xw3 := hW.c3
    have xbw := hW.blt
    have xlw := hW.bl
    have xg0 := hG.c0
    have xg1 := hG.c1
    have xg2 := hG.c2
    have xg3 := hG.c3
    have xbg := hG.blt
    have xlg := hG.bl
    go_upto_region 24 with fail
    go_cut [16, 17] (fun s0 s1 wc => ∃ lh hh bh eh fh gh ih, s0 = .pointer (some ⟨bh, 0, none⟩) ∧ s1 = .int .i64 k0 ∧ LfPush w T P a n c a' m c' x y wc ∧ Vw wc lw hw bw T0 P0 ew n0 fw U0 gw m0 iw Q0 ∧ Vw wc lg hg bg T0 P0 eg n0 fg (fun q => 1 + (q : Int)) gg m0 ig (fun q => 1 + (n0 : Int) * 12 + (q : Int)) ∧ Vw wc lh hh bh T0 P0 eh n0 fh U0 gh m0 ih Q0)
    case first =>
      refine wp_region_held_drew (S := fun w' => w'.cell? ⟨w.heap.size, 0, none⟩ = some (.int .i64 T) ∧ w'.cell? ⟨w.heap.size, 1, none⟩ = some (.int .i64 P) ∧ w'.cell? ⟨w.heap.size, 2, none⟩ = some (.slice a n c) ∧ w'.cell? ⟨w.heap.size, 3, none⟩ = some (.slice a' m c') ∧ w'.cell? ⟨w.heap.size + 1, 0, none⟩ = some (.int .i64 x) ∧ w'.cell? ⟨w.heap.size + 1, 1, none⟩ = some (.int .i64 y)) (by kernel_rfl) ?_ (fun hHeld => ?_)
      · (try dsimp only)
        (first | (go_simp; done) | (go_keep; done))
      refine tq 0 hHeld ?_
      refine tq 2 hHeld ?_
      refine tq 3 hHeld ?_
      refine wpAnyH_ready (rs := [1, 9]) (by kernel_rfl) (by simp) ?_
      refine AllReadyH.cons rfl (fun K hK => ?_) (AllReadyH.cons rfl (fun K hK => ?_) AllReadyH.nil)
      · (go_simp; (go_at_call 7; refine (toWorld_any T P a n c U a' m c' Q _ (h.below (hB.wd.bel.trans ((Below.drew (Below.refl wc.heap.size wc)).mono hB.wd.bel.size))) (h'.below (hB.wd.bel.trans ((Below.drew (Below.refl wc.heap.size wc)).mono hB.wd.bel.size))) (by omega) (by omega)).mono ?_; rintro e v1 ⟨tb, td, ts, rfl, tl, tla, tlb, tlc, tr1, tq1, hb1⟩; have hT1 := (Below.refl wc.heap.size wc).trans (hb1.ofDr.mono (Nat.le_refl _)); have hB1 := hB.on hT1; have y10 := hB1.wd.c0; have y11 := hB1.wd.c1; have y12 := hB1.wd.c2; have y13 := hB1.wd.c3; have yb1 := hB1.big; have yr10 := hB1.r0; have yr11 := hB1.r1); (try go_wp2_with fail); refine tr hK (fun hHeld => ?_); clear hK K)
        refine wpAnyH_ready (rs := [4, 9]) (by kernel_rfl) (by simp) ?_
        refine AllReadyH.cons rfl (fun K hK => ?_) (AllReadyH.cons rfl (fun K hK => ?_) AllReadyH.nil)
        · (go_simp; (go_at_call 14; refine (toVec_any x y _).mono ?_; rintro e v2 ⟨rfl, hb2⟩; have hT2 := hT1.trans (hb2.mono hT1.size); have hB2 := hB.on hT2; have y20 := hB2.wd.c0; have y21 := hB2.wd.c1; have y22 := hB2.wd.c2; have y23 := hB2.wd.c3; have yb2 := hB2.big; have yr20 := hB2.r0; have yr21 := hB2.r1; have hR2 := tr1.below hb2; have hQ2 := tq1.below hb2); (try go_wp2_with fail); refine tr hK (fun hHeld => ?_); clear hK K)
          refine wpAnyH_ready (rs := [5, 9]) (by kernel_rfl) (by simp) ?_
          refine AllReadyH.cons rfl (fun K hK => ?_) (AllReadyH.cons rfl (fun K hK => ?_) AllReadyH.nil)
          · (go_simp; (go_at_call 15; refine (worldPush_q T P _ n _ U _ m _ Q id x y p _ hR2.flat hQ2.flat (by omega) (by omega) hp _ HA.out).mono ?_; rintro e v3 ⟨a3, c3, a4, c4, rfl, hO3⟩; have hb3 := hO3.bel; have hT3 := hT2.trans (hb3.mono hT2.size); have hB3 := hB.on hT3; have y30 := hB3.wd.c0; have y31 := hB3.wd.c1; have y32 := hB3.wd.c2; have y33 := hB3.wd.c3; have yb3 := hB3.big; have yr30 := hB3.r0; have yr31 := hB3.r1); (try go_wp2_with fail); refine tr hK (fun hHeld => ?_); clear hK K)
            refine tq 6 hHeld ?_
            refine tq 7 hHeld ?_
            refine tq 8 hHeld ?_
            refine tc 9 fun K hK => ?_
            have hT4 : Below wc.heap.size wc (v3.alloc (Obj.cells #[.int .i64 0, .int .i64 0, .slice none 0 0, .slice none 0 0] 36)) := hT3.alloc hT3.size _
            have hB4 := hB.on hT4
            have y40 := hB4.wd.c0
            have y41 := hB4.wd.c1
            have y42 := hB4.wd.c2
            have y43 := hB4.wd.c3
            have yb4 := hB4.big
            have yr40 := hB4.r0
            have yr41 := hB4.r1
            have hA4 : Bx0 (v3.alloc (Obj.cells #[.int .i64 0, .int .i64 0, .slice none 0 0, .slice none 0 0] 36)) wc.heap.size v3.heap.size := Bx0.new _ _ hT3.size
            have hN4 : ∀ b, ownX a3 n0 c3 a4 m0 c4 b → b ≠ v3.heap.size := fun b e => by rcases e with e | e; (have := (hO3.ob.lt b e).2; omega); (have := (hO3.op.lt b e).2; omega)
            have hO4 := hO3.on ((Below.refl _ _).alloc (Nat.le_refl _) (Obj.cells #[.int .i64 0, .int .i64 0, .slice none 0 0, .slice none 0 0] 36))
            (go_simp; generalize (v3.alloc (Obj.cells #[.int .i64 0, .int .i64 0, .slice none 0 0, .slice none 0 0] 36)) = y4 at hT4 hB4 y40 y41 y42 y43 yb4 yr40 yr41 hA4 hO4 ⊢; refine tr hK (fun hHeld => ?_); clear hK K)
            have g0 := hA4.bl
            have g1 := hA4.lt
            have zz0 := hA4.c0
            have zz1 := hA4.c1
            have zz2 := hA4.c2
            have zz3 := hA4.c3
            have zzf := hA4.nf
            have j0 : ¬ v3.heap.size = w.heap.size := by have := hB.wd.big; omega
            have j0' : ¬ w.heap.size = v3.heap.size := fun e => j0 e.symm
            have j1 : ¬ v3.heap.size = w.heap.size + 1 := by have := hB.big; omega
            have j1' : ¬ w.heap.size + 1 = v3.heap.size := fun e => j1 e.symm
            refine tc 10 fun K hK => ?_
            (go_simp; refine tr hK (fun hHeld => ?_); clear hK K)
            refine tq 11 hHeld ?_
            refine wpAnyH_done (by kernel_rfl) ?_ _
            go_wp2_with fail
            go_meet
            have hs4 := setFr4 y4 (v3.heap.size) (.int .i64 T0) (.int .i64 P0) (.slice a3 n0 c3) (.slice a4 m0 c4)
            have hbg := hB.big
            have hwl := hB.wd.big
            have hTz := hT4.size
            exact ⟨_, _, _, a3, c3, a4, c4, rfl, rfl, (hB.on hT4).fr hs4 (fun b e => by subst e; omega), ((hW.on hT4).fr hs4 (fun b e => by subst e; have := hW.le; have := hW.bh; omega)), ((hG.on hT4).fr hs4 (fun b e => by subst e; have := hG.le; have := hG.bh; omega)), Vw.put ((hO4.ob).base (B := wc.heap.size) (hT2).size) ((hO4.op).base (B := wc.heap.size) (hT2).size) hA4 hN4⟩
          · have hT5 : Below wc.heap.size wc (v2.alloc (Obj.cells #[.int .i64 0, .int .i64 0, .slice none 0 0, .slice none 0 0] 36)) := hT2.alloc hT2.size _
            have hB5 := hB.on hT5
            have y50 := hB5.wd.c0
            have y51 := hB5.wd.c1
            have y52 := hB5.wd.c2
            have y53 := hB5.wd.c3
            have yb5 := hB5.big
            have yr50 := hB5.r0
            have yr51 := hB5.r1
            have hA5 : Bx0 (v2.alloc (Obj.cells #[.int .i64 0, .int .i64 0, .slice none 0 0, .slice none 0 0] 36)) wc.heap.size v2.heap.size := Bx0.new _ _ hT2.size
            have hR5 := hR2.below ((Below.refl _ _).alloc (Nat.le_refl _) (Obj.cells #[.int .i64 0, .int .i64 0, .slice none 0 0, .slice none 0 0] 36))
            have hQ5 := hQ2.below ((Below.refl _ _).alloc (Nat.le_refl _) (Obj.cells #[.int .i64 0, .int .i64 0, .slice none 0 0, .slice none 0 0] 36))
            (go_simp; generalize (v2.alloc (Obj.cells #[.int .i64 0, .int .i64 0, .slice none 0 0, .slice none 0 0] 36)) = y5 at hT5 hB5 y50 y51 y52 y53 yb5 yr50 yr51 hA5 hR5 hQ5 ⊢; refine tr hK (fun hHeld => ?_); clear hK K)
            refine tc 5 fun K hK => ?_
            (go_simp; (go_at_call 15; refine (worldPush_q T P _ n _ U _ m _ Q id x y p _ hR5.flat hQ5.flat (by omega) (by omega) hp _ HA.out).mono ?_; rintro e v6 ⟨a3, c3, a4, c4, rfl, hO6⟩; have hb6 := hO6.bel; have hT6 := hT5.trans (hb6.mono hT5.size); have hB6 := hB.on hT6; have y60 := hB6.wd.c0; have y61 := hB6.wd.c1; have y62 := hB6.wd.c2; have y63 := hB6.wd.c3; have yb6 := hB6.big; have yr60 := hB6.r0; have yr61 := hB6.r1; have hA6 := hA5.on hb6; have hN6 : ∀ b, ownX a3 n0 c3 a4 m0 c4 b → b ≠ v2.heap.size := fun b e => by have := hA5.lt; rcases e with e | e; (have := (hO6.ob.lt b e).1; omega); (have := (hO6.op.lt b e).1; omega)); (try go_wp2_with fail); refine tr hK (fun hHeld => ?_); clear hK K)
            refine tq 6 hHeld ?_
            refine tq 7 hHeld ?_
            refine tq 8 hHeld ?_
            have g0 := hA6.bl
            have g1 := hA6.lt
            have zz0 := hA6.c0
            have zz1 := hA6.c1
            have zz2 := hA6.c2
            have zz3 := hA6.c3
            have zzf := hA6.nf
            have j0 : ¬ v2.heap.size = w.heap.size := by have := hB.wd.big; omega
            have j0' : ¬ w.heap.size = v2.heap.size := fun e => j0 e.symm
            have j1 : ¬ v2.heap.size = w.heap.size + 1 := by have := hB.big; omega
            have j1' : ¬ w.heap.size + 1 = v2.heap.size := fun e => j1 e.symm
            refine tc 10 fun K hK => ?_
            (go_simp; refine tr hK (fun hHeld => ?_); clear hK K)
            refine tq 11 hHeld ?_
            refine wpAnyH_done (by kernel_rfl) ?_ _
            go_wp2_with fail
            go_meet
            have hs4 := setFr4 v6 (v2.heap.size) (.int .i64 T0) (.int .i64 P0) (.slice a3 n0 c3) (.slice a4 m0 c4)
            have hbg := hB.big
            have hwl := hB.wd.big
            have hTz := hT6.size
            exact ⟨_, _, _, a3, c3, a4, c4, rfl, rfl, (hB.on hT6).fr hs4 (fun b e => by subst e; omega), ((hW.on hT6).fr hs4 (fun b e => by subst e; have := hW.le; have := hW.bh; omega)), ((hG.on hT6).fr hs4 (fun b e => by subst e; have := hG.le; have := hG.bh; omega)), Vw.put ((hO6.ob).base (B := wc.heap.size) (hT5).size) ((hO6.op).base (B := wc.heap.size) (hT5).size) hA6 hN6⟩
        · have hT7 : Below wc.heap.size wc (v1.alloc (Obj.cells #[.int .i64 0, .int .i64 0, .slice none 0 0, .slice none 0 0] 36)) := hT1.alloc hT1.size _
          have hB7 := hB.on hT7
          have y70 := hB7.wd.c0
          have y71 := hB7.wd.c1
          have y72 := hB7.wd.c2
          have y73 := hB7.wd.c3
          have yb7 := hB7.big
          have yr70 := hB7.r0
          have yr71 := hB7.r1
          have hA7 : Bx0 (v1.alloc (Obj.cells #[.int .i64 0, .int .i64 0, .slice none 0 0, .slice none 0 0] 36)) wc.heap.size v1.heap.size := Bx0.new _ _ hT1.size
          have hR7 := tr1.below ((Below.refl _ _).alloc (Nat.le_refl _) (Obj.cells #[.int .i64 0, .int .i64 0, .slice none 0 0, .slice none 0 0] 36))
          have hQ7 := tq1.below ((Below.refl _ _).alloc (Nat.le_refl _) (Obj.cells #[.int .i64 0, .int .i64 0, .slice none 0 0, .slice none 0 0] 36))
          (go_simp; generalize (v1.alloc (Obj.cells #[.int .i64 0, .int .i64 0, .slice none 0 0, .slice none 0 0] 36)) = y7 at hT7 hB7 y70 y71 y72 y73 yb7 yr70 yr71 hA7 hR7 hQ7 ⊢; refine tr hK (fun hHeld => ?_); clear hK K)
          refine tc 4 fun K hK => ?_
          (go_simp; (go_at_call 14; refine (toVec_any x y _).mono ?_; rintro e v8 ⟨rfl, hb8⟩; have hT8 := hT7.trans (hb8.mono hT7.size); have hB8 := hB.on hT8; have y80 := hB8.wd.c0; have y81 := hB8.wd.c1; have y82 := hB8.wd.c2; have y83 := hB8.wd.c3; have yb8 := hB8.big; have yr80 := hB8.r0; have yr81 := hB8.r1; have hA8 := hA7.on hb8; have hR8 := hR7.below hb8; have hQ8 := hQ7.below hb8); (try go_wp2_with fail); refine tr hK (fun hHeld => ?_); clear hK K)
          refine tc 5 fun K hK => ?_
          (go_simp; (go_at_call 15; refine (worldPush_q T P _ n _ U _ m _ Q id x y p _ hR8.flat hQ8.flat (by omega) (by omega) hp _ HA.out).mono ?_; rintro e v9 ⟨a3, c3, a4, c4, rfl, hO9⟩; have hb9 := hO9.bel; have hT9 := hT8.trans (hb9.mono hT8.size); have hB9 := hB.on hT9; have y90 := hB9.wd.c0; have y91 := hB9.wd.c1; have y92 := hB9.wd.c2; have y93 := hB9.wd.c3; have yb9 := hB9.big; have yr90 := hB9.r0; have yr91 := hB9.r1; have hA9 := hA8.on hb9; have hN9 : ∀ b, ownX a3 n0 c3 a4 m0 c4 b → b ≠ v1.heap.size := fun b e => by have := hA8.lt; rcases e with e | e; (have := (hO9.ob.lt b e).1; omega); (have := (hO9.op.lt b e).1; omega)); (try go_wp2_with fail); refine tr hK (fun hHeld => ?_); clear hK K)
          refine tq 6 hHeld ?_
          refine tq 7 hHeld ?_
          refine tq 8 hHeld ?_
          have g0 := hA9.bl
          have g1 := hA9.lt
          have zz0 := hA9.c0
          have zz1 := hA9.c1
          have zz2 := hA9.c2
          have zz3 := hA9.c3
          have zzf := hA9.nf
          have j0 : ¬ v1.heap.size = w.heap.size := by have := hB.wd.big; omega
          have j0' : ¬ w.heap.size = v1.heap.size := fun e => j0 e.symm
          have j1 : ¬ v1.heap.size = w.heap.size + 1 := by have := hB.big; omega
          have j1' : ¬ w.heap.size + 1 = v1.heap.size := fun e => j1 e.symm
          refine tc 10 fun K hK => ?_
          (go_simp; refine tr hK (fun hHeld => ?_); clear hK K)
          refine tq 11 hHeld ?_
          refine wpAnyH_done (by kernel_rfl) ?_ _
          go_wp2_with fail
          go_meet
          have hs4 := setFr4 v9 (v1.heap.size) (.int .i64 T0) (.int .i64 P0) (.slice a3 n0 c3) (.slice a4 m0 c4)
          have hbg := hB.big
          have hwl := hB.wd.big
          have hTz := hT9.size
          exact ⟨_, _, _, a3, c3, a4, c4, rfl, rfl, (hB.on hT9).fr hs4 (fun b e => by subst e; omega), ((hW.on hT9).fr hs4 (fun b e => by subst e; have := hW.le; have := hW.bh; omega)), ((hG.on hT9).fr hs4 (fun b e => by subst e; have := hG.le; have := hG.bh; omega)), Vw.put ((hO9.ob).base (B := wc.heap.size) (hT8).size) ((hO9.op).base (B := wc.heap.size) (hT8).size) hA9 hN9⟩
      · have hT10 : Below wc.heap.size wc (wc.alloc (Obj.cells #[.int .i64 0, .int .i64 0, .slice none 0 0, .slice none 0 0] 36)).drew := ((Below.refl _ _).alloc (Nat.le_refl _) _).drew
        have hB10 := hB.on hT10
        have y100 := hB10.wd.c0
        have y101 := hB10.wd.c1
        have y102 := hB10.wd.c2
        have y103 := hB10.wd.c3
        have yb10 := hB10.big
        have yr100 := hB10.r0
        have yr101 := hB10.r1
        have hA10 : Bx0 (wc.alloc (Obj.cells #[.int .i64 0, .int .i64 0, .slice none 0 0, .slice none 0 0] 36)).drew wc.heap.size wc.heap.size := (Bx0.new wc _ (Nat.le_refl _)).drew
        (go_simp; generalize (wc.alloc (Obj.cells #[.int .i64 0, .int .i64 0, .slice none 0 0, .slice none 0 0] 36)).drew = y10 at hT10 hB10 y100 y101 y102 y103 yb10 yr100 yr101 hA10 ⊢; refine tr hK (fun hHeld => ?_); clear hK K)
        refine tc 1 fun K hK => ?_
        (go_simp; (go_at_call 7; refine (toWorld_any T P a n c U a' m c' Q _ (h.below (hB.wd.bel.trans (hT10.mono hB.wd.bel.size))) (h'.below (hB.wd.bel.trans (hT10.mono hB.wd.bel.size))) (by omega) (by omega)).mono ?_; rintro e v11 ⟨tb, td, ts, rfl, tl, tla, tlb, tlc, tr1, tq1, hb11⟩; have hT11 := hT10.trans (hb11.mono hT10.size); have hB11 := hB.on hT11; have y110 := hB11.wd.c0; have y111 := hB11.wd.c1; have y112 := hB11.wd.c2; have y113 := hB11.wd.c3; have yb11 := hB11.big; have yr110 := hB11.r0; have yr111 := hB11.r1; have hA11 := hA10.on hb11); (try go_wp2_with fail); refine tr hK (fun hHeld => ?_); clear hK K)
        refine tc 4 fun K hK => ?_
        (go_simp; (go_at_call 14; refine (toVec_any x y _).mono ?_; rintro e v12 ⟨rfl, hb12⟩; have hT12 := hT11.trans (hb12.mono hT11.size); have hB12 := hB.on hT12; have y120 := hB12.wd.c0; have y121 := hB12.wd.c1; have y122 := hB12.wd.c2; have y123 := hB12.wd.c3; have yb12 := hB12.big; have yr120 := hB12.r0; have yr121 := hB12.r1; have hA12 := hA11.on hb12; have hR12 := tr1.below hb12; have hQ12 := tq1.below hb12); (try go_wp2_with fail); refine tr hK (fun hHeld => ?_); clear hK K)
        refine tc 5 fun K hK => ?_
        (go_simp; (go_at_call 15; refine (worldPush_q T P _ n _ U _ m _ Q id x y p _ hR12.flat hQ12.flat (by omega) (by omega) hp _ HA.out).mono ?_; rintro e v13 ⟨a3, c3, a4, c4, rfl, hO13⟩; have hb13 := hO13.bel; have hT13 := hT12.trans (hb13.mono hT12.size); have hB13 := hB.on hT13; have y130 := hB13.wd.c0; have y131 := hB13.wd.c1; have y132 := hB13.wd.c2; have y133 := hB13.wd.c3; have yb13 := hB13.big; have yr130 := hB13.r0; have yr131 := hB13.r1; have hA13 := hA12.on hb13; have hN13 : ∀ b, ownX a3 n0 c3 a4 m0 c4 b → b ≠ wc.heap.size := fun b e => by have := hA12.lt; rcases e with e | e; (have := (hO13.ob.lt b e).1; omega); (have := (hO13.op.lt b e).1; omega)); (try go_wp2_with fail); refine tr hK (fun hHeld => ?_); clear hK K)
        refine tq 6 hHeld ?_
        refine tq 7 hHeld ?_
        refine tq 8 hHeld ?_
        have g0 := hA13.bl
        have g1 := hA13.lt
        have zz0 := hA13.c0
        have zz1 := hA13.c1
        have zz2 := hA13.c2
        have zz3 := hA13.c3
        have zzf := hA13.nf
        have j0 : ¬ wc.heap.size = w.heap.size := by have := hB.wd.big; omega
        have j0' : ¬ w.heap.size = wc.heap.size := fun e => j0 e.symm
        have j1 : ¬ wc.heap.size = w.heap.size + 1 := by have := hB.big; omega
        have j1' : ¬ w.heap.size + 1 = wc.heap.size := fun e => j1 e.symm
        refine tc 10 fun K hK => ?_
        (go_simp; refine tr hK (fun hHeld => ?_); clear hK K)
        refine tq 11 hHeld ?_
        refine wpAnyH_done (by kernel_rfl) ?_ _
        go_wp2_with fail
        go_meet
        have hs4 := setFr4 v13 (wc.heap.size) (.int .i64 T0) (.int .i64 P0) (.slice a3 n0 c3) (.slice a4 m0 c4)
        have hbg := hB.big
        have hwl := hB.wd.big
        have hTz := hT13.size
        exact ⟨_, _, _, a3, c3, a4, c4, rfl, rfl, (hB.on hT13).fr hs4 (fun b e => by subst e; omega), ((hW.on hT13).fr hs4 (fun b e => by subst e; have := hW.le; have := hW.bh; omega)), ((hG.on hT13).fr hs4 (fun b e => by subst e; have := hG.le; have := hG.bh; omega)), Vw.put ((hO13.ob).base (B := wc.heap.size) (hT12).size) ((hO13.op).base (B := wc.heap.size) (hT12).size) hA13 hN13⟩
    case rest =>
    clear hB y0 y1 y2 y3 yb yr0 yr1 hW xw0 xw1 xw2 xw3 xbw xlw hG xg0 xg1 xg2 xg3 xbg xlg
    obtain ⟨lh, hh, bh, eh, fh, gh, ih, rfl, rfl, hB, hW, hG, hH⟩ := hcut
    have y0 := hB.wd.c0
    have y1 := hB.wd.c1
    have y2 := hB.wd.c2
    have y3 := hB.wd.c3
    have yb := hB.big
    have yr0 := hB.r0
    have yr1 := hB.r1
    have xw0 := hW.c0
    have xw1 := hW.c1
    have xw2 := hW.c2
    have xw3 := hW.c3
    have xbw := hW.blt
    have xlw := hW.bl
    have xg0 := hG.c0
    have xg1 := hG.c1
    have xg2 := hG.c2
    have xg3 := hG.c3
    have xbg := hG.blt
    have xlg := hG.bl
    have xh0 := hH.c0
    have xh1 := hH.c1
    have xh2 := hH.c2
    have xh3 := hH.c3
    have xbh := hH.blt
    have xlh := hH.bl
    go_upto_region 25 with fail
    go_cut [100] (fun s0 wc => s0 = .bool false ∧ LfPush w T P a n c a' m c' x y wc ∧ Vw wc lg hg bg T0 P0 eg n0 fg (fun q => 1 + (q : Int)) gg m0 ig (fun q => 1 + (n0 : Int) * 12 + (q : Int)))
    case first =>
      go_wp2_with (go_at_call 10; refine (eqWorld_same T0 P0 _ _ n0 _ _ U0 _ _ m0 _ _ Q0 _ hH.fb hW.fb hH.fp hW.fp hn0 hm0).mono ?_; rintro e w9 ⟨rfl, hb9⟩)
      go_meet
      exact ⟨by simp, hB.on hb9, hG.on hb9⟩
    case rest =>
    clear hB y0 y1 y2 y3 yb yr0 yr1 hW xw0 xw1 xw2 xw3 xbw xlw hG xg0 xg1 xg2 xg3 xbg xlg hH xh0 xh1 xh2 xh3 xbh xlh
    obtain ⟨rfl, hB, hG⟩ := hcut
    have y0 := hB.wd.c0
    have y1 := hB.wd.c1
    have y2 := hB.wd.c2
    have y3 := hB.wd.c3
    have yb := hB.big
    have yr0 := hB.r0
    have yr1 := hB.r1
    have xg0 := hG.c0
    have xg1 := hG.c1
    have xg2 := hG.c2
    have xg3 := hG.c3
    have xbg := hG.blt
    have xlg := hG.bl
    go_upto_region 28 with fail
    go_wp2_with (go_at_call 12; refine (heldWorld_own T0 P0 _ n0 _ _ m0 _ _ hG.fb hG.fp hn0 hm0).mono ?_; rintro e w2 ⟨rfl, hb2⟩)
    go_ret
    exact ⟨rfl, (hB.on hb2).wd.bel⟩
  · go_enter Try.func4, Try.ntmps4
    go_upto_region 2 with fail
    go_cut [7] (fun s wc => ∃ z : Int, s = .int .i64 z ∧ z < 0 ∧ Below w.heap.size w wc)
    case first =>
      go_wp2_with (go_at_call 5; refine (szWorld_any T P a n c a' m c' _ hn hm).mono ?_; rintro e w1 ⟨⟨z, rfl, hz1, hz2, hz3⟩, hb1⟩)
      go_meet
      exact ⟨z, rfl, by omega, by repeat (first | with_reducible apply Below.refl | (with_reducible apply Below.setCell; rotate_left; focus (first | omega | (simp; done) | (simp; omega))) | (with_reducible apply Below.alloc; rotate_left; focus (first | omega | (simp; done) | (simp; omega))) | with_reducible apply Below.drew | with_reducible apply belowDrewN | (with_reducible apply Below.trans; rotate_left; with_reducible apply Below.mono; with_reducible assumption; focus (first | omega | (simp; done) | (simp; omega))))⟩
    case rest =>
    obtain ⟨z, rfl, hz, hB⟩ := hcut
    go_wp2
    go_ret
    exact ⟨rfl, hB⟩
end Go.Proofs.Ythekeeagjokpeaa
namespace Go.Proofs.Ythekeeagjokpeaa
theorem head_cut {l : List (List Char)} {c : List Char} (h : (l.head? == some c) = true) : ∃ rest, l = c :: rest := by
  cases l with
  | nil => simp at h
  | cons a r => simp at h; exact ⟨r, by rw [h]⟩
theorem strip_cut (rest : List (List Char)) : stripLifts liftWords ("cut".toList :: rest) = ([], "cut".toList :: rest) := by kernel_rfl
theorem make_of {P : Program} {l : List Char} (h0 : P.initOrder.toList = l) (h1 : ((behindMainWord (wordsSigns l)).head? == some "cut".toList) = true) : P.make = some .cut := by
  obtain ⟨rest, hr⟩ := head_cut h1
  unfold Program.make
  rw [h0, hr]
  rfl
theorem headLifts_of {P : Program} {l : List Char} (h0 : P.initOrder.toList = l) (h1 : ((behindMainWord (wordsSigns l)).head? == some "cut".toList) = true) : P.headLifts = [] := by
  obtain ⟨rest, hr⟩ := head_cut h1
  unfold Program.headLifts
  rw [h0, hr, strip_cut]
  rfl
theorem liftsFinal_of {P : Program} {l : List Char} (h0 : P.initOrder.toList = l) (h1 : ((behindMainWord (wordsSigns l)).head? == some "cut".toList) = true) : P.liftsFinal = false := by
  have hh := headLifts_of h0 h1
  obtain ⟨rest, hr⟩ := head_cut h1
  unfold Program.liftsFinal
  rw [h0, hr, hh]
  rfl
theorem mayEnter_of {P : Program} {l : List Char} (h0 : P.initOrder.toList = l) (h1 : ((behindMainWord (wordsSigns l)).head? == some "cut".toList) = true) (h2 : P.laysLater = false) (h3 : P.bearsReflect = false) (h4 : P.doorFits [] = true) : P.mayEnter = true := by
  obtain ⟨rest, hr⟩ := head_cut h1
  unfold Program.mayEnter
  rw [h0, hr]
  simp only [strip_cut, h2, h3, h4]
  simp
end Go.Proofs.Ythekeeagjokpeaa
namespace Go.Proofs.Ythekeeagjokpeaa
set_option maxRecDepth 100000
def ordL : { l : List Char // Try.prog.initOrder = String.ofList l } := ⟨_, rfl⟩
theorem ordT : Try.prog.initOrder.toList = ordL.1 := (congrArg String.toList ordL.2).trans String.toList_ofList
theorem headE : ((behindMainWord (wordsSigns ordL.1)).head? == some "cut".toList) = true := by kernel_rfl
theorem makeT : Try.prog.make = some .cut := make_of ordT headE
theorem liftsFinalT : Try.prog.liftsFinal = false := liftsFinal_of ordT headE
theorem laysLaterT : Try.prog.laysLater = false := by kernel_rfl
theorem bearsReflectT : Try.prog.bearsReflect = false := by kernel_rfl
theorem doorFitsT : Try.prog.doorFits [] = true := by kernel_rfl
theorem mayEnterT : Try.prog.mayEnter = true := mayEnter_of ordT headE laysLaterT bearsReflectT doorFitsT
theorem ownT : ownKnob Try.prog.godebug = none := by kernel_rfl
theorem laidOutT : laidOutB Try.prog = true := by kernel_rfl
theorem mapsRowedT : mapsRowed Try.prog = true := by kernel_rfl
theorem stopsHeardT : Try.prog.stopsHeard = true := by kernel_rfl
theorem plainKeysT : Try.prog.plainKeys = true := by kernel_rfl
end Go.Proofs.Ythekeeagjokpeaa
namespace Go.Proofs.Ythekeeagjokpeaa
open Go.RowKit Go.ChangeShapes Go.WideShapes Go.Deep
set_option linter.unusedVariables false
set_option linter.unusedSimpArgs false
/-- what is read at the type is k numbers -/
def IntsOf (P : Program) (e : TypeId) (k : Nat) : Prop :=
  ∀ (H : Type) (enc : TypeId × Value → H) (w : World) (base : Nat) (spare : Nat → Bool) (held : Bool) (fuel : Nat) (cs : List Value) (x : DataW H × List MemPlace),
    DataW.trod enc P w base spare held fuel e cs = some x → cs.length = k ∧ ∀ j, j < k → ∃ v : Int, cs[j]? = some (.int .i64 v) ∧ (Lit.int .i64 v).wf = true
theorem IntsOf.int {P : Program} {e : TypeId} (h : P.underlying e = some (.int .i64)) : IntsOf P e 1 := by
  intro H enc w base spare held fuel cs x hx
  obtain ⟨v, h1, _, h3⟩ := DataW.trod_int h hx
  subst h1
  refine ⟨rfl, fun j hj => ?_⟩
  obtain rfl : j = 0 := by omega
  exact ⟨v, rfl, h3⟩
theorem IntsOf.struct {P : Program} {t : TypeId} {k : Nat} {fs : Array Field} (cs_ : List Nat) (ht : P.underlying t = some (.struct fs)) (hk : P.cellsOf t = k)
    (hf : ∀ (i : Nat) (f : Field) (c : Nat), fs[i]? = some f → cs_[i]? = some c → P.cellsOf f.type = c ∧ IntsOf P f.type c)
    (cover : (List.range k).all (fun j => (List.range fs.size).any fun i => match fs[i]?, cs_[i]? with | some f, some c => decide (f.offset ≤ j ∧ j < f.offset + c) | _, _ => false) = true) : IntsOf P t k := by
  intro H enc w base spare held fuel cs x hx
  obtain ⟨xs, n, _, _, hl, hlen, hg⟩ := DataW.trod_struct ht hx
  rw [hk] at hl
  refine ⟨hl, fun j hj => ?_⟩
  rw [List.all_eq_true] at cover
  have c1 := cover j (List.mem_range.2 hj)
  rw [List.any_eq_true] at c1
  obtain ⟨i, hi, hm⟩ := c1
  have hi' := List.mem_range.1 hi
  cases hfi : fs[i]? with
  | none => simp [hfi] at hm
  | some f =>
    cases hci : cs_[i]? with
    | none => simp [hfi, hci] at hm
    | some c =>
      simp only [hfi, hci, decide_eq_true_eq] at hm
      obtain ⟨hc, hI⟩ := hf i f c hfi hci
      have g := hg i f hfi
      rw [hc] at g
      have hxi : i < xs.length := by rw [hlen]; exact hi'
      rw [List.getElem?_eq_getElem hxi] at g
      obtain ⟨_, q⟩ := hI H enc w base spare held _ _ _ g
      obtain ⟨v, hv, hw⟩ := q (j - f.offset) (by omega)
      refine ⟨v, ?_, hw⟩
      rw [List.getElem?_take, if_pos (by omega), List.getElem?_drop, show f.offset + (j - f.offset) = j by omega] at hv
      exact hv
theorem open_flat {P : Program} {t e : TypeId} {k : Nat} (hk0 : 0 < k) (ht : P.underlying t = some (.slice e)) (hk : P.cellsOf e = k) (hE : IntsOf P e k)
    {H : Type} {enc : TypeId × Value → H} {w : World} {base : Nat} {spare : Nat → Bool} {held : Bool} {fuel : Nat} {v : Value} {x : DataW H × List MemPlace}
    (h : DataW.trod enc P w base spare held fuel t [v] = some x) :
    ∃ (a : Option Addr) (n c : Nat) (U : Nat → Int), v = .slice a n c ∧ (n : Int) ≤ 9223372036854775807 ∧ Flat w a (n * k) U ∧ ∀ q, q < n * k → (Lit.int .i64 (U q)).wf = true := by
  rcases open_slice ht h with ⟨hc, _⟩ | ⟨a, len, cap, m, fu, D, Pl, hc, hb, hl, hm, hmm, _, hall⟩
  · simp only [List.cons.injEq, and_true] at hc
    subst hc
    exact ⟨none, 0, 0, fun _ => 0, rfl, by omega, by rw [Nat.zero_mul]; exact Flat.nil, fun q hq => by omega⟩
  · simp only [List.cons.injEq, and_true] at hc
    subst hc
    have hlm : len ≤ m := by rw [hmm]; split <;> omega
    have one : ∀ q, q < len * k → ∃ z : Int, w.cell? (a.add q) = some (.int .i64 z) ∧ (Lit.int .i64 z).wf = true := by
      intro q hq
      have hi : q / k < len := Nat.div_lt_of_lt_mul (by rw [Nat.mul_comm]; exact hq)
      obtain ⟨cs', h1, h2⟩ := hall (q / k) (by omega)
      obtain ⟨_, hlen, hcell⟩ := World.cells?_some h1
      obtain ⟨_, hv⟩ := hE H enc w base spare held _ _ _ h2
      obtain ⟨z, hz, hw⟩ := hv (q % k) (Nat.mod_lt _ hk0)
      have := hcell (q % k) (by rw [hk]; exact Nat.mod_lt _ hk0)
      rw [hz, hk, add_add, Nat.mul_comm, Nat.div_add_mod] at this
      exact ⟨z, this, hw⟩
    obtain ⟨U, hU⟩ := choose_lt one
    refine ⟨some a, len, cap, U, rfl, by unfold maxLen at hm; omega, ?_, fun q hq => (hU q hq).2⟩
    intro h0
    obtain ⟨b, o, spot⟩ := a
    have g0 := (hU 0 h0).1
    have hspot : spot = none := by simpa [Addr.add] using World.cell?_spot g0
    subst hspot
    have hbl := World.block_lt_of_cell? w _ g0
    simp only [Addr.add, if_true] at hbl
    refine ⟨b, o, rfl, hbl, fun q hq => ?_⟩
    have := (hU q hq).1
    by_cases hq0 : q = 0
    · subst hq0; simpa [Addr.add] using this
    · simpa [Addr.add, hq0] using this
end Go.Proofs.Ythekeeagjokpeaa
namespace Go.Proofs.Ythekeeagjokpeaa
open Go.RowKit Go.ChangeShapes Go.WideShapes Go.Deep
set_option linter.unusedVariables false
set_option linter.unusedSimpArgs false
theorem cellsI : Try.prog.cellsOf 3 = 1 := by kernel_rfl
theorem cellsV : Try.prog.cellsOf 29 = 2 := by kernel_rfl
theorem cellsSh : Try.prog.cellsOf 27 = 3 := by kernel_rfl
theorem cellsBd : Try.prog.cellsOf 31 = 12 := by kernel_rfl
theorem cellsSlB : Try.prog.cellsOf 22 = 1 := by kernel_rfl
theorem intsI : IntsOf Try.prog 3 1 := IntsOf.int Try.underlying3
theorem intsV : IntsOf Try.prog 29 2 := IntsOf.struct [1, 1] Try.underlying29 (by kernel_rfl) (fun i f c h1 h2 => match i, h1, h2 with
  | 0, h1, h2 => by cases h1; cases h2; exact ⟨cellsI, intsI⟩
  | 1, h1, h2 => by cases h1; cases h2; exact ⟨cellsI, intsI⟩
  | _ + 2, h1, h2 => by simp at h2) (by decide)
theorem intsSh : IntsOf Try.prog 27 3 := IntsOf.struct [1, 1, 1] Try.underlying27 (by kernel_rfl) (fun i f c h1 h2 => match i, h1, h2 with
  | 0, h1, h2 => by cases h1; cases h2; exact ⟨cellsI, intsI⟩
  | 1, h1, h2 => by cases h1; cases h2; exact ⟨cellsI, intsI⟩
  | 2, h1, h2 => by cases h1; cases h2; exact ⟨cellsI, intsI⟩
  | _ + 3, h1, h2 => by simp at h2) (by decide)
theorem intsBd : IntsOf Try.prog 31 12 := IntsOf.struct [1, 3, 2, 2, 1, 1, 1, 1] Try.underlying31 (by kernel_rfl) (fun i f c h1 h2 => match i, h1, h2 with
  | 0, h1, h2 => by cases h1; cases h2; exact ⟨cellsI, intsI⟩
  | 1, h1, h2 => by cases h1; cases h2; exact ⟨cellsSh, intsSh⟩
  | 2, h1, h2 => by cases h1; cases h2; exact ⟨cellsV, intsV⟩
  | 3, h1, h2 => by cases h1; cases h2; exact ⟨cellsV, intsV⟩
  | 4, h1, h2 => by cases h1; cases h2; exact ⟨cellsI, intsI⟩
  | 5, h1, h2 => by cases h1; cases h2; exact ⟨cellsI, intsI⟩
  | 6, h1, h2 => by cases h1; cases h2; exact ⟨cellsI, intsI⟩
  | 7, h1, h2 => by cases h1; cases h2; exact ⟨cellsI, intsI⟩
  | _ + 8, h1, h2 => by simp at h2) (by decide)
set_option maxRecDepth 100000 in
theorem open_bodies {H : Type} {enc : TypeId × Value → H} {W : World} {base b0 : Nat} {spare : Nat → Bool} {held : Bool} {v : Value} {d : DataW H} {p : List MemPlace}
    (hv : Value.okWide Try.prog W .any b0 22 v) (h : DataW.Trod enc Try.prog W base spare held 22 v d p) :
    ∃ (a : Option Addr) (n c : Nat) (U : Nat → Int), v = .slice a n c ∧ (n : Int) ≤ 9223372036854775807 ∧ Flat W a (n * 12) U ∧ ∀ q, q < n * 12 → (Lit.int .i64 (U q)).wf = true := by
  obtain ⟨a0, len, cap, rfl⟩ := okWide_slice Try.underlying22 hv
  obtain ⟨fuel, hf⟩ := h
  exact open_flat (by decide) Try.underlying22 cellsBd intsBd hf
end Go.Proofs.Ythekeeagjokpeaa
namespace Go.Proofs.Ythekeeagjokpeaa
open Go.RowKit Go.ChangeShapes Go.WideShapes Go.Deep
set_option linter.unusedVariables false
set_option linter.unusedSimpArgs false
theorem cellsPr : Try.prog.cellsOf 78 = 2 := by kernel_rfl
theorem cellsSlP : Try.prog.cellsOf 23 = 1 := by kernel_rfl
theorem cellsWd : Try.prog.cellsOf 25 = 4 := by kernel_rfl
theorem intsPr : IntsOf Try.prog 78 2 := IntsOf.struct [1, 1] Try.underlying78 (by kernel_rfl) (fun i f c h1 h2 => match i, h1, h2 with
  | 0, h1, h2 => by cases h1; cases h2; exact ⟨cellsI, intsI⟩
  | 1, h1, h2 => by cases h1; cases h2; exact ⟨cellsI, intsI⟩
  | _ + 2, h1, h2 => by simp at h2) (by decide)
theorem array4 {α : Type} {cs : Array α} (h : cs.size = 4) : ∃ c0 c1 c2 c3, cs = #[c0, c1, c2, c3] := by
  obtain ⟨l⟩ := cs
  match l, h with
  | [c0, c1, c2, c3], _ => exact ⟨c0, c1, c2, c3, rfl⟩
set_option maxRecDepth 100000 in
theorem open_world {H : Type} {enc : TypeId × Value → H} {W : World} {base b0 : Nat} {spare : Nat → Bool} {held : Bool} {v : Value} {d : DataW H} {p : List MemPlace}
    (hv : Value.okWide Try.prog W .any b0 25 v) (h : DataW.Trod enc Try.prog W base spare held 25 v d p) :
    ∃ (T P : Int) (a : Option Addr) (n c : Nat) (U : Nat → Int) (a' : Option Addr) (m c' : Nat) (Q : Nat → Int), v = .agg #[.int .i64 T, .int .i64 P, .slice a n c, .slice a' m c'] ∧ (n : Int) ≤ 9223372036854775807 ∧ (m : Int) ≤ 9223372036854775807 ∧ Flat W a (n * 12) U ∧ Flat W a' (m * 2) Q := by
  obtain ⟨cs, rfl, hsz⟩ := okWide_struct Try.underlying25 hv
  obtain ⟨c0, c1, c2, c3, rfl⟩ := array4 (hsz.trans cellsWd)
  obtain ⟨fuel, hf0⟩ := h
  obtain ⟨xs, n, _, hx, hl, hlen, hf⟩ := DataW.trod_struct Try.underlying25 hf0
  match xs, hlen with
  | [y0, y1, y2, y3], _ =>
    have k0 : DataW.trod enc Try.prog W base spare held n 3 [c0] = some y0 := by simpa [Value.cells, cellsI] using hf 0 _ rfl
    have k1 : DataW.trod enc Try.prog W base spare held n 3 [c1] = some y1 := by simpa [Value.cells, cellsI] using hf 1 _ rfl
    have k2 : DataW.trod enc Try.prog W base spare held n 22 [c2] = some y2 := by simpa [Value.cells, cellsSlB] using hf 2 _ rfl
    have k3 : DataW.trod enc Try.prog W base spare held n 23 [c3] = some y3 := by simpa [Value.cells, cellsSlP] using hf 3 _ rfl
    obtain ⟨T, e0, _, w0⟩ := DataW.trod_int Try.underlying3 k0
    obtain ⟨P, e1, _, w1⟩ := DataW.trod_int Try.underlying3 k1
    obtain ⟨a, n1, c, U, rfl, hn, hF, _⟩ := open_flat (by decide) Try.underlying22 cellsBd intsBd k2
    obtain ⟨a', m, c', Q, rfl, hm, hF', _⟩ := open_flat (by decide) Try.underlying23 cellsPr intsPr k3
    simp only [List.cons.injEq, and_true] at e0 e1
    subst e0 e1
    exact ⟨T, P, a, n1, c, U, a', m, c', Q, rfl, hn, hm, hF, hF'⟩
end Go.Proofs.Ythekeeagjokpeaa
namespace Go.Proofs.Ythekeeagjokpeaa
open Go.ChangeShapes Go.WideShapes Go.ChangeAt Go.RowKit Go.Joins
set_option linter.unusedVariables false
set_option linter.unusedSimpArgs false
theorem cellsVec : Try.prog.cellsOf 29 = 2 := by kernel_rfl
theorem cellsInt : Try.prog.cellsOf 3 = 1 := by kernel_rfl
end Go.Proofs.Ythekeeagjokpeaa
