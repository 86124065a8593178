/- Texts of a proof. -/
import Derived.Test.YtlbpmmjckoaleaaGreatB34
import Derived.Test.YtlbpmmjckoaleaaGreatB12
import Derived.Deep.RegionHeld3
import Derived.Deep.DeepCutAuto
import Derived.Test.YtlbpmmjckoaleaaGreatRows
import Derived.WalkKit
import Derived.JoinedOf
import Derived.ProofKit
import Derived.Test.YtlbpmmjckoaleaaGreatB1
import Derived.Deep.Slices
import Derived.ChangeSame
import Derived.ChangeArms
set_option maxHeartbeats 16000000
set_option maxRecDepth 20000
namespace Go.Proofs.YtlbpmmjckoaleaaGreat
open Go.RowKit
set_option linter.unusedVariables false
set_option linter.unusedSimpArgs false
theorem markBody12 {w wr : World} {base g n c j : Nat} {U : Nat → Int} (hlt : j < n) (ho : OwnL wr base 48 12 (.slice (some ⟨g, 0, none⟩) n c) n (mixU (j * 12) U)) (hg : w.grownBy wr (Value.slice (some ⟨g, 0, none⟩) n c).ownBlock) :
    OwnL ((((((((((((wr.setCell ⟨g, j * 12, none⟩ (.int .i64 (1 + (j : Int) * 12))).setCell ⟨g, j * 12 + 1, none⟩ (.int .i64 (1 + (j : Int) * 12 + 1))).setCell ⟨g, j * 12 + 2, none⟩ (.int .i64 (1 + (j : Int) * 12 + 1 + 1))).setCell ⟨g, j * 12 + 3, none⟩ (.int .i64 (1 + (j : Int) * 12 + 1 + 1 + 1))).setCell ⟨g, j * 12 + 4, none⟩ (.int .i64 (1 + (j : Int) * 12 + 1 + 1 + 1 + 1))).setCell ⟨g, j * 12 + 5, none⟩ (.int .i64 (1 + (j : Int) * 12 + 1 + 1 + 1 + 1 + 1))).setCell ⟨g, j * 12 + 6, none⟩ (.int .i64 (1 + (j : Int) * 12 + 1 + 1 + 1 + 1 + 1 + 1))).setCell ⟨g, j * 12 + 7, none⟩ (.int .i64 (1 + (j : Int) * 12 + 1 + 1 + 1 + 1 + 1 + 1 + 1))).setCell ⟨g, j * 12 + 8, none⟩ (.int .i64 (1 + (j : Int) * 12 + 1 + 1 + 1 + 1 + 1 + 1 + 1 + 1))).setCell ⟨g, j * 12 + 9, none⟩ (.int .i64 (1 + (j : Int) * 12 + 1 + 1 + 1 + 1 + 1 + 1 + 1 + 1 + 1))).setCell ⟨g, j * 12 + 10, none⟩ (.int .i64 (1 + (j : Int) * 12 + 1 + 1 + 1 + 1 + 1 + 1 + 1 + 1 + 1 + 1))).setCell ⟨g, j * 12 + 11, none⟩ (.int .i64 (1 + (j : Int) * 12 + 1 + 1 + 1 + 1 + 1 + 1 + 1 + 1 + 1 + 1 + 1))) base 48 12 (.slice (some ⟨g, 0, none⟩) n c) n (mixU ((j + 1) * 12) U) ∧
    w.grownBy ((((((((((((wr.setCell ⟨g, j * 12, none⟩ (.int .i64 (1 + (j : Int) * 12))).setCell ⟨g, j * 12 + 1, none⟩ (.int .i64 (1 + (j : Int) * 12 + 1))).setCell ⟨g, j * 12 + 2, none⟩ (.int .i64 (1 + (j : Int) * 12 + 1 + 1))).setCell ⟨g, j * 12 + 3, none⟩ (.int .i64 (1 + (j : Int) * 12 + 1 + 1 + 1))).setCell ⟨g, j * 12 + 4, none⟩ (.int .i64 (1 + (j : Int) * 12 + 1 + 1 + 1 + 1))).setCell ⟨g, j * 12 + 5, none⟩ (.int .i64 (1 + (j : Int) * 12 + 1 + 1 + 1 + 1 + 1))).setCell ⟨g, j * 12 + 6, none⟩ (.int .i64 (1 + (j : Int) * 12 + 1 + 1 + 1 + 1 + 1 + 1))).setCell ⟨g, j * 12 + 7, none⟩ (.int .i64 (1 + (j : Int) * 12 + 1 + 1 + 1 + 1 + 1 + 1 + 1))).setCell ⟨g, j * 12 + 8, none⟩ (.int .i64 (1 + (j : Int) * 12 + 1 + 1 + 1 + 1 + 1 + 1 + 1 + 1))).setCell ⟨g, j * 12 + 9, none⟩ (.int .i64 (1 + (j : Int) * 12 + 1 + 1 + 1 + 1 + 1 + 1 + 1 + 1 + 1))).setCell ⟨g, j * 12 + 10, none⟩ (.int .i64 (1 + (j : Int) * 12 + 1 + 1 + 1 + 1 + 1 + 1 + 1 + 1 + 1 + 1))).setCell ⟨g, j * 12 + 11, none⟩ (.int .i64 (1 + (j : Int) * 12 + 1 + 1 + 1 + 1 + 1 + 1 + 1 + 1 + 1 + 1 + 1))) (Value.slice (some ⟨g, 0, none⟩) n c).ownBlock := by
  have q1 := ho.mark (by omega) (x := 1 + (j : Int) * 12) (by omega)
  have q2 := q1.mark (by omega) (x := 1 + (j : Int) * 12 + 1) (by omega)
  have q3 := q2.mark (by omega) (x := 1 + (j : Int) * 12 + 1 + 1) (by omega)
  have q4 := q3.mark (by omega) (x := 1 + (j : Int) * 12 + 1 + 1 + 1) (by omega)
  have q5 := q4.mark (by omega) (x := 1 + (j : Int) * 12 + 1 + 1 + 1 + 1) (by omega)
  have q6 := q5.mark (by omega) (x := 1 + (j : Int) * 12 + 1 + 1 + 1 + 1 + 1) (by omega)
  have q7 := q6.mark (by omega) (x := 1 + (j : Int) * 12 + 1 + 1 + 1 + 1 + 1 + 1) (by omega)
  have q8 := q7.mark (by omega) (x := 1 + (j : Int) * 12 + 1 + 1 + 1 + 1 + 1 + 1 + 1) (by omega)
  have q9 := q8.mark (by omega) (x := 1 + (j : Int) * 12 + 1 + 1 + 1 + 1 + 1 + 1 + 1 + 1) (by omega)
  have q10 := q9.mark (by omega) (x := 1 + (j : Int) * 12 + 1 + 1 + 1 + 1 + 1 + 1 + 1 + 1 + 1) (by omega)
  have q11 := q10.mark (by omega) (x := 1 + (j : Int) * 12 + 1 + 1 + 1 + 1 + 1 + 1 + 1 + 1 + 1 + 1) (by omega)
  have q12 := q11.mark (by omega) (x := 1 + (j : Int) * 12 + 1 + 1 + 1 + 1 + 1 + 1 + 1 + 1 + 1 + 1 + 1) (by omega)
  refine ⟨?_, ?_⟩
  · exact q12.congr fun q _ => by rw [show j * 12 + 1 + 1 + 1 + 1 + 1 + 1 + 1 + 1 + 1 + 1 + 1 + 1 = ((j + 1) * 12) from by omega]
  · have h0 : w.grownBy wr (some g) := hg
    exact (grown_trans (grown_trans (grown_trans (grown_trans (grown_trans (grown_trans (grown_trans (grown_trans (grown_trans (grown_trans (grown_trans (grown_trans h0 (grown_setG _ _ _ _)) (grown_setG _ _ _ _)) (grown_setG _ _ _ _)) (grown_setG _ _ _ _)) (grown_setG _ _ _ _)) (grown_setG _ _ _ _)) (grown_setG _ _ _ _)) (grown_setG _ _ _ _)) (grown_setG _ _ _ _)) (grown_setG _ _ _ _)) (grown_setG _ _ _ _)) (grown_setG _ _ _ _))
theorem markBodyS_any (base : Nat) (a : Option Addr) (n c : Nat) (U : Nat → Int) (w : World) (h : OwnL w base 48 12 (.slice a n c) n U) (hn : n ≤ 2097152) :
    Calls Tryz.prog 12 #[.slice a n c, .int .i64 1] w fun e w' => e = .returned (.int .i64 (1 + (n : Int) * 12)) ∧ OwnL w' base 48 12 (.slice a n c) n (fun q => 1 + (q : Int)) ∧ w.grownBy w' (Value.slice a n c).ownBlock := by
  have hset := cset_map
  go_enter Tryz.func12, Tryz.ntmps12
  go_wp2
  go_loopw [1, 5] (fun s i wr => ∃ j : Nat, j ≤ n ∧ i = .int .i64 (j : Int) ∧ s = .int .i64 (1 + (j : Int) * 12) ∧ OwnL wr base 48 12 (.slice a n c) n (mixU (j * 12) U) ∧ w.grownBy wr (Value.slice a n c).ownBlock) (fun _ i _ => n - (intOf i).toNat)
  case atStart => exact ⟨0, Nat.zero_le _, rfl, rfl, h.congr (fun q _ => by simp [mixU]), grown_refl _ _⟩
  case round =>
    obtain ⟨j, hj, rfl, rfl, ho, hg⟩ := hrel
    by_cases hlt : j < n
    · have hjn : (j : Int) < (n : Int) := by omega
      obtain ⟨g, rfl, hgb, hgl⟩ := ho.loc (by omega)
      have c0 := ho.cellq (q := j * 12) (by omega)
      have c1 := ho.cellq (q := j * 12 + 1) (by omega)
      have c2 := ho.cellq (q := j * 12 + 2) (by omega)
      have c3 := ho.cellq (q := j * 12 + 3) (by omega)
      have c4 := ho.cellq (q := j * 12 + 4) (by omega)
      have c5 := ho.cellq (q := j * 12 + 5) (by omega)
      have c6 := ho.cellq (q := j * 12 + 6) (by omega)
      have c7 := ho.cellq (q := j * 12 + 7) (by omega)
      have c8 := ho.cellq (q := j * 12 + 8) (by omega)
      have c9 := ho.cellq (q := j * 12 + 9) (by omega)
      have c10 := ho.cellq (q := j * 12 + 10) (by omega)
      have c11 := ho.cellq (q := j * 12 + 11) (by omega)
      have f0 := ho.fro
      go_wp2
      go_roundw
      case rel =>
        obtain ⟨r1, r2⟩ := markBody12 hlt ho hg
        exact ⟨j + 1, by omega, by go_num, congrArg (Value.int .i64) (by omega), r1, r2⟩
      case measure => simp [intOf]; omega
    · obtain rfl : j = n := by omega
      go_wp2
      go_ret
      exact ⟨rfl, ho.congr (fun q hq => by simp only [mixU]; rw [if_pos (by omega)]), hg⟩
theorem heldBodyS_any (a : Option Addr) (n c : Nat) (w : World) (h : Flat w a (n * 12) (fun q => 1 + (q : Int))) (hn : n ≤ 2097152) :
    Calls Tryz.prog 22 #[.slice a n c, .int .i64 1] w fun e w' => e = .returned (.int .i64 (1 + (n : Int) * 12)) ∧ w' = w := by
  go_enter Tryz.func22, Tryz.ntmps22
  go_wp2
  go_loop [1, 5] (fun s i => ∃ j : Nat, j ≤ n ∧ i = .int .i64 (j : Int) ∧ s = .int .i64 (1 + (j : Int) * 12)) (fun _ i => n - (intOf i).toNat)
  case atStart => exact ⟨0, Nat.zero_le _, rfl, rfl⟩
  case round =>
    obtain ⟨j, hj, rfl, rfl⟩ := hrel
    by_cases hlt : j < n
    · have hjn : (j : Int) < (n : Int) := by omega
      obtain ⟨b, o, rfl, hbl, hc⟩ := h (by omega)
      have c0 : w.cell? ⟨b, o + j * 12, none⟩ = some (.int .i64 (1 + (j : Int) * 12)) := (hc (j * 12) (by omega)).trans (congrArg (fun z => some (Value.int .i64 z)) (show (1 : Int) + ((j * 12 : Nat) : Int) = 1 + (j : Int) * 12 by omega))
      have c1 : w.cell? ⟨b, o + j * 12 + 1, none⟩ = some (.int .i64 (1 + (j : Int) * 12 + 1)) := (hc (j * 12 + 1) (by omega)).trans (congrArg (fun z => some (Value.int .i64 z)) (show (1 : Int) + ((j * 12 + 1 : Nat) : Int) = 1 + (j : Int) * 12 + 1 by omega))
      have c2 : w.cell? ⟨b, o + j * 12 + 2, none⟩ = some (.int .i64 (1 + (j : Int) * 12 + 1 + 1)) := (hc (j * 12 + 2) (by omega)).trans (congrArg (fun z => some (Value.int .i64 z)) (show (1 : Int) + ((j * 12 + 2 : Nat) : Int) = 1 + (j : Int) * 12 + 1 + 1 by omega))
      have c3 : w.cell? ⟨b, o + j * 12 + 3, none⟩ = some (.int .i64 (1 + (j : Int) * 12 + 1 + 1 + 1)) := (hc (j * 12 + 3) (by omega)).trans (congrArg (fun z => some (Value.int .i64 z)) (show (1 : Int) + ((j * 12 + 3 : Nat) : Int) = 1 + (j : Int) * 12 + 1 + 1 + 1 by omega))
      have c4 : w.cell? ⟨b, o + j * 12 + 4, none⟩ = some (.int .i64 (1 + (j : Int) * 12 + 1 + 1 + 1 + 1)) := (hc (j * 12 + 4) (by omega)).trans (congrArg (fun z => some (Value.int .i64 z)) (show (1 : Int) + ((j * 12 + 4 : Nat) : Int) = 1 + (j : Int) * 12 + 1 + 1 + 1 + 1 by omega))
      have c5 : w.cell? ⟨b, o + j * 12 + 5, none⟩ = some (.int .i64 (1 + (j : Int) * 12 + 1 + 1 + 1 + 1 + 1)) := (hc (j * 12 + 5) (by omega)).trans (congrArg (fun z => some (Value.int .i64 z)) (show (1 : Int) + ((j * 12 + 5 : Nat) : Int) = 1 + (j : Int) * 12 + 1 + 1 + 1 + 1 + 1 by omega))
      have c6 : w.cell? ⟨b, o + j * 12 + 6, none⟩ = some (.int .i64 (1 + (j : Int) * 12 + 1 + 1 + 1 + 1 + 1 + 1)) := (hc (j * 12 + 6) (by omega)).trans (congrArg (fun z => some (Value.int .i64 z)) (show (1 : Int) + ((j * 12 + 6 : Nat) : Int) = 1 + (j : Int) * 12 + 1 + 1 + 1 + 1 + 1 + 1 by omega))
      have c7 : w.cell? ⟨b, o + j * 12 + 7, none⟩ = some (.int .i64 (1 + (j : Int) * 12 + 1 + 1 + 1 + 1 + 1 + 1 + 1)) := (hc (j * 12 + 7) (by omega)).trans (congrArg (fun z => some (Value.int .i64 z)) (show (1 : Int) + ((j * 12 + 7 : Nat) : Int) = 1 + (j : Int) * 12 + 1 + 1 + 1 + 1 + 1 + 1 + 1 by omega))
      have c8 : w.cell? ⟨b, o + j * 12 + 8, none⟩ = some (.int .i64 (1 + (j : Int) * 12 + 1 + 1 + 1 + 1 + 1 + 1 + 1 + 1)) := (hc (j * 12 + 8) (by omega)).trans (congrArg (fun z => some (Value.int .i64 z)) (show (1 : Int) + ((j * 12 + 8 : Nat) : Int) = 1 + (j : Int) * 12 + 1 + 1 + 1 + 1 + 1 + 1 + 1 + 1 by omega))
      have c9 : w.cell? ⟨b, o + j * 12 + 9, none⟩ = some (.int .i64 (1 + (j : Int) * 12 + 1 + 1 + 1 + 1 + 1 + 1 + 1 + 1 + 1)) := (hc (j * 12 + 9) (by omega)).trans (congrArg (fun z => some (Value.int .i64 z)) (show (1 : Int) + ((j * 12 + 9 : Nat) : Int) = 1 + (j : Int) * 12 + 1 + 1 + 1 + 1 + 1 + 1 + 1 + 1 + 1 by omega))
      have c10 : w.cell? ⟨b, o + j * 12 + 10, none⟩ = some (.int .i64 (1 + (j : Int) * 12 + 1 + 1 + 1 + 1 + 1 + 1 + 1 + 1 + 1 + 1)) := (hc (j * 12 + 10) (by omega)).trans (congrArg (fun z => some (Value.int .i64 z)) (show (1 : Int) + ((j * 12 + 10 : Nat) : Int) = 1 + (j : Int) * 12 + 1 + 1 + 1 + 1 + 1 + 1 + 1 + 1 + 1 + 1 by omega))
      have c11 : w.cell? ⟨b, o + j * 12 + 11, none⟩ = some (.int .i64 (1 + (j : Int) * 12 + 1 + 1 + 1 + 1 + 1 + 1 + 1 + 1 + 1 + 1 + 1)) := (hc (j * 12 + 11) (by omega)).trans (congrArg (fun z => some (Value.int .i64 z)) (show (1 : Int) + ((j * 12 + 11 : Nat) : Int) = 1 + (j : Int) * 12 + 1 + 1 + 1 + 1 + 1 + 1 + 1 + 1 + 1 + 1 + 1 by omega))
      clear hc h
      go_wp2
      go_round
      case rel => exact ⟨j + 1, by omega, by go_num, congrArg (Value.int .i64) (by omega)⟩
      case measure => simp [intOf]; omega
    · obtain rfl : j = n := by omega
      go_wp2
      go_ret
      exact ⟨rfl, rfl⟩
theorem groupOfI_r {n : Nat} {U R : Nat → Int} {q : Int} (hR : R = ofL (rsL U (gofS n U q))) (a : Option Addr) (c N : Nat) (w : World) (h : Flat w a (n * 12) U) (hn : n ≤ 1048576) (hN : (gofS n U q).length = N) :
    Calls Tryz.prog 21 #[.slice a n c, .int .i64 q] w fun e w' => ∃ a' c', e = .returned (.slice a' N c') ∧ OutL w w' 48 12 a' N c' R := by subst hR; exact groupOfI_q a n c U q N w h hn hN
theorem groupOfS_r {n : Nat} {U R : Nat → Int} {q : Int} (hR : R = ofL (rsL U (gofS n U q))) (a : Option Addr) (c N : Nat) (w : World) (h : Flat w a (n * 12) U) (hn : n ≤ 1048576) (hN : (gofS n U q).length = N) :
    Calls Tryz.prog 20 #[.slice a n c, .int .i64 q] w fun e w' => ∃ a' c', e = .returned (.slice a' N c') ∧ OutL w w' 48 12 a' N c' R := by subst hR; exact groupOfS_q a n c U q N w h hn hN
theorem fnExactGroupOf_walk (a : Option Addr) (n c : Nat) (U : Nat → Int) (q : Int) (w : World) (h : Flat w a (n * 12) U) (hn : (n : Int) ≤ 9223372036854775807) :
    Calls Tryz.prog 5 #[.slice a n c, .int .i64 q] w fun e w' => e = .returned (.bool true) ∧ Below w.heap.size w w' := by
  have hset := cset_map
  by_cases h20 : n ≤ 1048576
  · have h1 : ¬ (1048576 - (n : Int) < 0) := by omega
    obtain ⟨N, hN5⟩ : ∃ N, (gofS n U q).length = N := ⟨_, rfl⟩
    have hN12 := gofS_len n U q
    have hN20 : N ≤ 1048576 := by omega
    obtain ⟨R, hR⟩ : ∃ R, R = ofL (rsL U (gofS n U q)) := ⟨_, rfl⟩
    go_enter Tryz.func5, Tryz.ntmps5
    go_upto_region 5 with (go_at_call 6; refine (szBodyS_any _ _ _ _ hn).mono ?_; rw [if_pos h20]; rintro e w0 ⟨rfl, rfl⟩)
    go_cut [6] (fun s wc => ∃ aw cw lw hw, s = .slice aw N cw ∧ w0.heap.size ≤ lw ∧ lw ≤ hw ∧ Below w0.heap.size w0 wc ∧ Lv wc lw hw 48 12 aw N cw R)
    case first =>
      go_wp2_with (first
        | (go_at_call 8; refine (toBodyS_any _ _ _ U _ h h20).mono ?_; rintro e w2 ⟨b2, rfl, hl2, hr2, hb2⟩)
        | (go_at_call 20; refine (groupOfS_r hR _ _ N _ hr2.flat h20 hN5).mono ?_; rintro e w3 ⟨a3, c3, rfl, hO3⟩))
      go_meet
      exact ⟨_, _, _, _, rfl, hb2.size, hO3.bel.size, hb2.trans (hO3.bel.mono hb2.size), hO3.lv⟩
    case rest =>
    obtain ⟨aw, cw, lw, hw, rfl, g1, g2, hB, hW⟩ := hcut
    go_upto_region 6 with fail
    go_cut [7] (fun s wc => ∃ ax cx lx hx, s = .slice ax n cx ∧ n ≤ cx ∧ hw ≤ lx ∧ lx ≤ hx ∧ Below w0.heap.size w0 wc ∧ Lv wc lw hw 48 12 aw N cw R ∧ Lv wc lx hx 48 12 ax n cx U)
    case first =>
      go_wp2_with (go_at_call 8; refine (toBodyS_any _ _ _ U _ (h.below hB) h20).mono ?_; rintro e w2 ⟨b2, rfl, hl2, hr2, hb2⟩)
      go_meet
      exact ⟨_, _, _, _, rfl, Nat.le_refl _, hW.le, hb2.size, hB.trans (hb2.mono hB.size), hW.on hb2, Lv.row hr2 hl2 h20⟩
    case rest =>
    clear hB hW
    obtain ⟨ax, cx, lx, hx, rfl, hcx, g3, g4, hB, hW, hX⟩ := hcut
    go_upto_region 7 with fail
    go_cut [8] (fun s wc => ∃ ag cg lg hg, s = .slice ag N cg ∧ hx ≤ lg ∧ lg ≤ hg ∧ Below w0.heap.size w0 wc ∧ Lv wc lw hw 48 12 aw N cw R ∧ Lv wc lx hx 48 12 ax n cx U ∧ Lv wc lg hg 48 12 ag N cg R)
    case first =>
      go_wp2_with (go_at_call 21; refine (groupOfI_r hR _ _ N _ hX.flat h20 hN5).mono ?_; rintro e w3 ⟨a3, c3, rfl, hO3⟩)
      go_meet
      exact ⟨_, _, _, _, rfl, hX.le, hO3.bel.size, hB.trans (hO3.bel.mono hB.size), hW.on hO3.bel, hX.on hO3.bel, hO3.lv⟩
    case rest =>
    clear hB hW hX
    obtain ⟨ag, cg, lg, hg, rfl, g5, g6, hB, hW, hX, hG⟩ := hcut
    go_upto_region 8 with fail
    go_cut [30] (fun s wc => s = .bool false ∧ Below w0.heap.size w0 wc ∧ Lv wc lw hw 48 12 aw N cw R ∧ Lv wc lx hx 48 12 ax n cx U ∧ Lv wc lg hg 48 12 ag N cg R)
    case first =>
      go_wp2_with (go_at_call 11; refine (eqBodyS_same _ _ _ _ _ R _ hG.flat hW.flat hN20).mono ?_; rintro e w8 ⟨rfl, hb8⟩)
      go_meet
      exact ⟨rfl, hB.trans (hb8.mono hB.size), hW.on hb8, hX.on hb8, hG.on hb8⟩
    case rest =>
    clear hB hW hX hG
    obtain ⟨rfl, hB, hW, hX, hG⟩ := hcut
    go_upto_region 10 with fail
    go_cut [35] (fun s wc => s = .bool false ∧ Below w0.heap.size w0 wc ∧ Lv wc lw hw 48 12 aw N cw R ∧ Lv wc lx hx 48 12 ax n cx U ∧ Lv wc lg hg 48 12 ag N cg R)
    case first =>
      go_wp2_with (first
        | (go_at_call 8; refine (toBodyS_any _ _ _ U _ (h.below hB) h20).mono ?_; rintro e w6 ⟨b6, rfl, hl6, hr6, hb6⟩)
        | (go_at_call 11; refine (eqBodyS_same _ _ _ _ _ U _ (hX.on hb6).flat hr6.flat h20).mono ?_; rintro e w7 ⟨rfl, hb7⟩))
      go_meet
      have hb67 := hb6.trans (hb7.mono hb6.size)
      exact ⟨rfl, hB.trans (hb67.mono hB.size), hW.on hb67, hX.on hb67, hG.on hb67⟩
    case rest =>
    clear hB hW hX hG
    obtain ⟨rfl, hB, hW, hX, hG⟩ := hcut
    go_upto_region 13 with fail
    go_cut [9] (fun s wc => s = .int .i64 (1 + (n : Int) * 12) ∧ Below w0.heap.size w0 wc ∧ Lv wc lw hw 48 12 aw N cw R ∧ Lv wc lx hx 48 12 ax n cx (fun q => 1 + (q : Int)) ∧ Lv wc lg hg 48 12 ag N cg R)
    case first =>
      go_wp2_with (go_at_call 12; refine (markBodyS_any lx _ _ _ U _ hX.own (by omega)).mono ?_; rintro e w2 ⟨rfl, ho2, hg2⟩)
      go_meet
      exact ⟨rfl, hX.below hB hB.size hg2 (by omega), hW.gr hX hg2 (.inl (by omega)), hX.me hg2 ho2, hG.gr hX hg2 (.inr (by omega))⟩
    case rest =>
    clear hB hW hX hG
    obtain ⟨rfl, hB, hW, hX, hG⟩ := hcut
    have hk0 : ¬ ((1 + (n : Int) * 12) < 0) := by omega
    go_upto_region 14 with fail
    go_cut [46] (fun s wc => s = .bool false ∧ Below w0.heap.size w0 wc ∧ Lv wc lw hw 48 12 aw N cw R ∧ Lv wc lx hx 48 12 ax n cx (fun q => 1 + (q : Int)) ∧ Lv wc lg hg 48 12 ag N cg R)
    case first =>
      go_wp2_with (go_at_call 11; refine (eqBodyS_same _ _ _ _ _ R _ hG.flat hW.flat hN20).mono ?_; rintro e w9 ⟨rfl, hb9⟩)
      go_meet
      exact ⟨rfl, hB.trans (hb9.mono hB.size), hW.on hb9, hX.on hb9, hG.on hb9⟩
    case rest =>
    clear hB hW hX hG
    obtain ⟨rfl, hB, hW, hX, hG⟩ := hcut
    go_upto_region 17 with fail
    go_cut [10] (fun s wc => s = .int .i64 (1 + (N : Int) * 12) ∧ Below w0.heap.size w0 wc ∧ Lv wc lw hw 48 12 aw N cw R ∧ Lv wc lx hx 48 12 ax n cx (fun q => 1 + (q : Int)) ∧ Lv wc lg hg 48 12 ag N cg (fun q => 1 + (q : Int)))
    case first =>
      go_wp2_with (go_at_call 12; refine (markBodyS_any lg _ _ _ R _ hG.own (by omega)).mono ?_; rintro e w2 ⟨rfl, ho2, hg2⟩)
      go_meet
      exact ⟨rfl, hG.below hB hB.size hg2 (by omega), hW.gr hG hg2 (.inl (by omega)), hX.gr hG hg2 (.inl (by omega)), hG.me hg2 ho2⟩
    case rest =>
    clear hB hW hX hG
    obtain ⟨rfl, hB, hW, hX, hG⟩ := hcut
    have hk1 : ¬ ((1 + (N : Int) * 12) < 0) := by omega
    go_upto_region 19 with fail
    go_cut [11] (fun s wc => s = .int .i64 (1 + (N : Int) * 12) ∧ Below w0.heap.size w0 wc ∧ Lv wc lw hw 48 12 aw N cw R ∧ Lv wc lx hx 48 12 ax n cx (fun q => 1 + (q : Int)) ∧ Lv wc lg hg 48 12 ag N cg (fun q => 1 + (q : Int)))
    case first =>
      go_wp2_with (go_at_call 22; refine (heldBodyS_any _ _ _ _ hG.flat (by omega)).mono ?_; rintro e w2 ⟨rfl, rfl⟩)
      go_meet
      exact ⟨rfl, hB, hW, hX, hG⟩
    case rest =>
    clear hB hW hX hG
    obtain ⟨rfl, hB, hW, hX, hG⟩ := hcut
    go_upto_region 24 with fail
    go_cut [12] (fun s wc => ∃ ah ch lh hh, s = .slice ah N ch ∧ Below w0.heap.size w0 wc ∧ Lv wc lw hw 48 12 aw N cw R ∧ Lv wc lx hx 48 12 ax n cx (fun q => 1 + (q : Int)) ∧ Lv wc lg hg 48 12 ag N cg (fun q => 1 + (q : Int)) ∧ Lv wc lh hh 48 12 ah N ch R)
    case first =>
      go_wp2_with (first
        | (go_at_call 8; refine (toBodyS_any _ _ _ U _ (h.below hB) h20).mono ?_; rintro e w2 ⟨b2, rfl, hl2, hr2, hb2⟩)
        | (go_at_call 21; refine (groupOfI_r hR _ _ N _ hr2.flat h20 hN5).mono ?_; rintro e w3 ⟨a3, c3, rfl, hO3⟩))
      go_meet
      have hb23 := hb2.trans (hO3.bel.mono hb2.size)
      exact ⟨_, _, _, _, rfl, hB.trans (hb23.mono hB.size), hW.on hb23, hX.on hb23, hG.on hb23, hO3.lv⟩
    case rest =>
    clear hB hW hX hG
    obtain ⟨ah, ch, lh, hh, rfl, hB, hW, hX, hG, hH⟩ := hcut
    go_upto_region 25 with fail
    go_cut [65] (fun s wc => s = .bool false ∧ Below w0.heap.size w0 wc ∧ Lv wc lg hg 48 12 ag N cg (fun q => 1 + (q : Int)))
    case first =>
      go_wp2_with (go_at_call 11; refine (eqBodyS_same _ _ _ _ _ R _ hH.flat hW.flat hN20).mono ?_; rintro e w9 ⟨rfl, hb9⟩)
      go_meet
      exact ⟨rfl, hB.trans (hb9.mono hB.size), hG.on hb9⟩
    case rest =>
    clear hB hW hX hG hH
    obtain ⟨rfl, hB, hG⟩ := hcut
    go_upto_region 28 with fail
    go_wp2_with (go_at_call 22; refine (heldBodyS_any _ _ _ _ hG.flat (by omega)).mono ?_; rintro e w2 ⟨rfl, rfl⟩)
    go_ret
    exact ⟨rfl, hB⟩
  · have h1 : (1048576 - (n : Int) < 0) := by omega
    go_enter Tryz.func5, Tryz.ntmps5
    go_wp2_with (go_at_call 6; refine (szBodyS_any _ _ _ _ hn).mono ?_; rw [if_neg h20]; rintro e w0 ⟨rfl, rfl⟩)
    go_ret
    exact ⟨rfl, Below.refl _ _⟩
end Go.Proofs.YtlbpmmjckoaleaaGreat
namespace Go.Proofs.YtlbpmmjckoaleaaGreat
theorem head_cut {l : List (List Char)} {c : List Char} (h : (l.head? == some c) = true) : ∃ rest, l = c :: rest := by
  cases l with
  | nil => simp at h
  | cons a r => simp at h; exact ⟨r, by rw [h]⟩
theorem strip_cut (rest : List (List Char)) : stripLifts liftWords ("cut".toList :: rest) = ([], "cut".toList :: rest) := by kernel_rfl
theorem make_of {P : Program} {l : List Char} (h0 : P.initOrder.toList = l) (h1 : ((behindMainWord (wordsSigns l)).head? == some "cut".toList) = true) : P.make = some .cut := by
  obtain ⟨rest, hr⟩ := head_cut h1
  unfold Program.make
  rw [h0, hr]
  rfl
theorem headLifts_of {P : Program} {l : List Char} (h0 : P.initOrder.toList = l) (h1 : ((behindMainWord (wordsSigns l)).head? == some "cut".toList) = true) : P.headLifts = [] := by
  obtain ⟨rest, hr⟩ := head_cut h1
  unfold Program.headLifts
  rw [h0, hr, strip_cut]
  rfl
theorem liftsFinal_of {P : Program} {l : List Char} (h0 : P.initOrder.toList = l) (h1 : ((behindMainWord (wordsSigns l)).head? == some "cut".toList) = true) : P.liftsFinal = false := by
  have hh := headLifts_of h0 h1
  obtain ⟨rest, hr⟩ := head_cut h1
  unfold Program.liftsFinal
  rw [h0, hr, hh]
  rfl
theorem mayEnter_of {P : Program} {l : List Char} (h0 : P.initOrder.toList = l) (h1 : ((behindMainWord (wordsSigns l)).head? == some "cut".toList) = true) (h2 : P.laysLater = false) (h3 : P.bearsReflect = false) (h4 : P.doorFits [] = true) : P.mayEnter = true := by
  obtain ⟨rest, hr⟩ := head_cut h1
  unfold Program.mayEnter
  rw [h0, hr]
  simp only [strip_cut, h2, h3, h4]
  simp
end Go.Proofs.YtlbpmmjckoaleaaGreat
namespace Go.Proofs.YtlbpmmjckoaleaaGreat
set_option maxRecDepth 100000
def ordL : { l : List Char // Tryz.prog.initOrder = String.ofList l } := ⟨_, rfl⟩
theorem ordT : Tryz.prog.initOrder.toList = ordL.1 := (congrArg String.toList ordL.2).trans String.toList_ofList
theorem headE : ((behindMainWord (wordsSigns ordL.1)).head? == some "cut".toList) = true := by kernel_rfl
theorem makeT : Tryz.prog.make = some .cut := make_of ordT headE
theorem liftsFinalT : Tryz.prog.liftsFinal = false := liftsFinal_of ordT headE
theorem laysLaterT : Tryz.prog.laysLater = false := by kernel_rfl
theorem bearsReflectT : Tryz.prog.bearsReflect = false := by kernel_rfl
theorem doorFitsT : Tryz.prog.doorFits [] = true := by kernel_rfl
theorem mayEnterT : Tryz.prog.mayEnter = true := mayEnter_of ordT headE laysLaterT bearsReflectT doorFitsT
theorem ownT : ownKnob Tryz.prog.godebug = none := by kernel_rfl
theorem laidOutT : laidOutB Tryz.prog = true := by kernel_rfl
theorem mapsRowedT : mapsRowed Tryz.prog = true := by kernel_rfl
theorem stopsHeardT : Tryz.prog.stopsHeard = true := by kernel_rfl
theorem plainKeysT : Tryz.prog.plainKeys = true := by kernel_rfl
end Go.Proofs.YtlbpmmjckoaleaaGreat
namespace Go.Proofs.YtlbpmmjckoaleaaGreat
open Go.RowKit Go.ChangeShapes Go.WideShapes Go.Deep
set_option linter.unusedVariables false
set_option linter.unusedSimpArgs false
def IntsOf (P : Program) (e : TypeId) (k : Nat) : Prop :=
  ∀ (H : Type) (enc : TypeId × Value → H) (w : World) (base : Nat) (spare : Nat → Bool) (held : Bool) (fuel : Nat) (cs : List Value) (x : DataW H × List MemPlace),
    DataW.trod enc P w base spare held fuel e cs = some x → cs.length = k ∧ ∀ j, j < k → ∃ v : Int, cs[j]? = some (.int .i64 v) ∧ (Lit.int .i64 v).wf = true
theorem IntsOf.int {P : Program} {e : TypeId} (h : P.underlying e = some (.int .i64)) : IntsOf P e 1 := by
  intro H enc w base spare held fuel cs x hx
  obtain ⟨v, h1, _, h3⟩ := DataW.trod_int h hx
  subst h1
  refine ⟨rfl, fun j hj => ?_⟩
  obtain rfl : j = 0 := by omega
  exact ⟨v, rfl, h3⟩
theorem IntsOf.struct {P : Program} {t : TypeId} {k : Nat} {fs : Array Field} (cs_ : List Nat) (ht : P.underlying t = some (.struct fs)) (hk : P.cellsOf t = k)
    (hf : ∀ (i : Nat) (f : Field) (c : Nat), fs[i]? = some f → cs_[i]? = some c → P.cellsOf f.type = c ∧ IntsOf P f.type c)
    (cover : (List.range k).all (fun j => (List.range fs.size).any fun i => match fs[i]?, cs_[i]? with | some f, some c => decide (f.offset ≤ j ∧ j < f.offset + c) | _, _ => false) = true) : IntsOf P t k := by
  intro H enc w base spare held fuel cs x hx
  obtain ⟨xs, n, _, _, hl, hlen, hg⟩ := DataW.trod_struct ht hx
  rw [hk] at hl
  refine ⟨hl, fun j hj => ?_⟩
  rw [List.all_eq_true] at cover
  have c1 := cover j (List.mem_range.2 hj)
  rw [List.any_eq_true] at c1
  obtain ⟨i, hi, hm⟩ := c1
  have hi' := List.mem_range.1 hi
  cases hfi : fs[i]? with
  | none => simp [hfi] at hm
  | some f =>
    cases hci : cs_[i]? with
    | none => simp [hfi, hci] at hm
    | some c =>
      simp only [hfi, hci, decide_eq_true_eq] at hm
      obtain ⟨hc, hI⟩ := hf i f c hfi hci
      have g := hg i f hfi
      rw [hc] at g
      have hxi : i < xs.length := by rw [hlen]; exact hi'
      rw [List.getElem?_eq_getElem hxi] at g
      obtain ⟨_, q⟩ := hI H enc w base spare held _ _ _ g
      obtain ⟨v, hv, hw⟩ := q (j - f.offset) (by omega)
      refine ⟨v, ?_, hw⟩
      rw [List.getElem?_take, if_pos (by omega), List.getElem?_drop, show f.offset + (j - f.offset) = j by omega] at hv
      exact hv
theorem open_flat {P : Program} {t e : TypeId} {k : Nat} (hk0 : 0 < k) (ht : P.underlying t = some (.slice e)) (hk : P.cellsOf e = k) (hE : IntsOf P e k)
    {H : Type} {enc : TypeId × Value → H} {w : World} {base : Nat} {spare : Nat → Bool} {held : Bool} {fuel : Nat} {v : Value} {x : DataW H × List MemPlace}
    (h : DataW.trod enc P w base spare held fuel t [v] = some x) :
    ∃ (a : Option Addr) (n c : Nat) (U : Nat → Int), v = .slice a n c ∧ (n : Int) ≤ 9223372036854775807 ∧ Flat w a (n * k) U ∧ ∀ q, q < n * k → (Lit.int .i64 (U q)).wf = true := by
  rcases open_slice ht h with ⟨hc, _⟩ | ⟨a, len, cap, m, fu, D, Pl, hc, hb, hl, hm, hmm, _, hall⟩
  · simp only [List.cons.injEq, and_true] at hc
    subst hc
    exact ⟨none, 0, 0, fun _ => 0, rfl, by omega, by rw [Nat.zero_mul]; exact Flat.nil, fun q hq => by omega⟩
  · simp only [List.cons.injEq, and_true] at hc
    subst hc
    have hlm : len ≤ m := by rw [hmm]; split <;> omega
    have one : ∀ q, q < len * k → ∃ z : Int, w.cell? (a.add q) = some (.int .i64 z) ∧ (Lit.int .i64 z).wf = true := by
      intro q hq
      have hi : q / k < len := Nat.div_lt_of_lt_mul (by rw [Nat.mul_comm]; exact hq)
      obtain ⟨cs', h1, h2⟩ := hall (q / k) (by omega)
      obtain ⟨_, hlen, hcell⟩ := World.cells?_some h1
      obtain ⟨_, hv⟩ := hE H enc w base spare held _ _ _ h2
      obtain ⟨z, hz, hw⟩ := hv (q % k) (Nat.mod_lt _ hk0)
      have := hcell (q % k) (by rw [hk]; exact Nat.mod_lt _ hk0)
      rw [hz, hk, add_add, Nat.mul_comm, Nat.div_add_mod] at this
      exact ⟨z, this, hw⟩
    obtain ⟨U, hU⟩ := choose_lt one
    refine ⟨some a, len, cap, U, rfl, by unfold maxLen at hm; omega, ?_, fun q hq => (hU q hq).2⟩
    intro h0
    obtain ⟨b, o, spot⟩ := a
    have g0 := (hU 0 h0).1
    have hspot : spot = none := by simpa [Addr.add] using World.cell?_spot g0
    subst hspot
    have hbl := World.block_lt_of_cell? w _ g0
    simp only [Addr.add, if_true] at hbl
    refine ⟨b, o, rfl, hbl, fun q hq => ?_⟩
    have := (hU q hq).1
    by_cases hq0 : q = 0
    · subst hq0; simpa [Addr.add] using this
    · simpa [Addr.add, hq0] using this
end Go.Proofs.YtlbpmmjckoaleaaGreat
namespace Go.Proofs.YtlbpmmjckoaleaaGreat
open Go.RowKit Go.ChangeShapes Go.WideShapes Go.Deep
set_option linter.unusedVariables false
set_option linter.unusedSimpArgs false
theorem cellsI : Tryz.prog.cellsOf 3 = 1 := by kernel_rfl
theorem cellsV : Tryz.prog.cellsOf 51 = 2 := by kernel_rfl
theorem cellsSh : Tryz.prog.cellsOf 50 = 3 := by kernel_rfl
theorem cellsBd : Tryz.prog.cellsOf 53 = 12 := by kernel_rfl
theorem intsI : IntsOf Tryz.prog 3 1 := IntsOf.int Tryz.underlying3
theorem intsV : IntsOf Tryz.prog 51 2 := IntsOf.struct [1, 1] Tryz.underlying51 (by kernel_rfl) (fun i f c h1 h2 => match i, h1, h2 with
  | 0, h1, h2 => by cases h1; cases h2; exact ⟨cellsI, intsI⟩
  | 1, h1, h2 => by cases h1; cases h2; exact ⟨cellsI, intsI⟩
  | _ + 2, h1, h2 => by simp at h2) (by decide)
theorem intsSh : IntsOf Tryz.prog 50 3 := IntsOf.struct [1, 1, 1] Tryz.underlying50 (by kernel_rfl) (fun i f c h1 h2 => match i, h1, h2 with
  | 0, h1, h2 => by cases h1; cases h2; exact ⟨cellsI, intsI⟩
  | 1, h1, h2 => by cases h1; cases h2; exact ⟨cellsI, intsI⟩
  | 2, h1, h2 => by cases h1; cases h2; exact ⟨cellsI, intsI⟩
  | _ + 3, h1, h2 => by simp at h2) (by decide)
theorem intsBd : IntsOf Tryz.prog 53 12 := IntsOf.struct [1, 3, 2, 2, 1, 1, 1, 1] Tryz.underlying53 (by kernel_rfl) (fun i f c h1 h2 => match i, h1, h2 with
  | 0, h1, h2 => by cases h1; cases h2; exact ⟨cellsI, intsI⟩
  | 1, h1, h2 => by cases h1; cases h2; exact ⟨cellsSh, intsSh⟩
  | 2, h1, h2 => by cases h1; cases h2; exact ⟨cellsV, intsV⟩
  | 3, h1, h2 => by cases h1; cases h2; exact ⟨cellsV, intsV⟩
  | 4, h1, h2 => by cases h1; cases h2; exact ⟨cellsI, intsI⟩
  | 5, h1, h2 => by cases h1; cases h2; exact ⟨cellsI, intsI⟩
  | 6, h1, h2 => by cases h1; cases h2; exact ⟨cellsI, intsI⟩
  | 7, h1, h2 => by cases h1; cases h2; exact ⟨cellsI, intsI⟩
  | _ + 8, h1, h2 => by simp at h2) (by decide)
theorem open_bodies {H : Type} {enc : TypeId × Value → H} {W : World} {base b0 : Nat} {spare : Nat → Bool} {held : Bool} {v : Value} {d : DataW H} {p : List MemPlace}
    (hv : Value.okWide Tryz.prog W .any b0 22 v) (h : DataW.Trod enc Tryz.prog W base spare held 22 v d p) :
    ∃ (a : Option Addr) (n c : Nat) (U : Nat → Int), v = .slice a n c ∧ (n : Int) ≤ 9223372036854775807 ∧ Flat W a (n * 12) U ∧ ∀ q, q < n * 12 → (Lit.int .i64 (U q)).wf = true := by
  obtain ⟨a0, len, cap, rfl⟩ := okWide_slice Tryz.underlying22 hv
  obtain ⟨fuel, hf⟩ := h
  exact open_flat (by decide) Tryz.underlying22 cellsBd intsBd hf
end Go.Proofs.YtlbpmmjckoaleaaGreat
