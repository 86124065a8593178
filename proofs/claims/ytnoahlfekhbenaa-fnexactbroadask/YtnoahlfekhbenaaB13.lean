/- Lists of numbers: marked, held, held against each other. The walk of the exact law of BroadAsk. Lemmas on whatever program: from the head of its cut's word to the closed facts. Closed facts of the loaded program, each a theorem of its own. Slices of things that are numbers alone, as they come in. Boxes by number that came in. A box that came in by value is four integers. -/
import Derived.Test.YtnoahlfekhbenaaB12
import Derived.Test.YtnoahlfekhbenaaB1
import Derived.Test.YtnoahlfekhbenaaB3
import Derived.Deep.RegionHeld3
import Derived.Deep.DeepCutAuto
import Derived.Test.YtnoahlfekhbenaaB5
import Derived.Test.YtnoahlfekhbenaaB10
import Derived.Test.YtnoahlfekhbenaaRows
import Derived.WalkKit
import Derived.JoinedOf
import Derived.ProofKit
import Derived.Deep.Slices
import Derived.ChangeSame
import Derived.ChangeArms
import Derived.OpenShut
import Derived.Lib.SmallJoins
namespace Go.Proofs.Ytnoahlfekhbenaa
open Go.RowKit
set_option linter.unusedVariables false
set_option linter.unusedSimpArgs false
theorem markInt1 {w wr : World} {base g n c j : Nat} {U : Nat → Int} (hlt : j < n) (ho : OwnL wr base 3 1 (.slice (some ⟨g, 0, none⟩) n c) n (mixU (j) U)) (hg : w.grownBy wr (Value.slice (some ⟨g, 0, none⟩) n c).ownBlock) :
    OwnL (wr.setCell ⟨g, j, none⟩ (.int .i64 (1 + (j : Int)))) base 3 1 (.slice (some ⟨g, 0, none⟩) n c) n (mixU (j + 1) U) ∧
    w.grownBy (wr.setCell ⟨g, j, none⟩ (.int .i64 (1 + (j : Int)))) (Value.slice (some ⟨g, 0, none⟩) n c).ownBlock := by
  have q1 := ho.mark (by omega) (x := 1 + (j : Int)) (by omega)
  refine ⟨?_, ?_⟩
  · exact q1.congr fun q _ => by rw [show j + 1 = (j + 1) from by omega]
  · have h0 : w.grownBy wr (some g) := hg
    exact (grown_trans h0 (grown_setG _ _ _ _))
set_option maxRecDepth 20000 in
set_option maxHeartbeats 2000000 in
theorem markIntS_any (base : Nat) (a : Option Addr) (n c : Nat) (U : Nat → Int) (w : World) (h : OwnL w base 3 1 (.slice a n c) n U) (hn : n ≤ 2097152) :
    Calls Try.prog 12 #[.slice a n c, .int .i64 1] w fun e w' => e = .returned (.int .i64 (1 + (n : Int))) ∧ OwnL w' base 3 1 (.slice a n c) n (fun q => 1 + (q : Int)) ∧ w.grownBy w' (Value.slice a n c).ownBlock := by
  have hset := cset_map
  go_enter Try.func12, Try.ntmps12
  go_wp2
  go_loopw [1, 5] (fun s i wr => ∃ j : Nat, j ≤ n ∧ i = .int .i64 (j : Int) ∧ s = .int .i64 (1 + (j : Int)) ∧ OwnL wr base 3 1 (.slice a n c) n (mixU (j) U) ∧ w.grownBy wr (Value.slice a n c).ownBlock) (fun _ i _ => n - (intOf i).toNat)
  case atStart => exact ⟨0, Nat.zero_le _, rfl, rfl, h.congr (fun q _ => by simp [mixU]), grown_refl _ _⟩
  case round =>
    obtain ⟨j, hj, rfl, rfl, ho, hg⟩ := hrel
    by_cases hlt : j < n
    · have hjn : (j : Int) < (n : Int) := by omega
      obtain ⟨g, rfl, hgb, hgl⟩ := ho.loc (by omega)
      have c0 := ho.cellq (q := j) (by omega)
      have f0 := ho.fro
      go_wp2
      go_roundw
      case rel =>
        obtain ⟨r1, r2⟩ := markInt1 hlt ho hg
        exact ⟨j + 1, by omega, by go_num, congrArg (Value.int .i64) (by omega), r1, r2⟩
      case measure => simp [intOf]; omega
    · obtain rfl : j = n := by omega
      go_wp2
      go_ret
      exact ⟨rfl, ho.congr (fun q hq => by simp only [mixU]; rw [if_pos (by omega)]), hg⟩
set_option maxRecDepth 20000 in
set_option maxHeartbeats 2000000 in
theorem heldIntS_any (a : Option Addr) (n c : Nat) (w : World) (h : Flat w a (n * 1) (fun q => 1 + (q : Int))) (hn : n ≤ 2097152) :
    Calls Try.prog 13 #[.slice a n c, .int .i64 1] w fun e w' => e = .returned (.int .i64 (1 + (n : Int))) ∧ w' = w := by
  go_enter Try.func13, Try.ntmps13
  go_wp2
  go_loop [1, 5] (fun s i => ∃ j : Nat, j ≤ n ∧ i = .int .i64 (j : Int) ∧ s = .int .i64 (1 + (j : Int))) (fun _ i => n - (intOf i).toNat)
  case atStart => exact ⟨0, Nat.zero_le _, rfl, rfl⟩
  case round =>
    obtain ⟨j, hj, rfl, rfl⟩ := hrel
    by_cases hlt : j < n
    · have hjn : (j : Int) < (n : Int) := by omega
      obtain ⟨b, o, rfl, hbl, hc⟩ := h (by omega)
      have c0 : w.cell? ⟨b, o + j, none⟩ = some (.int .i64 (1 + (j : Int))) := (hc (j) (by omega)).trans (congrArg (fun z => some (Value.int .i64 z)) (show (1 : Int) + ((j : Nat) : Int) = 1 + (j : Int) by omega))
      clear hc h
      go_wp2
      go_round
      case rel => exact ⟨j + 1, by omega, by go_num, congrArg (Value.int .i64) (by omega)⟩
      case measure => simp [intOf]; omega
    · obtain rfl : j = n := by omega
      go_wp2
      go_ret
      exact ⟨rfl, rfl⟩
set_option maxRecDepth 20000 in
set_option maxHeartbeats 2000000 in
theorem eqIntS_same (a a' : Option Addr) (n c c' : Nat) (U : Nat → Int) (w : World) (h : Flat w a (n * 1) U) (h' : Flat w a' (n * 1) U) (hn : n ≤ 1048576) :
    Calls Try.prog 9 #[.slice a n c, .slice a' n c'] w fun e w' => e = .returned (.bool true) ∧ Below w.heap.size w w' := by
  have hset := cset_map
  go_enter Try.func9, Try.ntmps9
  go_wp2
  go_loopw [5] (fun i wr => ∃ k : Nat, k ≤ n ∧ i = .int .i64 (k : Int) ∧ Below w.heap.size w wr) (fun i _ => n - (intOf i).toNat)
  case atStart => exact ⟨0, Nat.zero_le _, rfl, Below.refl _ _⟩
  case round =>
    obtain ⟨k, hk, rfl, hB⟩ := hrel
    by_cases hlt : k < n
    · have hkn : (k : Int) < (n : Int) := by omega
      obtain ⟨b, o, rfl, hbl, hc⟩ := (h.below hB) (by omega)
      obtain ⟨b', o', rfl, hbl', hc'⟩ := (h'.below hB) (by omega)
      have c0 := hc (k) (by omega)
      have d0 := hc' (k) (by omega)
      (try simp only [← Nat.add_assoc, Nat.add_zero] at c0 d0)
      clear hc hc' h h'
      go_upto_region 6 with fail
      refine wp_region_held_drew (S := fun w' => w'.cell? ⟨b, o + k, none⟩ = some (.int .i64 (U (k))) ∧ w'.cell? ⟨b', o' + k, none⟩ = some (.int .i64 (U (k)))) (by kernel_rfl) ?_ (fun hHeld => ?_)
      · (try dsimp only)
        (first | (go_simp; done) | (go_keep; done))
      refine tq 0 hHeld ?_
      refine tq 1 hHeld ?_
      refine tq 2 hHeld ?_
      refine tq 3 hHeld ?_
      refine tq 4 hHeld ?_
      refine tq 5 hHeld ?_
      refine tq 6 hHeld ?_
      refine tq 7 hHeld ?_
      refine tq 8 hHeld ?_
      refine wpAnyH_done (by kernel_rfl) ?_ _
      go_wp2_with fail
      go_roundw
      case rel => exact ⟨k + 1, by omega, by go_num, hB.drew⟩
      case measure => simp [intOf]; omega
    · go_wp2
      go_ret
      exact ⟨rfl, hB⟩
end Go.Proofs.Ytnoahlfekhbenaa
namespace Go.Proofs.Ytnoahlfekhbenaa
open Go.RowKit
set_option linter.unusedVariables false
set_option linter.unusedSimpArgs false
theorem ask_i (ai : Option Addr) (n ci : Nat) (U : Nat → Int) (a b c d : Int) (N : Nat) (R : Nat → Int) (w : World) (h : Flat w ai (n * 5) U) (hn : n ≤ 1048576) (hN : (askL n U a b c d).length = N) (hR : R = ofL (askL n U a b c d)) :
    Calls Try.prog 8 #[.agg #[.slice ai n ci], b4 a b c d] w fun e w' => ∃ a' c', e = .returned (.slice a' N c') ∧ OutL w w' 3 1 a' N c' R := by
  subst hR
  cases hk : broadB n U && bokB a b c d with
  | false =>
    have e : askL n U a b c d = [] := by unfold askL; rw [hk]; rfl
    rw [e] at hN ⊢
    subst hN
    exact iAsk_f ai n ci U a b c d 0 w h hn hk
  | true =>
    have e : askL n U a b c d = ((List.range n).filter (Mt U a b c d)).map (fun i => U (i * 5)) := by unfold askL; rw [hk]; rfl
    rw [Bool.and_eq_true] at hk
    refine (iAsk_t ai n ci U a b c d 0 w h hn hk.1 hk.2).mono ?_
    rintro e' w' ⟨a', N', c', zs, rfl, hL, hz, hb⟩
    rw [e, ← hz] at hN ⊢
    obtain rfl : N' = N := by rw [← hN, hL.1]
    exact ⟨_, _, rfl, hb, hL.own⟩
theorem ask_s (ai : Option Addr) (n ci : Nat) (U : Nat → Int) (a b c d : Int) (N : Nat) (R : Nat → Int) (w : World) (h : Flat w ai (n * 5) U) (hn : n ≤ 1048576) (hN : (askL n U a b c d).length = N) (hR : R = ofL (askL n U a b c d)) :
    Calls Try.prog 5 #[.agg #[.slice ai n ci], b4 a b c d] w fun e w' => ∃ a' c', e = .returned (.slice a' N c') ∧ OutL w w' 3 1 a' N c' R := by
  subst hR
  cases hk : broadB n U && bokB a b c d with
  | false =>
    have e : askL n U a b c d = [] := by unfold askL; rw [hk]; rfl
    rw [e] at hN ⊢
    subst hN
    exact sAsk_f ai n ci U a b c d 0 w h hn hk
  | true =>
    have e : askL n U a b c d = ((List.range n).filter (Mt U a b c d)).map (fun i => U (i * 5)) := by unfold askL; rw [hk]; rfl
    rw [Bool.and_eq_true] at hk
    refine (sAsk_t ai n ci U a b c d 0 w h hn hk.1 hk.2).mono ?_
    rintro e' w' ⟨a', N', c', zs, rfl, hL, hz, hb⟩
    rw [e, ← hz] at hN ⊢
    obtain rfl : N' = N := by rw [← hN, hL.1]
    exact ⟨_, _, rfl, hb, hL.own⟩
theorem AQ.newT (w : World) (ai : Option Addr) (n ci : Nat) (a b c d : Int) (t1 t2 : TypeId) : AQ w ((w.alloc (.cells #[.slice ai n ci] t1)).alloc (.cells #[.int .i64 a, .int .i64 b, .int .i64 c, .int .i64 d] t2)) ai n ci a b c d :=
  ⟨bel_a, by simp, by go_simp, by go_simp, by go_simp, by go_simp, by go_simp⟩
theorem Lk.lv {w : World} {lo bx : Nat} {a : Option Addr} {n c : Nat} {U : Nat → Int} (h : Lk w lo bx a n c U) : Lv w lo bx 50 5 a n c U := ⟨h.own, h.top, Nat.le_of_lt h.lt⟩
set_option maxRecDepth 20000 in
set_option maxHeartbeats 1000000 in
theorem fnExactBroadAsk_walk (ai : Option Addr) (n ci : Nat) (U : Nat → Int) (a b c d : Int) (w : World) (h : Flat w ai (n * 5) U) (hn : (n : Int) ≤ 9223372036854775807) :
    Calls Try.prog 3 #[.agg #[.slice ai n ci], b4 a b c d] w fun e w' => e = .returned (.bool true) ∧ Below w.heap.size w w' := by
  have hset := cset_map
  by_cases h20 : n ≤ 1048576
  · have h1 : ¬ (1048576 - (n : Int) < 0) := by omega
    obtain ⟨N, hN⟩ : ∃ N, (askL n U a b c d).length = N := ⟨_, rfl⟩
    have hN20 : N ≤ 1048576 := by
      rw [← hN]
      unfold askL
      cases broadB n U && bokB a b c d
      · exact Nat.zero_le _
      · show (List.map _ _).length ≤ _
        rw [List.length_map]; exact Nat.le_trans (filt_len _ _) h20
    obtain ⟨R, hR⟩ : ∃ R, R = ofL (askL n U a b c d) := ⟨_, rfl⟩
    go_enter Try.func3, Try.ntmps3
    go_upto_region 2 with fail
    go_cut [5] (fun s wc => s = .int .i64 (1048576 - (n : Int)) ∧ AQ w wc ai n ci a b c d)
    case first =>
      have hA0 := AQ.newT w ai n ci a b c d 24 28
      go_wp2_with (go_at_call 4; refine (szBroad_any _ _ _ _ hn).mono ?_; rw [if_pos h20]; rintro e w1 ⟨rfl, hb1⟩)
      go_meet
      exact ⟨rfl, hA0.on hb1⟩
    case rest =>
    obtain ⟨rfl, hA⟩ := hcut
    go_upto_region 5 with fail
    have FF : ∀ w', Below wc.heap.size wc w' → w'.cell? ⟨w.heap.size, 0, none⟩ = some (.slice ai n ci) ∧ w'.cell? ⟨w.heap.size + 1, 0, none⟩ = some (.int .i64 a) ∧ w'.cell? ⟨w.heap.size + 1, 1, none⟩ = some (.int .i64 b) ∧ w'.cell? ⟨w.heap.size + 1, 2, none⟩ = some (.int .i64 c) ∧ w'.cell? ⟨w.heap.size + 1, 3, none⟩ = some (.int .i64 d) := fun w' s => ⟨keepc s hA.box, keepc s hA.q0, keepc s hA.q1, keepc s hA.q2, keepc s hA.q3⟩
    have hbig := hA.big
    go_cut [6] (fun s wc => ∃ aw cw lw hw, s = .slice aw N cw ∧ w.heap.size + 1 < lw ∧ lw ≤ hw ∧ AQ w wc ai n ci a b c d ∧ Lv wc lw hw 3 1 aw N cw R)
    case first =>
      refine wp_region_held_drew (S := fun w' => Below wc.heap.size wc w') (by kernel_rfl) ((Below.refl _ _).drew) (fun hHeld => ?_)
      refine tq 0 hHeld ?_ (hv := by (intro w' s; obtain ⟨q1, q2, q3, q4, q5⟩ := FF w' s; go_simp; (try with_reducible rfl)))
      refine tq 2 hHeld ?_ (hv := by (intro w' s; obtain ⟨q1, q2, q3, q4, q5⟩ := FF w' s; go_simp; (try with_reducible rfl)))
      refine tc 1 fun K hK => ?_
      (go_simp; (go_at_call 6; refine (toBroad_any _ _ _ U _ (h.below (hA.bel.trans (hHeld.mono (by have := hA.big; omega)))) h20).mono ?_; rintro e w6 ⟨b6, rfl, hl6, hr6, hb6⟩); (try go_wp2_with fail); refine tr hK (fun hHeld => ?_) (hHeld.trans (hb6.mono hHeld.size)); clear hK K)
      refine tc 3 fun K hK => ?_
      (go_simp; (go_at_call 7; refine (toBox_any _ _ _ _ _).mono ?_; rintro e w7 ⟨rfl, hb7⟩); (try go_wp2_with fail); refine tr hK (fun hHeld => ?_) (hHeld.trans (hb7.mono hHeld.size)); clear hK K)
      refine tc 4 fun K hK => ?_
      (go_simp; (go_at_call 5; refine (ask_s _ n _ U a b c d N R _ (by first | exact hr6.flat | exact hr6.flat.below hb7 | exact hr6.flat.below (hb7.ofDrew)) h20 hN hR).mono ?_; rintro e w8 ⟨a8, c8, rfl, hO8⟩; have hb8 := hO8.bel); (try go_wp2_with fail); refine tr hK (fun hHeld => ?_) (hHeld.trans (hb8.mono hHeld.size)); clear hK K)
      refine tq 5 hHeld ?_
      refine wpAnyH_done (by kernel_rfl) ?_ _
      go_wp2_with fail
      go_meet
      exact ⟨_, _, _, _, rfl, by have := hb6.size; have := hb7.size; (try simp only [World.size_drew] at *); omega, hO8.bel.size, hA.on hHeld, hO8.lv.on bel_a⟩
    case rest =>
    clear FF hbig hA
    obtain ⟨aw, cw, lw, hw, rfl, g1, g2, hA, hW⟩ := hcut
    have hbx := hA.box
    have hbig := hA.big
    go_upto_region 6 with fail
    go_cut [7] (fun s wc => ∃ ax cx lx bx, s = .pointer (some ⟨bx, 0, none⟩) ∧ hw ≤ lx ∧ lx ≤ bx ∧ AQ w wc ai n ci a b c d ∧ Lv wc lw hw 3 1 aw N cw R ∧ Lk wc lx bx ax n cx U)
    case first =>
      go_wp2_with (go_at_call 6; refine (toBroad_any _ _ _ U _ (h.below hA.bel) h20).mono ?_; rintro e w2 ⟨b2, rfl, hl2, hr2, hb2⟩)
      go_meet
      have hE : Below w2.heap.size w2 (w2.alloc (.cells #[.slice (some ⟨b2, 0, none⟩) n n] 34)) := (Below.refl _ _).alloc (Nat.le_refl _) _
      exact ⟨_, _, _, _, rfl, hW.le, hb2.size, (hA.on hb2).on hE, (hW.on hb2).on hE, Lk.row hr2 hl2 h20 _⟩
    case rest =>
    clear hA hW hbx hbig
    obtain ⟨ax, cx, lx, bx, rfl, g3, g4, hA, hW, hX⟩ := hcut
    have FF : ∀ w', Below wc.heap.size wc w' → w'.cell? ⟨w.heap.size, 0, none⟩ = some (.slice ai n ci) ∧ w'.cell? ⟨w.heap.size + 1, 0, none⟩ = some (.int .i64 a) ∧ w'.cell? ⟨w.heap.size + 1, 1, none⟩ = some (.int .i64 b) ∧ w'.cell? ⟨w.heap.size + 1, 2, none⟩ = some (.int .i64 c) ∧ w'.cell? ⟨w.heap.size + 1, 3, none⟩ = some (.int .i64 d) ∧ w'.cell? ⟨bx, 0, none⟩ = some (.slice ax n cx) := fun w' s => ⟨keepc s hA.box, keepc s hA.q0, keepc s hA.q1, keepc s hA.q2, keepc s hA.q3, keepc s hX.box⟩
    go_upto_region 7 with fail
    go_cut [8] (fun s wc => ∃ ag cg lg hg, s = .slice ag N cg ∧ bx < lg ∧ lg ≤ hg ∧ AQ w wc ai n ci a b c d ∧ Lv wc lw hw 3 1 aw N cw R ∧ Lk wc lx bx ax n cx U ∧ Lv wc lg hg 3 1 ag N cg R)
    case first =>
      refine wp_region_held_drew (S := fun w' => Below wc.heap.size wc w') (by kernel_rfl) ((Below.refl _ _).drew) (fun hHeld => ?_)
      refine tq 0 hHeld ?_ (hv := by (intro w' s; obtain ⟨q1, q2, q3, q4, q5, q6⟩ := FF w' s; go_simp; (try with_reducible rfl)))
      refine tq 1 hHeld ?_ (hv := by (intro w' s; obtain ⟨q1, q2, q3, q4, q5, q6⟩ := FF w' s; go_simp; (try with_reducible rfl)))
      refine tc 2 fun K hK => ?_
      (go_simp; (go_at_call 7; refine (toBox_any _ _ _ _ _).mono ?_; rintro e w7 ⟨rfl, hb7⟩); (try go_wp2_with fail); refine tr hK (fun hHeld => ?_) (hHeld.trans (hb7.mono hHeld.size)); clear hK K)
      refine tc 3 fun K hK => ?_
      (go_simp; (go_at_call 8; refine (ask_i _ n _ U a b c d N R _ (hX.flat.below hHeld) h20 hN hR).mono ?_; rintro e w8 ⟨a8, c8, rfl, hO8⟩; have hb8 := hO8.bel); (try go_wp2_with fail); refine tr hK (fun hHeld => ?_) (hHeld.trans (hb8.mono hHeld.size)); clear hK K)
      refine tq 4 hHeld ?_
      refine wpAnyH_done (by kernel_rfl) ?_ _
      go_wp2_with fail
      go_meet
      exact ⟨_, _, _, _, rfl, by have := hX.lt; have := hb7.size; (try simp only [World.size_drew] at *); omega, hO8.bel.size, hA.on hHeld, hW.on hHeld, hX.on hHeld, hO8.lv.on bel_a⟩
    case rest =>
    clear FF hA hW hX
    obtain ⟨ag, cg, lg, hg, rfl, g5, g6, hA, hW, hX, hG⟩ := hcut
    go_upto_region 8 with fail
    go_cut [32] (fun s wc => s = .bool false ∧ AQ w wc ai n ci a b c d ∧ Lv wc lw hw 3 1 aw N cw R ∧ Lk wc lx bx ax n cx U ∧ Lv wc lg hg 3 1 ag N cg R)
    case first =>
      go_wp2_with (go_at_call 9; refine (eqIntS_same _ _ _ _ _ R _ hG.flat hW.flat hN20).mono ?_; rintro e w8 ⟨rfl, hb8⟩)
      go_meet
      exact ⟨rfl, hA.on hb8, hW.on hb8, hX.on hb8, hG.on hb8⟩
    case rest =>
    clear hA hW hX hG
    obtain ⟨rfl, hA, hW, hX, hG⟩ := hcut
    have FF : ∀ w', Below wc.heap.size wc w' → w'.cell? ⟨w.heap.size, 0, none⟩ = some (.slice ai n ci) ∧ w'.cell? ⟨w.heap.size + 1, 0, none⟩ = some (.int .i64 a) ∧ w'.cell? ⟨w.heap.size + 1, 1, none⟩ = some (.int .i64 b) ∧ w'.cell? ⟨w.heap.size + 1, 2, none⟩ = some (.int .i64 c) ∧ w'.cell? ⟨w.heap.size + 1, 3, none⟩ = some (.int .i64 d) ∧ w'.cell? ⟨bx, 0, none⟩ = some (.slice ax n cx) := fun w' s => ⟨keepc s hA.box, keepc s hA.q0, keepc s hA.q1, keepc s hA.q2, keepc s hA.q3, keepc s hX.box⟩
    go_upto_region 10 with fail
    go_cut [37] (fun s wc => s = .bool false ∧ AQ w wc ai n ci a b c d ∧ Lv wc lw hw 3 1 aw N cw R ∧ Lk wc lx bx ax n cx U ∧ Lv wc lg hg 3 1 ag N cg R)
    case first =>
      refine wp_region_held_drew (S := fun w' => Below wc.heap.size wc w') (by kernel_rfl) ((Below.refl _ _).drew) (fun hHeld => ?_)
      refine tq 0 hHeld ?_ (hv := by (intro w' s; obtain ⟨q1, q2, q3, q4, q5, q6⟩ := FF w' s; go_simp; (try with_reducible rfl)))
      refine tq 1 hHeld ?_ (hv := by (intro w' s; obtain ⟨q1, q2, q3, q4, q5, q6⟩ := FF w' s; go_simp; (try with_reducible rfl)))
      refine tc 2 fun K hK => ?_
      (go_simp; (go_at_call 6; refine (toBroad_any _ _ _ U _ (h.below (hA.bel.trans (hHeld.mono (by have := hA.big; omega)))) h20).mono ?_; rintro e w6 ⟨b6, rfl, hl6, hr6, hb6⟩); (try go_wp2_with fail); refine tr hK (fun hHeld => ?_) (hHeld.trans (hb6.mono hHeld.size)); clear hK K)
      refine tc 3 fun K hK => ?_
      (go_simp; (go_at_call 10; refine (eqBroad_same _ _ _ _ _ U _ (hX.flat.below hHeld) hr6.flat h20).mono ?_; rintro e w8 ⟨rfl, hb8⟩); (try go_wp2_with fail); refine tr hK (fun hHeld => ?_) (hHeld.trans (hb8.mono hHeld.size)); clear hK K)
      refine tq 4 hHeld ?_
      refine wpAnyH_done (by kernel_rfl) ?_ _
      go_wp2_with fail
      go_meet
      exact ⟨rfl, hA.on hHeld, hW.on hHeld, hX.on hHeld, hG.on hHeld⟩
    case rest =>
    clear FF hA hW hX hG
    obtain ⟨rfl, hA, hW, hX, hG⟩ := hcut
    have hxb := hX.box
    go_upto_region 13 with fail
    go_cut [9] (fun s wc => s = .int .i64 (1 + (n : Int) * 5) ∧ AQ w wc ai n ci a b c d ∧ Lv wc lw hw 3 1 aw N cw R ∧ Lv wc lg hg 3 1 ag N cg R)
    case first =>
      go_wp2_with (go_at_call 11; refine (markBroad_any lx _ _ _ U _ hX.own (by omega)).mono ?_; rintro e w2 ⟨rfl, ho2, hg2⟩)
      go_meet
      exact ⟨rfl, hA.gr hg2 (fun k e => by have := (hX.own.lt k e).1; omega), hW.gr hX.lv hg2 (.inl (by omega)), hG.gr hX.lv hg2 (.inr (by omega))⟩
    case rest =>
    clear hA hW hX hG hxb
    obtain ⟨rfl, hA, hW, hG⟩ := hcut
    have hk0 : ¬ (1 + (n : Int) * 5 < 0) := by omega
    go_upto_region 14 with fail
    go_cut [48] (fun s wc => s = .bool false ∧ AQ w wc ai n ci a b c d ∧ Lv wc lw hw 3 1 aw N cw R ∧ Lv wc lg hg 3 1 ag N cg R)
    case first =>
      go_wp2_with (go_at_call 9; refine (eqIntS_same _ _ _ _ _ R _ hG.flat hW.flat hN20).mono ?_; rintro e w8 ⟨rfl, hb8⟩)
      go_meet
      exact ⟨rfl, hA.on hb8, hW.on hb8, hG.on hb8⟩
    case rest =>
    clear hA hW hG
    obtain ⟨rfl, hA, hW, hG⟩ := hcut
    go_upto_region 17 with fail
    go_cut [10] (fun s wc => s = .int .i64 (1 + (N : Int)) ∧ AQ w wc ai n ci a b c d ∧ Lv wc lw hw 3 1 aw N cw R ∧ Lv wc lg hg 3 1 ag N cg (fun q => 1 + (q : Int)))
    case first =>
      go_wp2_with (go_at_call 12; refine (markIntS_any lg _ _ _ R _ hG.own (by omega)).mono ?_; rintro e w2 ⟨rfl, ho2, hg2⟩)
      go_meet
      exact ⟨rfl, hA.gr hg2 (fun k e => by have := (hG.own.lt k e).1; omega), hW.gr hG hg2 (.inl (by omega)), hG.me hg2 ho2⟩
    case rest =>
    clear hA hW hG
    obtain ⟨rfl, hA, hW, hG⟩ := hcut
    have hk1 : ¬ (1 + (N : Int) < 0) := by omega
    have hk2 : ((1 + (N : Int)) != (1 + (N : Int))) = false := by simp
    go_upto_region 19 with fail
    go_cut [11] (fun s wc => s = .int .i64 (1 + (N : Int)) ∧ AQ w wc ai n ci a b c d ∧ Lv wc lw hw 3 1 aw N cw R ∧ Lv wc lg hg 3 1 ag N cg (fun q => 1 + (q : Int)))
    case first =>
      go_wp2_with (go_at_call 13; refine (heldIntS_any _ _ _ _ hG.flat (by omega)).mono ?_; rintro e w2 ⟨rfl, rfl⟩)
      go_meet
      exact ⟨rfl, hA, hW, hG⟩
    case rest =>
    clear hA hW hG
    obtain ⟨rfl, hA, hW, hG⟩ := hcut
    go_upto_region 24 with fail
    have FF : ∀ w', Below wc.heap.size wc w' → w'.cell? ⟨w.heap.size, 0, none⟩ = some (.slice ai n ci) ∧ w'.cell? ⟨w.heap.size + 1, 0, none⟩ = some (.int .i64 a) ∧ w'.cell? ⟨w.heap.size + 1, 1, none⟩ = some (.int .i64 b) ∧ w'.cell? ⟨w.heap.size + 1, 2, none⟩ = some (.int .i64 c) ∧ w'.cell? ⟨w.heap.size + 1, 3, none⟩ = some (.int .i64 d) := fun w' s => ⟨keepc s hA.box, keepc s hA.q0, keepc s hA.q1, keepc s hA.q2, keepc s hA.q3⟩
    have hbig := hA.big
    go_cut [12] (fun s wc => ∃ ah ch lh hh, s = .slice ah N ch ∧ AQ w wc ai n ci a b c d ∧ Lv wc lw hw 3 1 aw N cw R ∧ Lv wc lg hg 3 1 ag N cg (fun q => 1 + (q : Int)) ∧ Lv wc lh hh 3 1 ah N ch R)
    case first =>
      refine wp_region_held_drew (S := fun w' => Below wc.heap.size wc w') (by kernel_rfl) ((Below.refl _ _).drew) (fun hHeld => ?_)
      refine tq 0 hHeld ?_ (hv := by (intro w' s; obtain ⟨q1, q2, q3, q4, q5⟩ := FF w' s; go_simp; (try with_reducible rfl)))
      refine tq 2 hHeld ?_ (hv := by (intro w' s; obtain ⟨q1, q2, q3, q4, q5⟩ := FF w' s; go_simp; (try with_reducible rfl)))
      refine tc 1 fun K hK => ?_
      (go_simp; (go_at_call 6; refine (toBroad_any _ _ _ U _ (h.below (hA.bel.trans (hHeld.mono (by have := hA.big; omega)))) h20).mono ?_; rintro e w6 ⟨b6, rfl, hl6, hr6, hb6⟩); (try go_wp2_with fail); refine tr hK (fun hHeld => ?_) (hHeld.trans (hb6.mono hHeld.size)); clear hK K)
      refine tc 3 fun K hK => ?_
      (go_simp; (go_at_call 7; refine (toBox_any _ _ _ _ _).mono ?_; rintro e w7 ⟨rfl, hb7⟩); (try go_wp2_with fail); refine tr hK (fun hHeld => ?_) (hHeld.trans (hb7.mono hHeld.size)); clear hK K)
      refine tc 4 fun K hK => ?_
      (go_simp; (go_at_call 8; refine (ask_i _ n _ U a b c d N R _ (by first | exact hr6.flat | exact hr6.flat.below hb7 | exact hr6.flat.below (hb7.ofDrew)) h20 hN hR).mono ?_; rintro e w8 ⟨a8, c8, rfl, hO8⟩; have hb8 := hO8.bel); (try go_wp2_with fail); refine tr hK (fun hHeld => ?_) (hHeld.trans (hb8.mono hHeld.size)); clear hK K)
      refine tq 5 hHeld ?_
      refine wpAnyH_done (by kernel_rfl) ?_ _
      go_wp2_with fail
      go_meet
      exact ⟨_, _, _, _, rfl, hA.on hHeld, hW.on hHeld, hG.on hHeld, hO8.lv.on bel_a⟩
    case rest =>
    clear FF hbig hA hW hG
    obtain ⟨ah, ch, lh, hh, rfl, hA, hW, hG, hH⟩ := hcut
    go_upto_region 25 with fail
    go_cut [68] (fun s wc => s = .bool false ∧ AQ w wc ai n ci a b c d ∧ Lv wc lg hg 3 1 ag N cg (fun q => 1 + (q : Int)))
    case first =>
      go_wp2_with (go_at_call 9; refine (eqIntS_same _ _ _ _ _ R _ hH.flat hW.flat hN20).mono ?_; rintro e w8 ⟨rfl, hb8⟩)
      go_meet
      exact ⟨rfl, hA.on hb8, hG.on hb8⟩
    case rest =>
    clear hA hW hG hH
    obtain ⟨rfl, hA, hG⟩ := hcut
    go_upto_region 28 with fail
    go_wp2_with (go_at_call 13; refine (heldIntS_any _ _ _ _ hG.flat (by omega)).mono ?_; rintro e w2 ⟨rfl, rfl⟩)
    go_ret
    exact ⟨rfl, hA.bel⟩
    
  · have h1 : (1048576 - (n : Int) < 0) := by omega
    go_enter Try.func3, Try.ntmps3
    go_wp2_with (go_at_call 4; refine (szBroad_any _ _ _ _ hn).mono ?_; rw [if_neg h20]; rintro e w1 ⟨rfl, hb1⟩)
    go_ret
    exact ⟨rfl, bel_a⟩
end Go.Proofs.Ytnoahlfekhbenaa
namespace Go.Proofs.Ytnoahlfekhbenaa
theorem head_cut {l : List (List Char)} {c : List Char} (h : (l.head? == some c) = true) : ∃ rest, l = c :: rest := by
  cases l with
  | nil => simp at h
  | cons a r => simp at h; exact ⟨r, by rw [h]⟩
theorem strip_cut (rest : List (List Char)) : stripLifts liftWords ("cut".toList :: rest) = ([], "cut".toList :: rest) := by kernel_rfl
theorem make_of {P : Program} {l : List Char} (h0 : P.initOrder.toList = l) (h1 : ((behindMainWord (wordsSigns l)).head? == some "cut".toList) = true) : P.make = some .cut := by
  obtain ⟨rest, hr⟩ := head_cut h1
  unfold Program.make
  rw [h0, hr]
  rfl
theorem headLifts_of {P : Program} {l : List Char} (h0 : P.initOrder.toList = l) (h1 : ((behindMainWord (wordsSigns l)).head? == some "cut".toList) = true) : P.headLifts = [] := by
  obtain ⟨rest, hr⟩ := head_cut h1
  unfold Program.headLifts
  rw [h0, hr, strip_cut]
  rfl
theorem liftsFinal_of {P : Program} {l : List Char} (h0 : P.initOrder.toList = l) (h1 : ((behindMainWord (wordsSigns l)).head? == some "cut".toList) = true) : P.liftsFinal = false := by
  have hh := headLifts_of h0 h1
  obtain ⟨rest, hr⟩ := head_cut h1
  unfold Program.liftsFinal
  rw [h0, hr, hh]
  rfl
theorem mayEnter_of {P : Program} {l : List Char} (h0 : P.initOrder.toList = l) (h1 : ((behindMainWord (wordsSigns l)).head? == some "cut".toList) = true) (h2 : P.laysLater = false) (h3 : P.bearsReflect = false) (h4 : P.doorFits [] = true) : P.mayEnter = true := by
  obtain ⟨rest, hr⟩ := head_cut h1
  unfold Program.mayEnter
  rw [h0, hr]
  simp only [strip_cut, h2, h3, h4]
  simp
end Go.Proofs.Ytnoahlfekhbenaa
namespace Go.Proofs.Ytnoahlfekhbenaa
set_option maxRecDepth 100000
def ordL : { l : List Char // Try.prog.initOrder = String.ofList l } := ⟨_, rfl⟩
theorem ordT : Try.prog.initOrder.toList = ordL.1 := (congrArg String.toList ordL.2).trans String.toList_ofList
theorem headE : ((behindMainWord (wordsSigns ordL.1)).head? == some "cut".toList) = true := by kernel_rfl
theorem makeT : Try.prog.make = some .cut := make_of ordT headE
theorem liftsFinalT : Try.prog.liftsFinal = false := liftsFinal_of ordT headE
theorem laysLaterT : Try.prog.laysLater = false := by kernel_rfl
theorem bearsReflectT : Try.prog.bearsReflect = false := by kernel_rfl
theorem doorFitsT : Try.prog.doorFits [] = true := by kernel_rfl
theorem mayEnterT : Try.prog.mayEnter = true := mayEnter_of ordT headE laysLaterT bearsReflectT doorFitsT
theorem ownT : ownKnob Try.prog.godebug = none := by kernel_rfl
theorem laidOutT : laidOutB Try.prog = true := by kernel_rfl
theorem mapsRowedT : mapsRowed Try.prog = true := by kernel_rfl
theorem stopsHeardT : Try.prog.stopsHeard = true := by kernel_rfl
theorem plainKeysT : Try.prog.plainKeys = true := by kernel_rfl
end Go.Proofs.Ytnoahlfekhbenaa
namespace Go.Proofs.Ytnoahlfekhbenaa
open Go.RowKit Go.ChangeShapes Go.WideShapes Go.Deep
set_option linter.unusedVariables false
set_option linter.unusedSimpArgs false
/-- what is read at the type is k numbers -/
def IntsOf (P : Program) (e : TypeId) (k : Nat) : Prop :=
  ∀ (H : Type) (enc : TypeId × Value → H) (w : World) (base : Nat) (spare : Nat → Bool) (held : Bool) (fuel : Nat) (cs : List Value) (x : DataW H × List MemPlace),
    DataW.trod enc P w base spare held fuel e cs = some x → cs.length = k ∧ ∀ j, j < k → ∃ v : Int, cs[j]? = some (.int .i64 v) ∧ (Lit.int .i64 v).wf = true
theorem IntsOf.int {P : Program} {e : TypeId} (h : P.underlying e = some (.int .i64)) : IntsOf P e 1 := by
  intro H enc w base spare held fuel cs x hx
  obtain ⟨v, h1, _, h3⟩ := DataW.trod_int h hx
  subst h1
  refine ⟨rfl, fun j hj => ?_⟩
  obtain rfl : j = 0 := by omega
  exact ⟨v, rfl, h3⟩
theorem IntsOf.struct {P : Program} {t : TypeId} {k : Nat} {fs : Array Field} (cs_ : List Nat) (ht : P.underlying t = some (.struct fs)) (hk : P.cellsOf t = k)
    (hf : ∀ (i : Nat) (f : Field) (c : Nat), fs[i]? = some f → cs_[i]? = some c → P.cellsOf f.type = c ∧ IntsOf P f.type c)
    (cover : (List.range k).all (fun j => (List.range fs.size).any fun i => match fs[i]?, cs_[i]? with | some f, some c => decide (f.offset ≤ j ∧ j < f.offset + c) | _, _ => false) = true) : IntsOf P t k := by
  intro H enc w base spare held fuel cs x hx
  obtain ⟨xs, n, _, _, hl, hlen, hg⟩ := DataW.trod_struct ht hx
  rw [hk] at hl
  refine ⟨hl, fun j hj => ?_⟩
  rw [List.all_eq_true] at cover
  have c1 := cover j (List.mem_range.2 hj)
  rw [List.any_eq_true] at c1
  obtain ⟨i, hi, hm⟩ := c1
  have hi' := List.mem_range.1 hi
  cases hfi : fs[i]? with
  | none => simp [hfi] at hm
  | some f =>
    cases hci : cs_[i]? with
    | none => simp [hfi, hci] at hm
    | some c =>
      simp only [hfi, hci, decide_eq_true_eq] at hm
      obtain ⟨hc, hI⟩ := hf i f c hfi hci
      have g := hg i f hfi
      rw [hc] at g
      have hxi : i < xs.length := by rw [hlen]; exact hi'
      rw [List.getElem?_eq_getElem hxi] at g
      obtain ⟨_, q⟩ := hI H enc w base spare held _ _ _ g
      obtain ⟨v, hv, hw⟩ := q (j - f.offset) (by omega)
      refine ⟨v, ?_, hw⟩
      rw [List.getElem?_take, if_pos (by omega), List.getElem?_drop, show f.offset + (j - f.offset) = j by omega] at hv
      exact hv
theorem open_flat {P : Program} {t e : TypeId} {k : Nat} (hk0 : 0 < k) (ht : P.underlying t = some (.slice e)) (hk : P.cellsOf e = k) (hE : IntsOf P e k)
    {H : Type} {enc : TypeId × Value → H} {w : World} {base : Nat} {spare : Nat → Bool} {held : Bool} {fuel : Nat} {v : Value} {x : DataW H × List MemPlace}
    (h : DataW.trod enc P w base spare held fuel t [v] = some x) :
    ∃ (a : Option Addr) (n c : Nat) (U : Nat → Int), v = .slice a n c ∧ (n : Int) ≤ 9223372036854775807 ∧ Flat w a (n * k) U ∧ ∀ q, q < n * k → (Lit.int .i64 (U q)).wf = true := by
  rcases open_slice ht h with ⟨hc, _⟩ | ⟨a, len, cap, m, fu, D, Pl, hc, hb, hl, hm, hmm, _, hall⟩
  · simp only [List.cons.injEq, and_true] at hc
    subst hc
    exact ⟨none, 0, 0, fun _ => 0, rfl, by omega, by rw [Nat.zero_mul]; exact Flat.nil, fun q hq => by omega⟩
  · simp only [List.cons.injEq, and_true] at hc
    subst hc
    have hlm : len ≤ m := by rw [hmm]; split <;> omega
    have one : ∀ q, q < len * k → ∃ z : Int, w.cell? (a.add q) = some (.int .i64 z) ∧ (Lit.int .i64 z).wf = true := by
      intro q hq
      have hi : q / k < len := Nat.div_lt_of_lt_mul (by rw [Nat.mul_comm]; exact hq)
      obtain ⟨cs', h1, h2⟩ := hall (q / k) (by omega)
      obtain ⟨_, hlen, hcell⟩ := World.cells?_some h1
      obtain ⟨_, hv⟩ := hE H enc w base spare held _ _ _ h2
      obtain ⟨z, hz, hw⟩ := hv (q % k) (Nat.mod_lt _ hk0)
      have := hcell (q % k) (by rw [hk]; exact Nat.mod_lt _ hk0)
      rw [hz, hk, add_add, Nat.mul_comm, Nat.div_add_mod] at this
      exact ⟨z, this, hw⟩
    obtain ⟨U, hU⟩ := choose_lt one
    refine ⟨some a, len, cap, U, rfl, by unfold maxLen at hm; omega, ?_, fun q hq => (hU q hq).2⟩
    intro h0
    obtain ⟨b, o, spot⟩ := a
    have g0 := (hU 0 h0).1
    have hspot : spot = none := by simpa [Addr.add] using World.cell?_spot g0
    subst hspot
    have hbl := World.block_lt_of_cell? w _ g0
    simp only [Addr.add, if_true] at hbl
    refine ⟨b, o, rfl, hbl, fun q hq => ?_⟩
    have := (hU q hq).1
    by_cases hq0 : q = 0
    · subst hq0; simpa [Addr.add] using this
    · simpa [Addr.add, hq0] using this
end Go.Proofs.Ytnoahlfekhbenaa
namespace Go.Proofs.Ytnoahlfekhbenaa
open Go.RowKit Go.ChangeShapes Go.WideShapes Go.ChangeAt Go.Joins Go.Deep
set_option linter.unusedVariables false
set_option linter.unusedSimpArgs false
theorem cellsI : Try.prog.cellsOf 3 = 1 := by kernel_rfl
theorem cellsV : Try.prog.cellsOf 26 = 2 := by kernel_rfl
theorem cellsB : Try.prog.cellsOf 28 = 4 := by kernel_rfl
theorem cellsIt : Try.prog.cellsOf 70 = 5 := by kernel_rfl
theorem cellsBr : Try.prog.cellsOf 24 = 1 := by kernel_rfl
theorem cellsSl : Try.prog.cellsOf 22 = 1 := by kernel_rfl
set_option maxRecDepth 100000 in
theorem intsI : IntsOf Try.prog 3 1 := IntsOf.int Try.underlying3
set_option maxRecDepth 100000 in
theorem intsV : IntsOf Try.prog 26 2 := IntsOf.struct [1, 1] Try.underlying26 (by kernel_rfl) (fun i f c h1 h2 => match i, h1, h2 with
  | 0, h1, h2 => by cases h1; cases h2; exact ⟨cellsI, intsI⟩
  | 1, h1, h2 => by cases h1; cases h2; exact ⟨cellsI, intsI⟩
  | _ + 2, h1, h2 => by simp at h2) (by decide)
set_option maxRecDepth 100000 in
theorem intsB : IntsOf Try.prog 28 4 := IntsOf.struct [2, 2] Try.underlying28 (by kernel_rfl) (fun i f c h1 h2 => match i, h1, h2 with
  | 0, h1, h2 => by cases h1; cases h2; exact ⟨cellsV, intsV⟩
  | 1, h1, h2 => by cases h1; cases h2; exact ⟨cellsV, intsV⟩
  | _ + 2, h1, h2 => by simp at h2) (by decide)
set_option maxRecDepth 100000 in
theorem intsIt : IntsOf Try.prog 70 5 := IntsOf.struct [1, 4] Try.underlying70 (by kernel_rfl) (fun i f c h1 h2 => match i, h1, h2 with
  | 0, h1, h2 => by cases h1; cases h2; exact ⟨cellsI, intsI⟩
  | 1, h1, h2 => by cases h1; cases h2; exact ⟨cellsB, intsB⟩
  | _ + 2, h1, h2 => by simp at h2) (by decide)
set_option maxRecDepth 100000 in
theorem open_broad {H : Type} {enc : TypeId × Value → H} {W : World} {base b0 : Nat} {spare : Nat → Bool} {held : Bool} {v : Value} {d : DataW H} {p : List MemPlace}
    (hv : Value.okWide Try.prog W .any b0 24 v) (h : DataW.Trod enc Try.prog W base spare held 24 v d p) :
    ∃ (a : Option Addr) (n c : Nat) (U : Nat → Int), v = .agg #[.slice a n c] ∧ (n : Int) ≤ 9223372036854775807 ∧ Flat W a (n * 5) U ∧ ∀ q, q < n * 5 → (Lit.int .i64 (U q)).wf = true := by
  obtain ⟨cs, rfl, hsz⟩ := okWide_struct Try.underlying24 hv
  have hs1 := hsz.trans cellsBr
  obtain ⟨c0, rfl⟩ : ∃ c0, cs = #[c0] := by
    rcases cs with ⟨l⟩
    match l, hs1 with
    | [x], _ => exact ⟨x, rfl⟩
  obtain ⟨fuel, hf⟩ := h
  obtain ⟨y0, n, _, _, h0⟩ := trod_struct1 Try.underlying24 hf
  have k0 : DataW.trod enc Try.prog W base spare held n 22 [c0] = some y0 := by simpa [Value.cells, cellsSl] using h0
  obtain ⟨a, n, c, U, rfl, hn, hF, hw⟩ := open_flat (by decide) Try.underlying22 cellsIt intsIt k0
  exact ⟨a, n, c, U, rfl, hn, hF, hw⟩
set_option maxRecDepth 100000 in
theorem open_item {H : Type} {enc : TypeId × Value → H} {W : World} {base b0 : Nat} {spare : Nat → Bool} {held : Bool} {v : Value} {d : DataW H} {p : List MemPlace}
    (hv : Value.okWide Try.prog W .any b0 70 v) (h : DataW.Trod enc Try.prog W base spare held 70 v d p) :
    ∃ X : Nat → Int, v = .agg #[.int .i64 (X 0), .int .i64 (X 1), .int .i64 (X 2), .int .i64 (X 3), .int .i64 (X 4)] := by
  obtain ⟨cs, rfl, hsz⟩ := okWide_struct Try.underlying70 hv
  obtain ⟨fuel, hf⟩ := h
  obtain ⟨hl, hx⟩ := intsIt H enc W base spare held _ _ _ hf
  have key : ∀ j, j < 5 → ∃ v : Int, cs[j]? = some (.int .i64 v) := fun j hj => by obtain ⟨v, hv, _⟩ := hx j hj; exact ⟨v, by simpa [Value.cells] using hv⟩
  obtain ⟨X, hX⟩ := choose_lt key
  refine ⟨X, congrArg Value.agg ?_⟩
  apply Array.ext'
  apply List.ext_getElem?
  intro j
  have hs5 := hsz.trans cellsIt
  by_cases hj : j < 5
  · have := hX j hj
    rcases (show j = 0 ∨ j = 1 ∨ j = 2 ∨ j = 3 ∨ j = 4 by omega) with rfl | rfl | rfl | rfl | rfl <;> simpa using this
  · rw [List.getElem?_eq_none (by simp [hs5]; omega), List.getElem?_eq_none (by simp; omega)]
end Go.Proofs.Ytnoahlfekhbenaa
namespace Go.Proofs.Ytnoahlfekhbenaa
open Go.ChangeShapes Go.WideShapes Go.ChangeAt Go.RowKit Go.Joins
set_option linter.unusedVariables false
set_option linter.unusedSimpArgs false
theorem cellsBox : Try.prog.cellsOf 28 = 4 := by kernel_rfl
theorem cellsVec : Try.prog.cellsOf 26 = 2 := by kernel_rfl
theorem cellsInt : Try.prog.cellsOf 3 = 1 := by kernel_rfl
set_option maxRecDepth 100000 in
theorem open_box4 {H : Type} {enc : TypeId × Value → H} {W : World} {base b0 : Nat} {spare : Nat → Bool} {held : Bool} {v : Value} {d : DataW H} {p : List MemPlace}
    (hv : Value.okWide Try.prog W .any b0 28 v) (h : DataW.Trod enc Try.prog W base spare held 28 v d p) :
    ∃ x y z u : Int, v = .agg #[.int .i64 x, .int .i64 y, .int .i64 z, .int .i64 u] ∧ (Lit.int .i64 x).wf = true ∧ (Lit.int .i64 y).wf = true ∧ (Lit.int .i64 z).wf = true ∧ (Lit.int .i64 u).wf = true := by
  obtain ⟨cs, rfl, hsz⟩ := okWide_struct Try.underlying28 hv
  obtain ⟨c0, c1, c2, c3, rfl⟩ := array4 (hsz.trans cellsBox)
  obtain ⟨fuel, hf⟩ := h
  obtain ⟨y0, y1, n, hx, _, h0, h1⟩ := trod_struct2 Try.underlying28 hf
  have k0 : DataW.trod enc Try.prog W base spare held n 26 [c0, c1] = some y0 := by simpa [Value.cells, cellsVec] using h0
  have k1 : DataW.trod enc Try.prog W base spare held n 26 [c2, c3] = some y1 := by simpa [Value.cells, cellsVec] using h1
  obtain ⟨z0, z1, n2, _, _, m0, m1⟩ := trod_struct2 Try.underlying26 k0
  obtain ⟨z2, z3, n3, _, _, m2, m3⟩ := trod_struct2 Try.underlying26 k1
  have q0 : DataW.trod enc Try.prog W base spare held n2 3 [c0] = some z0 := by simpa [cellsInt] using m0
  have q1 : DataW.trod enc Try.prog W base spare held n2 3 [c1] = some z1 := by simpa [cellsInt] using m1
  have q2 : DataW.trod enc Try.prog W base spare held n3 3 [c2] = some z2 := by simpa [cellsInt] using m2
  have q3 : DataW.trod enc Try.prog W base spare held n3 3 [c3] = some z3 := by simpa [cellsInt] using m3
  obtain ⟨x, e0, _, wx⟩ := DataW.trod_int Try.underlying3 q0
  obtain ⟨y, e1, _, wy⟩ := DataW.trod_int Try.underlying3 q1
  obtain ⟨z, e2, _, wz⟩ := DataW.trod_int Try.underlying3 q2
  obtain ⟨u, e3, _, wu⟩ := DataW.trod_int Try.underlying3 q3
  simp only [List.cons.injEq, and_true] at e0 e1 e2 e3
  subst e0 e1 e2 e3
  exact ⟨x, y, z, u, rfl, wx, wy, wz, wu⟩
end Go.Proofs.Ytnoahlfekhbenaa
