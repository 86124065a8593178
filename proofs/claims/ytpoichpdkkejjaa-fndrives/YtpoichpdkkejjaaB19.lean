/- The walk of the law of promise 33. Lemmas on whatever program: from the head of its cut's word to the closed facts. Closed facts of the loaded program, each a theorem of its own. -/
import Derived.Test.YtpoichpdkkejjaaB18
import Derived.Test.YtpoichpdkkejjaaB14
import Derived.Test.YtpoichpdkkejjaaB10
import Derived.Deep.RegionHeld3
import Derived.Deep.DeepCutAuto
import Derived.Test.YtpoichpdkkejjaaRows
import Derived.WalkKit
import Derived.JoinedOf
import Derived.ProofKit
namespace Go.Proofs.Ytpoichpdkkejjaa
open Go.RowKit
set_option linter.unusedVariables false
set_option linter.unusedSimpArgs false
set_option maxRecDepth 20000 in
set_option maxHeartbeats 8000000 in
theorem drawDrives_any (a : Option Addr) (len cap : Nat) (w : World) (hb : Bytes w a len cap) :
    Calls Try.prog 4 #[.slice a len cap] w fun e w' => ∃ (al : Option Addr) (n c : Nat) (U : Nat → Int), e = .returned (.slice al n c) ∧ LN n U ∧ OutL w w' 32 12 al n c U := by
  have hset := cset_map
  go_enter Try.func4, Try.ntmps4
  go_wp2_with (first
    | (have _ := hr1; go_at_call 9; refine (l11AnyBodies_k w.heap.size 0 _ (by exact RS.of hr1) (by omega)).mono ?_; rintro e w2 ⟨al, n, c, U, rfl, hL, hD⟩)
    | (go_at_call 10; refine (l1Open_rb _ _ _ _ hb).mono ?_; rintro e w1 ⟨rfl, hr1, hbel⟩))
  go_ret
  first | exact ⟨_, _, _, _, rfl, hL, RB.done hbel hD.bl.done, hD.own.base hbel.size⟩ | exact ⟨_, _, _, rfl, _, hL, RB.done hbel hD.bl.done, hD.own.base hbel.size⟩
theorem sumD_tail (U : Nat → Int) (j : Nat) : ∀ m, sumD U j (m + 1) = sumD (fun q => U (q + 12)) j m + U j
  | 0 => by show 0 + U (0 * 12 + j) = 0 + U j; rw [Nat.zero_mul, Nat.zero_add]
  | m + 1 => by
    rw [sumD, sumD_tail U j m, sumD]
    show sumD (fun q => U (q + 12)) j m + U j + U ((m + 1) * 12 + j) = sumD (fun q => U (q + 12)) j m + U (m * 12 + j + 12) + U j
    rw [show m * 12 + j + 12 = (m + 1) * 12 + j by omega]
    omega
theorem sumD_b2 {U : Nat → Int} {j : Nat} {n : Nat} (h : ∀ k, k < n → -20000000 ≤ U (k * 12 + j) ∧ U (k * 12 + j) ≤ 20000000) : ∀ m, m ≤ n → -(20000000 * (m : Int)) ≤ sumD U j m ∧ sumD U j m ≤ 20000000 * (m : Int)
  | 0, _ => by show _ ≤ (0 : Int) ∧ (0 : Int) ≤ _; omega
  | m + 1, hm => by
    have a := sumD_b2 h m (by omega)
    have b := h m (by omega)
    rw [sumD]
    omega
theorem Bods.tail {n : Nat} {U : Nat → Int} (h : Bods (n + 1) U) : Bods n (fun q => U (q + 12)) := by
  refine ⟨by have := h.le; omega, fun k hk => ?_, fun k hk => ?_⟩
  · have := h.ok (k + 1) (by omega)
    rw [show (fun j => (fun q => U (q + 12)) (k * 12 + j)) = (fun j => U ((k + 1) * 12 + j)) from funext fun j => by show U (k * 12 + j + 12) = _; rw [show k * 12 + j + 12 = (k + 1) * 12 + j by omega]]
    exact this
  · have := h.asc (k + 1) (by omega)
    show U (k * 12 + 12) < U ((k + 1) * 12 + 12)
    rw [show k * 12 + 12 = (k + 1) * 12 by omega, show (k + 1) * 12 + 12 = (k + 1 + 1) * 12 by omega]
    exact this
theorem Flat.tail {w : World} {g n : Nat} {U : Nat → Int} (h : Flat w (some ⟨g, 0, none⟩) ((n + 1) * 12) U) : Flat w (some ⟨g, 12, none⟩) (n * 12) (fun q => U (q + 12)) := by
  intro h0
  obtain ⟨b, o, e, hl, hc⟩ := h (by omega)
  simp only [Option.some.injEq, Addr.mk.injEq, and_true] at e
  obtain ⟨rfl, rfl⟩ := e
  refine ⟨g, 12, rfl, hl, fun q hq => ?_⟩
  have := hc (q + 12) (by omega)
  rw [Nat.zero_add] at this
  rw [Nat.add_comm 12 q]
  exact this
theorem Flat.dr {w : World} {a : Option Addr} {m : Nat} {U : Nat → Int} (h : Flat w a m U) : Flat w.drew a m U := h
set_option maxRecDepth 20000 in
set_option maxHeartbeats 8000000 in
theorem fnDrives_walk (a : Option Addr) (len cap : Nat) (w : World) (hb : Bytes w a len cap) :
    Calls Try.prog 3 #[.slice a len cap] w fun e w' => e = .returned (.bool true) ∧ Below w.heap.size w w' := by
  have hset := cset_map
  go_enter Try.func3, Try.ntmps3
  go_upto_region 4 with (go_at_call 4; refine (drawDrives_any _ _ _ _ hb).mono ?_; rintro e w1 ⟨al, n, c, U, rfl, hL, hO⟩)
  · go_wp2_with fail
    go_ret
    exact ⟨rfl, Below.refl _ _⟩
  have hn13 := hL.1
  have hn1 : n ≤ 1048576 := by omega
  obtain ⟨x, ex⟩ : ∃ x, drX n U = x := ⟨_, rfl⟩
  obtain ⟨y, ey⟩ : ∃ y, drY n U = y := ⟨_, rfl⟩
  obtain ⟨b, eb⟩ : ∃ b, bodsB n U = b := ⟨_, rfl⟩
  have f1 := hO.own.flat
  have hw1 := hO.bel
  go_cut [4] (fun s4 wc => ∃ db, s4 = .pointer (some ⟨db, 0, none⟩) ∧ Nb wc db 2 (fun j => [x, y].getD j 0) ∧ Flat wc al (n * 12) U ∧ Below w.heap.size w wc)
  case first =>
    go_wp2_with (go_at_call 5; refine (drives_q al n c U x y _ f1 hn1 ex ey).mono ?_; rintro e w2 ⟨rfl, hb2⟩)
    go_meet
    have hE : Below w2.heap.size w2 (w2.alloc (.cells #[.int .i64 x, .int .i64 y] 26)) := (Below.refl _ _).alloc (Nat.le_refl _) _
    have hw2 := hw1.trans (hb2.mono hw1.size)
    exact ⟨_, rfl, ⟨fun j hj => by rcases (show j = 0 ∨ j = 1 by omega) with rfl | rfl <;> go_simp, fun o => by go_simp, by simp⟩, (f1.below hb2).below hE, hw2.trans (hE.mono hw2.size)⟩
  case rest =>
  obtain ⟨db, rfl, hN, hf, hw⟩ := hcut
  have d0 : wc.cell? ⟨db, 0, none⟩ = some (.int .i64 x) := hN.c 0 (by decide)
  have d1 : wc.cell? ⟨db, 1, none⟩ = some (.int .i64 y) := hN.c 1 (by decide)
  have hev : ∀ w, (Op.equalIn 10000 26 (.agg #[.int .i64 x, .int .i64 y]) (.agg #[.int .i64 x, .int .i64 y])).run Try.prog w = .ok true w := fun w => by rw [eq_vec0]; simp
  cases b with
  | false =>
    go_upto_region 5 with fail
    go_cut [33] (fun s33 wc => s33 = .bool true ∧ Nb wc db 2 (fun j => [x, y].getD j 0) ∧ Flat wc al (n * 12) U ∧ Below w.heap.size w wc)
    case first =>
      refine wp_region_held_drew (S := fun w' => w'.cell? ⟨db, 0, none⟩ = some (.int .i64 x) ∧ w'.cell? ⟨db, 1, none⟩ = some (.int .i64 y)) (by kernel_rfl) ?_ (fun hHeld => ?_)
      · (try dsimp only)
        (first | (go_simp; done) | (go_keep; done))
      refine tq 0 hHeld ?_
      refine tq 1 hHeld ?_
      refine tc 2 fun K hK => ?_
      (go_simp
       (go_at_call 6; refine (sDrives_q al n c U x y _ (hf.dr) hn1 ex ey).mono ?_; rintro e w5 ⟨rfl, hb5⟩)
       have hb5 := hb5.ofDr
       have hN2 := hN.on hb5
       have hf2 := hf.below hb5
       have hw2 := hw.trans (hb5.mono hw.size)
       clear hN hf hw d0 d1 hb5
       have hN := hN2
       have hf := hf2
       have hw := hw2
       clear hN2 hf2 hw2
       have d0 : w5.cell? ⟨db, 0, none⟩ = some (.int .i64 x) := hN.c 0 (by decide)
       have d1 : w5.cell? ⟨db, 1, none⟩ = some (.int .i64 y) := hN.c 1 (by decide)
       (try go_wp2_with fail)
       refine tr hK (fun hHeld => ?_)
       clear hK K)
      refine tq 3 hHeld ?_
      refine tq 4 hHeld ?_
      refine tq 5 hHeld ?_
      refine tq 7 hHeld ?_
      refine tc 6 fun K hK => ?_
      (go_simp
       (go_at_call 7; refine (bodiesOk_q al n c U _ _ (hf) hn1 eb).mono ?_; rintro e w6 ⟨rfl, hb5⟩)
       
       have hN2 := hN.on hb5
       have hf2 := hf.below hb5
       have hw2 := hw.trans (hb5.mono hw.size)
       clear hN hf hw d0 d1 hb5
       have hN := hN2
       have hf := hf2
       have hw := hw2
       clear hN2 hf2 hw2
       have d0 : w6.cell? ⟨db, 0, none⟩ = some (.int .i64 x) := hN.c 0 (by decide)
       have d1 : w6.cell? ⟨db, 1, none⟩ = some (.int .i64 y) := hN.c 1 (by decide)
       (try go_wp2_with fail)
       refine tr hK (fun hHeld => ?_)
       clear hK K)
      refine tc 8 fun K hK => ?_
      (go_simp
       (go_at_call 8; refine (sBodiesOk_q al n c U _ _ (hf) hn1 eb).mono ?_; rintro e w7 ⟨rfl, hb5⟩)
       
       have hN2 := hN.on hb5
       have hf2 := hf.below hb5
       have hw2 := hw.trans (hb5.mono hw.size)
       clear hN hf hw d0 d1 hb5
       have hN := hN2
       have hf := hf2
       have hw := hw2
       clear hN2 hf2 hw2
       have d0 : w7.cell? ⟨db, 0, none⟩ = some (.int .i64 x) := hN.c 0 (by decide)
       have d1 : w7.cell? ⟨db, 1, none⟩ = some (.int .i64 y) := hN.c 1 (by decide)
       (try go_wp2_with fail)
       refine tr hK (fun hHeld => ?_)
       clear hK K)
      refine tq 9 hHeld ?_
      refine tq 10 hHeld ?_
      refine tq 11 hHeld ?_
      refine tq 12 hHeld ?_
      refine tc 13 fun K hK => ?_
      (go_simp
       (go_at_call 8; refine (sBodiesOk_q al n c U _ _ (hf) hn1 eb).mono ?_; rintro e w8 ⟨rfl, hb5⟩)
       
       have hN2 := hN.on hb5
       have hf2 := hf.below hb5
       have hw2 := hw.trans (hb5.mono hw.size)
       clear hN hf hw d0 d1 hb5
       have hN := hN2
       have hf := hf2
       have hw := hw2
       clear hN2 hf2 hw2
       have d0 : w8.cell? ⟨db, 0, none⟩ = some (.int .i64 x) := hN.c 0 (by decide)
       have d1 : w8.cell? ⟨db, 1, none⟩ = some (.int .i64 y) := hN.c 1 (by decide)
       (try go_wp2_with fail)
       refine tr hK (fun hHeld => ?_)
       clear hK K)
      refine tq 14 hHeld ?_
      refine tq 15 hHeld ?_
      refine tq 16 hHeld ?_
      refine tn 17 hHeld ?_
      refine tn 18 hHeld ?_
      refine tn 19 hHeld ?_
      refine tq 20 hHeld ?_
      refine wpAnyH_done (by kernel_rfl) ?_ _
      go_wp2_with fail
      go_meet
      exact ⟨rfl, hN, hf, hw⟩
    case rest =>
    clear hN hf hw d0 d1
    obtain ⟨rfl, hN, hf, hw⟩ := hcut
    have d0 : wc.cell? ⟨db, 0, none⟩ = some (.int .i64 x) := hN.c 0 (by decide)
    have d1 : wc.cell? ⟨db, 1, none⟩ = some (.int .i64 y) := hN.c 1 (by decide)
    go_upto_region 6 with fail
    refine wp_region_held_drew (S := fun w' => w'.cell? ⟨db, 0, none⟩ = some (.int .i64 x) ∧ w'.cell? ⟨db, 1, none⟩ = some (.int .i64 y)) (by kernel_rfl) ?_ (fun hHeld => ?_)
    · (try dsimp only)
      (first | (go_simp; done) | (go_keep; done))
    refine tq 0 hHeld ?_
    refine tq 1 hHeld ?_
    refine tc 2 fun K hK => ?_
    (go_simp
     (go_at_call 6; refine (sDrives_q al n c U x y _ (hf.dr) hn1 ex ey).mono ?_; rintro e w5 ⟨rfl, hb5⟩)
     have hb5 := hb5.ofDr
     have hN2 := hN.on hb5
     have hf2 := hf.below hb5
     have hw2 := hw.trans (hb5.mono hw.size)
     clear hN hf hw d0 d1 hb5
     have hN := hN2
     have hf := hf2
     have hw := hw2
     clear hN2 hf2 hw2
     have d0 : w5.cell? ⟨db, 0, none⟩ = some (.int .i64 x) := hN.c 0 (by decide)
     have d1 : w5.cell? ⟨db, 1, none⟩ = some (.int .i64 y) := hN.c 1 (by decide)
     (try go_wp2_with fail)
     refine tr hK (fun hHeld => ?_)
     clear hK K)
    refine tq 3 hHeld ?_
    refine tq 4 hHeld ?_
    refine tq 5 hHeld ?_
    refine tq 7 hHeld ?_
    refine tc 6 fun K hK => ?_
    (go_simp
     (go_at_call 7; refine (bodiesOk_q al n c U _ _ (hf) hn1 eb).mono ?_; rintro e w6 ⟨rfl, hb5⟩)
     
     have hN2 := hN.on hb5
     have hf2 := hf.below hb5
     have hw2 := hw.trans (hb5.mono hw.size)
     clear hN hf hw d0 d1 hb5
     have hN := hN2
     have hf := hf2
     have hw := hw2
     clear hN2 hf2 hw2
     have d0 : w6.cell? ⟨db, 0, none⟩ = some (.int .i64 x) := hN.c 0 (by decide)
     have d1 : w6.cell? ⟨db, 1, none⟩ = some (.int .i64 y) := hN.c 1 (by decide)
     (try go_wp2_with fail)
     refine tr hK (fun hHeld => ?_)
     clear hK K)
    refine tc 8 fun K hK => ?_
    (go_simp
     (go_at_call 8; refine (sBodiesOk_q al n c U _ _ (hf) hn1 eb).mono ?_; rintro e w7 ⟨rfl, hb5⟩)
     
     have hN2 := hN.on hb5
     have hf2 := hf.below hb5
     have hw2 := hw.trans (hb5.mono hw.size)
     clear hN hf hw d0 d1 hb5
     have hN := hN2
     have hf := hf2
     have hw := hw2
     clear hN2 hf2 hw2
     have d0 : w7.cell? ⟨db, 0, none⟩ = some (.int .i64 x) := hN.c 0 (by decide)
     have d1 : w7.cell? ⟨db, 1, none⟩ = some (.int .i64 y) := hN.c 1 (by decide)
     (try go_wp2_with fail)
     refine tr hK (fun hHeld => ?_)
     clear hK K)
    refine tq 9 hHeld ?_
    refine tq 10 hHeld ?_
    refine tq 11 hHeld ?_
    refine wpAnyH_done (by kernel_rfl) ?_ _
    go_wp2_with fail
    go_ret
    exact ⟨rfl, hw⟩
  | true =>
    by_cases hn0 : n = 0
    · have e0 : ((n : Int) == 0) = true := by simp [hn0]
      clear hn0
      go_upto_region 5 with fail
      go_cut [33] (fun s33 wc => s33 = .bool true ∧ Nb wc db 2 (fun j => [x, y].getD j 0) ∧ Flat wc al (n * 12) U ∧ Below w.heap.size w wc)
      case first =>
        refine wp_region_held_drew (S := fun w' => w'.cell? ⟨db, 0, none⟩ = some (.int .i64 x) ∧ w'.cell? ⟨db, 1, none⟩ = some (.int .i64 y)) (by kernel_rfl) ?_ (fun hHeld => ?_)
        · (try dsimp only)
          (first | (go_simp; done) | (go_keep; done))
        refine tq 0 hHeld ?_
        refine tq 1 hHeld ?_
        refine tc 2 fun K hK => ?_
        (go_simp
         (go_at_call 6; refine (sDrives_q al n c U x y _ (hf.dr) hn1 ex ey).mono ?_; rintro e w5 ⟨rfl, hb5⟩)
         have hb5 := hb5.ofDr
         have hN2 := hN.on hb5
         have hf2 := hf.below hb5
         have hw2 := hw.trans (hb5.mono hw.size)
         clear hN hf hw d0 d1 hb5
         have hN := hN2
         have hf := hf2
         have hw := hw2
         clear hN2 hf2 hw2
         have d0 : w5.cell? ⟨db, 0, none⟩ = some (.int .i64 x) := hN.c 0 (by decide)
         have d1 : w5.cell? ⟨db, 1, none⟩ = some (.int .i64 y) := hN.c 1 (by decide)
         (try go_wp2_with fail)
         refine tr hK (fun hHeld => ?_)
         clear hK K)
        refine tq 3 hHeld ?_
        refine tq 4 hHeld ?_
        refine tq 5 hHeld ?_
        refine tq 7 hHeld ?_
        refine tc 6 fun K hK => ?_
        (go_simp
         (go_at_call 7; refine (bodiesOk_q al n c U _ _ (hf) hn1 eb).mono ?_; rintro e w6 ⟨rfl, hb5⟩)
         
         have hN2 := hN.on hb5
         have hf2 := hf.below hb5
         have hw2 := hw.trans (hb5.mono hw.size)
         clear hN hf hw d0 d1 hb5
         have hN := hN2
         have hf := hf2
         have hw := hw2
         clear hN2 hf2 hw2
         have d0 : w6.cell? ⟨db, 0, none⟩ = some (.int .i64 x) := hN.c 0 (by decide)
         have d1 : w6.cell? ⟨db, 1, none⟩ = some (.int .i64 y) := hN.c 1 (by decide)
         (try go_wp2_with fail)
         refine tr hK (fun hHeld => ?_)
         clear hK K)
        refine tc 8 fun K hK => ?_
        (go_simp
         (go_at_call 8; refine (sBodiesOk_q al n c U _ _ (hf) hn1 eb).mono ?_; rintro e w7 ⟨rfl, hb5⟩)
         
         have hN2 := hN.on hb5
         have hf2 := hf.below hb5
         have hw2 := hw.trans (hb5.mono hw.size)
         clear hN hf hw d0 d1 hb5
         have hN := hN2
         have hf := hf2
         have hw := hw2
         clear hN2 hf2 hw2
         have d0 : w7.cell? ⟨db, 0, none⟩ = some (.int .i64 x) := hN.c 0 (by decide)
         have d1 : w7.cell? ⟨db, 1, none⟩ = some (.int .i64 y) := hN.c 1 (by decide)
         (try go_wp2_with fail)
         refine tr hK (fun hHeld => ?_)
         clear hK K)
        refine tq 9 hHeld ?_
        refine tq 10 hHeld ?_
        refine tq 11 hHeld ?_
        refine tq 12 hHeld ?_
        refine tc 13 fun K hK => ?_
        (go_simp
         (go_at_call 8; refine (sBodiesOk_q al n c U _ _ (hf) hn1 eb).mono ?_; rintro e w8 ⟨rfl, hb5⟩)
         
         have hN2 := hN.on hb5
         have hf2 := hf.below hb5
         have hw2 := hw.trans (hb5.mono hw.size)
         clear hN hf hw d0 d1 hb5
         have hN := hN2
         have hf := hf2
         have hw := hw2
         clear hN2 hf2 hw2
         have d0 : w8.cell? ⟨db, 0, none⟩ = some (.int .i64 x) := hN.c 0 (by decide)
         have d1 : w8.cell? ⟨db, 1, none⟩ = some (.int .i64 y) := hN.c 1 (by decide)
         (try go_wp2_with fail)
         refine tr hK (fun hHeld => ?_)
         clear hK K)
        refine tq 14 hHeld ?_
        refine tq 15 hHeld ?_
        refine tq 16 hHeld ?_
        refine tq 17 hHeld ?_
        refine tq 18 hHeld ?_
        refine tq 19 hHeld ?_
        refine tq 20 hHeld ?_
        refine wpAnyH_done (by kernel_rfl) ?_ _
        go_wp2_with fail
        go_meet
        exact ⟨rfl, hN, hf, hw⟩
      case rest =>
      clear hN hf hw d0 d1
      obtain ⟨rfl, hN, hf, hw⟩ := hcut
      have d0 : wc.cell? ⟨db, 0, none⟩ = some (.int .i64 x) := hN.c 0 (by decide)
      have d1 : wc.cell? ⟨db, 1, none⟩ = some (.int .i64 y) := hN.c 1 (by decide)
      go_upto_region 6 with fail
      refine wp_region_held_drew (S := fun w' => w'.cell? ⟨db, 0, none⟩ = some (.int .i64 x) ∧ w'.cell? ⟨db, 1, none⟩ = some (.int .i64 y)) (by kernel_rfl) ?_ (fun hHeld => ?_)
      · (try dsimp only)
        (first | (go_simp; done) | (go_keep; done))
      refine tq 0 hHeld ?_
      refine tq 1 hHeld ?_
      refine tc 2 fun K hK => ?_
      (go_simp
       (go_at_call 6; refine (sDrives_q al n c U x y _ (hf.dr) hn1 ex ey).mono ?_; rintro e w5 ⟨rfl, hb5⟩)
       have hb5 := hb5.ofDr
       have hN2 := hN.on hb5
       have hf2 := hf.below hb5
       have hw2 := hw.trans (hb5.mono hw.size)
       clear hN hf hw d0 d1 hb5
       have hN := hN2
       have hf := hf2
       have hw := hw2
       clear hN2 hf2 hw2
       have d0 : w5.cell? ⟨db, 0, none⟩ = some (.int .i64 x) := hN.c 0 (by decide)
       have d1 : w5.cell? ⟨db, 1, none⟩ = some (.int .i64 y) := hN.c 1 (by decide)
       (try go_wp2_with fail)
       refine tr hK (fun hHeld => ?_)
       clear hK K)
      refine tq 3 hHeld ?_
      refine tq 4 hHeld ?_
      refine tq 5 hHeld ?_
      refine tq 7 hHeld ?_
      refine tc 6 fun K hK => ?_
      (go_simp
       (go_at_call 7; refine (bodiesOk_q al n c U _ _ (hf) hn1 eb).mono ?_; rintro e w6 ⟨rfl, hb5⟩)
       
       have hN2 := hN.on hb5
       have hf2 := hf.below hb5
       have hw2 := hw.trans (hb5.mono hw.size)
       clear hN hf hw d0 d1 hb5
       have hN := hN2
       have hf := hf2
       have hw := hw2
       clear hN2 hf2 hw2
       have d0 : w6.cell? ⟨db, 0, none⟩ = some (.int .i64 x) := hN.c 0 (by decide)
       have d1 : w6.cell? ⟨db, 1, none⟩ = some (.int .i64 y) := hN.c 1 (by decide)
       (try go_wp2_with fail)
       refine tr hK (fun hHeld => ?_)
       clear hK K)
      refine tc 8 fun K hK => ?_
      (go_simp
       (go_at_call 8; refine (sBodiesOk_q al n c U _ _ (hf) hn1 eb).mono ?_; rintro e w7 ⟨rfl, hb5⟩)
       
       have hN2 := hN.on hb5
       have hf2 := hf.below hb5
       have hw2 := hw.trans (hb5.mono hw.size)
       clear hN hf hw d0 d1 hb5
       have hN := hN2
       have hf := hf2
       have hw := hw2
       clear hN2 hf2 hw2
       have d0 : w7.cell? ⟨db, 0, none⟩ = some (.int .i64 x) := hN.c 0 (by decide)
       have d1 : w7.cell? ⟨db, 1, none⟩ = some (.int .i64 y) := hN.c 1 (by decide)
       (try go_wp2_with fail)
       refine tr hK (fun hHeld => ?_)
       clear hK K)
      refine tq 9 hHeld ?_
      refine tq 10 hHeld ?_
      refine tq 11 hHeld ?_
      refine wpAnyH_done (by kernel_rfl) ?_ _
      go_wp2_with fail
      go_ret
      exact ⟨rfl, hw⟩
    · have e0 : ((n : Int) == 0) = false := by simp [hn0]
      go_upto_region 5 with fail
      go_cut [33] (fun s33 wc => s33 = .bool false ∧ Nb wc db 2 (fun j => [x, y].getD j 0) ∧ Flat wc al (n * 12) U ∧ Below w.heap.size w wc)
      case first =>
        refine wp_region_held_drew (S := fun w' => w'.cell? ⟨db, 0, none⟩ = some (.int .i64 x) ∧ w'.cell? ⟨db, 1, none⟩ = some (.int .i64 y)) (by kernel_rfl) ?_ (fun hHeld => ?_)
        · (try dsimp only)
          (first | (go_simp; done) | (go_keep; done))
        refine tq 0 hHeld ?_
        refine tq 1 hHeld ?_
        refine tc 2 fun K hK => ?_
        (go_simp
         (go_at_call 6; refine (sDrives_q al n c U x y _ (hf.dr) hn1 ex ey).mono ?_; rintro e w5 ⟨rfl, hb5⟩)
         have hb5 := hb5.ofDr
         have hN2 := hN.on hb5
         have hf2 := hf.below hb5
         have hw2 := hw.trans (hb5.mono hw.size)
         clear hN hf hw d0 d1 hb5
         have hN := hN2
         have hf := hf2
         have hw := hw2
         clear hN2 hf2 hw2
         have d0 : w5.cell? ⟨db, 0, none⟩ = some (.int .i64 x) := hN.c 0 (by decide)
         have d1 : w5.cell? ⟨db, 1, none⟩ = some (.int .i64 y) := hN.c 1 (by decide)
         (try go_wp2_with fail)
         refine tr hK (fun hHeld => ?_)
         clear hK K)
        refine tq 3 hHeld ?_
        refine tq 4 hHeld ?_
        refine tq 5 hHeld ?_
        refine tq 7 hHeld ?_
        refine tc 6 fun K hK => ?_
        (go_simp
         (go_at_call 7; refine (bodiesOk_q al n c U _ _ (hf) hn1 eb).mono ?_; rintro e w6 ⟨rfl, hb5⟩)
         
         have hN2 := hN.on hb5
         have hf2 := hf.below hb5
         have hw2 := hw.trans (hb5.mono hw.size)
         clear hN hf hw d0 d1 hb5
         have hN := hN2
         have hf := hf2
         have hw := hw2
         clear hN2 hf2 hw2
         have d0 : w6.cell? ⟨db, 0, none⟩ = some (.int .i64 x) := hN.c 0 (by decide)
         have d1 : w6.cell? ⟨db, 1, none⟩ = some (.int .i64 y) := hN.c 1 (by decide)
         (try go_wp2_with fail)
         refine tr hK (fun hHeld => ?_)
         clear hK K)
        refine tc 8 fun K hK => ?_
        (go_simp
         (go_at_call 8; refine (sBodiesOk_q al n c U _ _ (hf) hn1 eb).mono ?_; rintro e w7 ⟨rfl, hb5⟩)
         
         have hN2 := hN.on hb5
         have hf2 := hf.below hb5
         have hw2 := hw.trans (hb5.mono hw.size)
         clear hN hf hw d0 d1 hb5
         have hN := hN2
         have hf := hf2
         have hw := hw2
         clear hN2 hf2 hw2
         have d0 : w7.cell? ⟨db, 0, none⟩ = some (.int .i64 x) := hN.c 0 (by decide)
         have d1 : w7.cell? ⟨db, 1, none⟩ = some (.int .i64 y) := hN.c 1 (by decide)
         (try go_wp2_with fail)
         refine tr hK (fun hHeld => ?_)
         clear hK K)
        refine tq 9 hHeld ?_
        refine tq 10 hHeld ?_
        refine tq 11 hHeld ?_
        refine tq 12 hHeld ?_
        refine tc 13 fun K hK => ?_
        (go_simp
         (go_at_call 8; refine (sBodiesOk_q al n c U _ _ (hf) hn1 eb).mono ?_; rintro e w8 ⟨rfl, hb5⟩)
         
         have hN2 := hN.on hb5
         have hf2 := hf.below hb5
         have hw2 := hw.trans (hb5.mono hw.size)
         clear hN hf hw d0 d1 hb5
         have hN := hN2
         have hf := hf2
         have hw := hw2
         clear hN2 hf2 hw2
         have d0 : w8.cell? ⟨db, 0, none⟩ = some (.int .i64 x) := hN.c 0 (by decide)
         have d1 : w8.cell? ⟨db, 1, none⟩ = some (.int .i64 y) := hN.c 1 (by decide)
         (try go_wp2_with fail)
         refine tr hK (fun hHeld => ?_)
         clear hK K)
        refine tq 14 hHeld ?_
        refine tq 15 hHeld ?_
        refine tq 16 hHeld ?_
        refine tq 17 hHeld ?_
        refine tq 18 hHeld ?_
        refine tq 19 hHeld ?_
        refine tq 20 hHeld ?_
        refine wpAnyH_done (by kernel_rfl) ?_ _
        go_wp2_with fail
        go_meet
        exact ⟨rfl, hN, hf, hw⟩
      case rest =>
      clear hN hf hw d0 d1
      obtain ⟨rfl, hN, hf, hw⟩ := hcut
      obtain ⟨m, rfl⟩ : ∃ m, n = m + 1 := ⟨n - 1, by omega⟩
      have hB := Bods.of eb
      have hBt := hB.tail
      have etb := hBt.to
      obtain ⟨g, hal, hg1, hg2⟩ := hO.own.loc (by omega)
      have hcap := hO.own.le
      subst hal
      have hft := hf.tail
      obtain ⟨x2, ex2⟩ : ∃ x, drX m (fun q => U (q + 12)) = x := ⟨_, rfl⟩
      obtain ⟨y2, ey2⟩ : ∃ y, drY m (fun q => U (q + 12)) = y := ⟨_, rfl⟩
      go_upto_region 7 with fail
      have hft' : Flat wc (if c = 1 then some ⟨g, 0, none⟩ else some ⟨g, 12, none⟩) (m * 12) (fun q => U (q + 12)) := by
        by_cases e : c = 1
        · have : m = 0 := by omega
          subst this
          intro h0; omega
        · rw [if_neg e]; exact hft
      obtain ⟨ta, hta⟩ : ∃ x : Option Addr, (if c = 1 then some ⟨g, 0, none⟩ else some ⟨g, 12, none⟩) = x := ⟨_, rfl⟩
      rw [hta] at hft'
      go_cut [5] (fun s5 wc => ∃ rb, s5 = .pointer (some ⟨rb, 0, none⟩) ∧ Nb wc rb 2 (fun j => [x2, y2].getD j 0) ∧ Nb wc db 2 (fun j => [x, y].getD j 0) ∧ Flat wc (some ⟨g, 0, none⟩) ((m + 1) * 12) U ∧ Below w.heap.size w wc)
      case first =>
        go_wp2_with (go_at_call 5; refine (drives_q ta m (c - 1) (fun q => U (q + 12)) x2 y2 _ hft' (by omega) ex2 ey2).mono ?_; rintro e w2 ⟨rfl, hb2⟩)
        go_meet
        have hE : Below w2.heap.size w2 (w2.alloc (.cells #[.int .i64 x2, .int .i64 y2] 26)) := (Below.refl _ _).alloc (Nat.le_refl _) _
        have hw2 := hw.trans (hb2.mono hw.size)
        exact ⟨_, rfl, ⟨fun j hj => by rcases (show j = 0 ∨ j = 1 by omega) with rfl | rfl <;> go_simp, fun o => by go_simp, by simp⟩, (hN.on hb2).on hE, (hf.below hb2).below hE, hw2.trans (hE.mono hw2.size)⟩
      case rest =>
      clear hN hf hw hft hft'
      obtain ⟨rb, rfl, hR, hN, hf, hw⟩ := hcut
      have ex' : x = x2 + U 6 := by rw [← ex, ← ex2]; unfold drX; rw [eb, etb]; exact sumD_tail U 6 m
      have ey' : y = y2 + U 7 := by rw [← ey, ← ey2]; unfold drY; rw [eb, etb]; exact sumD_tail U 7 m
      have hx2 : x2 = sumD (fun q => U (q + 12)) 6 m := by rw [← ex2]; unfold drX; rw [etb]; rfl
      have hy2 : y2 = sumD (fun q => U (q + 12)) 7 m := by rw [← ey2]; unfold drY; rw [etb]; rfl
      have bx := sumD_b2 (U := fun q => U (q + 12)) (j := 6) (n := m) (fun k hk => (bodyB_bd (hBt.ok k hk)).2.2.2.2.1) m (Nat.le_refl _)
      have by_ := sumD_b2 (U := fun q => U (q + 12)) (j := 7) (n := m) (fun k hk => (bodyB_bd (hBt.ok k hk)).2.2.2.2.2.1) m (Nat.le_refl _)
      rw [← hx2] at bx
      rw [← hy2] at by_
      obtain ⟨_, _, _, _, u6, u7, _⟩ := bodyB_bd (hB.ok 0 (by omega))
      have u6 : -20000000 ≤ U 6 ∧ U 6 ≤ 20000000 := by simpa using u6
      have u7 : -20000000 ≤ U 7 ∧ U 7 ≤ 20000000 := by simpa using u7
      have w1 : IntKind.i64.wrap (x2 + U 6) = x2 + U 6 := i64w (by omega)
      have w2 : IntKind.i64.wrap (y2 + U 7) = y2 + U 7 := i64w (by omega)
      have q1 : (x == x2 + U 6) = true := by simp [ex']
      have q2 : (y == y2 + U 7) = true := by simp [ey']
      clear ex' ey' hx2 hy2 ex ey ex2 ey2 eb etb hev
      have d0 : wc.cell? ⟨db, 0, none⟩ = some (.int .i64 x) := hN.c 0 (by decide)
      have d1 : wc.cell? ⟨db, 1, none⟩ = some (.int .i64 y) := hN.c 1 (by decide)
      have d2 : wc.cell? ⟨rb, 0, none⟩ = some (.int .i64 x2) := hR.c 0 (by decide)
      have d3 : wc.cell? ⟨rb, 1, none⟩ = some (.int .i64 y2) := hR.c 1 (by decide)
      obtain ⟨gb, go, ge, _, hc⟩ := hf (by omega)
      cases ge
      have l6 : wc.cell? ⟨g, 6, none⟩ = some (.int .i64 (U 6)) := by have := hc 6 (by omega); simpa using this
      have l7 : wc.cell? ⟨g, 7, none⟩ = some (.int .i64 (U 7)) := by have := hc 7 (by omega); simpa using this
      clear hc
      go_upto_region 8 with fail
      refine wp_region_held_drew (S := fun w' => w'.cell? ⟨db, 0, none⟩ = some (.int .i64 x) ∧ w'.cell? ⟨db, 1, none⟩ = some (.int .i64 y) ∧ w'.cell? ⟨rb, 0, none⟩ = some (.int .i64 x2) ∧ w'.cell? ⟨rb, 1, none⟩ = some (.int .i64 y2) ∧ w'.cell? ⟨g, 6, none⟩ = some (.int .i64 (U 6)) ∧ w'.cell? ⟨g, 7, none⟩ = some (.int .i64 (U 7))) (by kernel_rfl) ?_ (fun hHeld => ?_)
      · (try dsimp only)
        (first | (go_simp; done) | (go_keep; done))
      refine tq 0 hHeld ?_
      refine tq 1 hHeld ?_
      refine tq 2 hHeld ?_
      refine tq 3 hHeld ?_
      refine tq 4 hHeld ?_
      refine tq 5 hHeld ?_
      refine tq 6 hHeld ?_
      refine tq 7 hHeld ?_
      refine tq 8 hHeld ?_
      refine tq 9 hHeld ?_
      refine tq 10 hHeld ?_
      refine tq 11 hHeld ?_
      refine tq 12 hHeld ?_
      refine tq 13 hHeld ?_
      refine tq 14 hHeld ?_
      refine tq 15 hHeld ?_
      refine tq 16 hHeld ?_
      refine tq 17 hHeld ?_
      refine tq 18 hHeld ?_
      refine tq 19 hHeld ?_
      refine tq 20 hHeld ?_
      refine tq 21 hHeld ?_
      refine tq 22 hHeld ?_
      refine tq 23 hHeld ?_
      refine tq 24 hHeld ?_
      refine wpAnyH_done (by kernel_rfl) ?_ _
      go_wp2_with fail
      go_ret
      exact ⟨rfl, hw.drew⟩
end Go.Proofs.Ytpoichpdkkejjaa
namespace Go.Proofs.Ytpoichpdkkejjaa
theorem head_cut {l : List (List Char)} {c : List Char} (h : (l.head? == some c) = true) : ∃ rest, l = c :: rest := by
  cases l with
  | nil => simp at h
  | cons a r => simp at h; exact ⟨r, by rw [h]⟩
theorem strip_cut (rest : List (List Char)) : stripLifts liftWords ("cut".toList :: rest) = ([], "cut".toList :: rest) := by kernel_rfl
theorem make_of {P : Program} {l : List Char} (h0 : P.initOrder.toList = l) (h1 : ((behindMainWord (wordsSigns l)).head? == some "cut".toList) = true) : P.make = some .cut := by
  obtain ⟨rest, hr⟩ := head_cut h1
  unfold Program.make
  rw [h0, hr]
  rfl
theorem headLifts_of {P : Program} {l : List Char} (h0 : P.initOrder.toList = l) (h1 : ((behindMainWord (wordsSigns l)).head? == some "cut".toList) = true) : P.headLifts = [] := by
  obtain ⟨rest, hr⟩ := head_cut h1
  unfold Program.headLifts
  rw [h0, hr, strip_cut]
  rfl
theorem liftsFinal_of {P : Program} {l : List Char} (h0 : P.initOrder.toList = l) (h1 : ((behindMainWord (wordsSigns l)).head? == some "cut".toList) = true) : P.liftsFinal = false := by
  have hh := headLifts_of h0 h1
  obtain ⟨rest, hr⟩ := head_cut h1
  unfold Program.liftsFinal
  rw [h0, hr, hh]
  rfl
theorem mayEnter_of {P : Program} {l : List Char} (h0 : P.initOrder.toList = l) (h1 : ((behindMainWord (wordsSigns l)).head? == some "cut".toList) = true) (h2 : P.laysLater = false) (h3 : P.bearsReflect = false) (h4 : P.doorFits [] = true) : P.mayEnter = true := by
  obtain ⟨rest, hr⟩ := head_cut h1
  unfold Program.mayEnter
  rw [h0, hr]
  simp only [strip_cut, h2, h3, h4]
  simp
end Go.Proofs.Ytpoichpdkkejjaa
namespace Go.Proofs.Ytpoichpdkkejjaa
set_option maxRecDepth 100000
def ordL : { l : List Char // Try.prog.initOrder = String.ofList l } := ⟨_, rfl⟩
theorem ordT : Try.prog.initOrder.toList = ordL.1 := (congrArg String.toList ordL.2).trans String.toList_ofList
theorem headE : ((behindMainWord (wordsSigns ordL.1)).head? == some "cut".toList) = true := by kernel_rfl
theorem makeT : Try.prog.make = some .cut := make_of ordT headE
theorem liftsFinalT : Try.prog.liftsFinal = false := liftsFinal_of ordT headE
theorem laysLaterT : Try.prog.laysLater = false := by kernel_rfl
theorem bearsReflectT : Try.prog.bearsReflect = false := by kernel_rfl
theorem doorFitsT : Try.prog.doorFits [] = true := by kernel_rfl
theorem mayEnterT : Try.prog.mayEnter = true := mayEnter_of ordT headE laysLaterT bearsReflectT doorFitsT
theorem ownT : ownKnob Try.prog.godebug = none := by kernel_rfl
theorem laidOutT : laidOutB Try.prog = true := by kernel_rfl
theorem mapsRowedT : mapsRowed Try.prog = true := by kernel_rfl
theorem stopsHeardT : Try.prog.stopsHeard = true := by kernel_rfl
theorem plainKeysT : Try.prog.plainKeys = true := by kernel_rfl
end Go.Proofs.Ytpoichpdkkejjaa
