/- All contacts of some columns, by the program. A list that a function makes. All contacts, by the specification. A body of columns that is changed: its drive, its place, for how long it was quiet. A body of columns, handed out; one that is pushed. One body that was given, by its handle. BodyOk, BodySleeps and BodyPush, by the program. A body that is pushed, by the specification; two bodies that are the same. All that is awake is pulled down, by the specification. A body that moves by a way, by the specification. -/
import Derived.Test.YthfodocnehahcaaGreatDoorB8
import Derived.LoopNIn
import Derived.LoopIn
import Derived.OwnWalkIn
import Derived.Deep.RegionHeld3
import Derived.Deep.DeepCutAuto
import Derived.Test.YthfodocnehahcaaGreatDoorB5
import Derived.Test.YthfodocnehahcaaGreatDoorB6
import Derived.Test.YthfodocnehahcaaGreatDoorB2
import Derived.Test.YthfodocnehahcaaGreatDoorB3
import Derived.Test.YthfodocnehahcaaGreatDoorB4
import Derived.Test.YthfodocnehahcaaGreatDoorB1
namespace Go.Proofs.YthfodocnehahcaaGreatDoor
open Go.RowKit
set_option linter.unusedVariables false
set_option linter.unusedSimpArgs false

theorem cells5 (w : World) (p q r s u : Int) (t : TypeId) : ∀ j, j < 5 → (w.alloc (Obj.cells #[.int .i64 p, .int .i64 q, .int .i64 r, .int .i64 s, .int .i64 u] t)).cell? ⟨w.heap.size, j, none⟩ = some (.int .i64 (ofL [p, q, r, s, u] j)) := by
  intro j hj
  rcases (show j = 0 ∨ j = 1 ∨ j = 2 ∨ j = 3 ∨ j = 4 by omega) with rfl | rfl | rfl | rfl | rfl <;> (simp only [ofL]; go_simp; (try rfl))
theorem kFixed_q {cb n k : Nat} {V : Nat → Int} {G : Nat → Nat} {w : World} (h : HAt w cb n k V G) {b : Bool} (e : decide (V 8 = 0) = b) :
    Calls Tryz.prog 28 #[hdk cb k] w fun e w' => e = .returned (.bool b) ∧ Below w.heap.size w w' := by subst e; exact kFixed h
set_option maxRecDepth 20000 in
set_option maxHeartbeats 8000000 in
theorem contacts_any (cb n : Nat) (C : Nat → Nat → Int) (S : Nat → Value) (w : World) (hC : Cs w cb n C S) (hn : n ≤ 12) :
    Calls Tryz.prog 18 #[.pointer (some ⟨cb, 0, none⟩)] w fun e w' => ∃ a m c, e = .returned (.slice a m c) ∧ (conL C n).length = m * 5 ∧ OutL w w' 56 5 a m c (ofL (conL C n)) := by
  have hset := cset_map
  have hcl0 := hC.lt
  refine calls_of_wp_marks Tryz.func18 rfl ?_
  simp only [Tryz.ntmps18, List.size_toArray, List.length_cons, List.length_nil, Nat.reduceAdd, Nat.reduceSub, Array.replicate_succ, Array.replicate_zero, List.push_toArray, List.append_toArray, List.nil_append, List.cons_append]
  go_wp2
  have hE : Below w.heap.size w ((w.alloc (Obj.cells #[(.pointer (some ⟨cb, 0, none⟩))] 45)).alloc (Obj.cells #[.slice none 0 0] 51)) := ((Below.refl _ _).alloc (Nat.le_refl _) _).alloc (by simp) _
  have hC2 := hC.below hE
  have r1 : ((w.alloc (Obj.cells #[(.pointer (some ⟨cb, 0, none⟩))] 45)).alloc (Obj.cells #[.slice none 0 0] 51)).cell? ⟨w.heap.size, 0, none⟩ = some (.pointer (some ⟨cb, 0, none⟩)) := by go_simp
  have hA : LsAt ((w.alloc (Obj.cells #[(.pointer (some ⟨cb, 0, none⟩))] 45)).alloc (Obj.cells #[.slice none 0 0] 51)) ((w.alloc (Obj.cells #[(.pointer (some ⟨cb, 0, none⟩))] 45)).alloc (Obj.cells #[.slice none 0 0] 51)) (w.heap.size + 1) 56 5 none 0 0 [] := LsAt.start (by go_simp) (by go_simp)
  have hz2 : ((w.alloc (Obj.cells #[(.pointer (some ⟨cb, 0, none⟩))] 45)).alloc (Obj.cells #[.slice none 0 0] 51)).heap.size = w.heap.size + 1 + 1 := by simp
  generalize ((w.alloc (Obj.cells #[(.pointer (some ⟨cb, 0, none⟩))] 45)).alloc (Obj.cells #[.slice none 0 0] 51)) = w2 at hE hC2 r1 hA hz2 ⊢
  have hXl : ∀ b, Xc S b → b < w.heap.size := fun b hb => (hC.xlt hb).2
  have hlb0 : w.heap.size < w.heap.size + 1 := by omega
  have hlb : w.heap.size + 1 < w2.heap.size := by omega
  generalize w.heap.size + 1 = lb at hA hlb0 hlb ⊢
  have hcl := hC2.lt
  obtain ⟨ad, cc, hS0⟩ := (hC2.own 0 (by omega)).is
  have hd0 := hC2.hd 0 (by omega)
  rw [hS0] at hd0
  refine wp_range_out (gf := 27) (bound := #[(.pointer (some ⟨cb, 0, none⟩))]) rfl each_enters (each_it cb n _ _ w2 hcl hd0 (by omega)) (fun _ => rfl) (fun i W => ∃ a m c, LsAt w2 W lb 56 5 a m c (conOut C n i)) (fun _ _ => False) ?_ (fun _ _ _ h _ => h) ⟨_, _, _, hA⟩ ?round ?done (fun _ _ _ _ h _ => h.elim)
  · rintro i A B ⟨a, m, c, h1⟩ hs
    exact ⟨a, m, c, h1.sm hs (Nat.le_refl _)⟩
  case round =>
    rintro l0 i W hl0 ⟨a, m, c, hL⟩ hi
    simp only [List.zip_toArray, List.zip_cons_cons, List.zip_nil_left, List.foldl_toArray, List.foldl_cons, List.foldl_nil, List.setIfInBounds_toArray, List.set_cons_succ, List.set_cons_zero]
    refine wpIn_region_plain (by rintro ⟨_, _, h⟩; exact h) (by kernel_rfl) ?_
    go_wp2
    refine ⟨(KeepsOthers.alloc _ _).from _, fun W2 hS hr => ?_⟩
    obtain ⟨rr, hrr⟩ := hr
    have hzW := hL.fr.size
    have hL2 : LsAt w2 W2 lb 56 5 a m c (conOut C n i) := (hL.below ((Below.refl _ _).alloc (Nat.le_refl _) _)).sm hS (Nat.le_refl _)
    have v0 : W2.cell? ⟨W.heap.size, 0, none⟩ = some (.int .i64 (i : Int)) := hS.cell (by go_simp)
    have v1 : W2.cell? ⟨W.heap.size, 1, none⟩ = some (.pointer (some ⟨cb, 0, none⟩)) := hS.cell (by go_simp)
    have hz3 : W.heap.size < W2.heap.size := by have := hS.size; simp at this; omega
    have hob0 : ∀ b, (Value.slice a m c).ownBlock = some b → b ≠ W.heap.size := fun b e => by have := (hL.own.lt b e).2; omega
    generalize W.heap.size = ba at v0 v1 hz3 hzW hob0 ⊢
    clear hS hL
    have r1' : W2.cell? ⟨w.heap.size, 0, none⟩ = some (.pointer (some ⟨cb, 0, none⟩)) := (hL2.fr.cell (p := ⟨w.heap.size, 0, none⟩) (by simp; omega) (by simp; omega)).trans r1
    have hCW := hC2.frame hL2.fr (by omega) (fun b hb => by have := hXl b hb; omega)
    have hdW := hCW.hd 0 (by omega)
    rw [hS0] at hdW
    refine wpIn_block ?_
    refine wpIn_seq_k fun K0 hK0 => ?_
    refine wpIn_region_plain (by rintro ⟨_, _, h⟩; exact h) (by kernel_rfl) ?_
    go_wp2
    refine wpIn_block ?_
    refine wpIn_range_in hrr (gf := 27) (bound := #[(.pointer (some ⟨cb, 0, none⟩))]) rfl each_enters (each_it cb n _ _ W2 hCW.lt hdW (by omega)) (fun _ => rfl)
      (fun k X => (∃ a m c, LsAt w2 X lb 56 5 a m c (conOut C n i ++ conIn C i k) ∧ ∀ b, (Value.slice a m c).ownBlock = some b → b ≠ ba) ∧ X.cell? ⟨ba, 0, none⟩ = some (.int .i64 (i : Int)) ∧ X.cell? ⟨ba, 1, none⟩ = some (.pointer (some ⟨cb, 0, none⟩)) ∧ KeepsFrom w2.heap.size W2 X ∧ W2.heap.size ≤ X.heap.size)
      (fun _ _ => False) ?_ (fun _ _ _ h _ => h) ?_ ?round2 ?done2 (fun _ _ h => h.elim)
    · rintro k A B ⟨⟨a, m, c, h1, h1'⟩, h2, h3, h4, h5⟩ hs
      exact ⟨⟨a, m, c, h1.sm hs hL2.fr.size, h1'⟩, hs.cell h2, hs.cell h3, h4.sm hs (Nat.le_refl _), Nat.le_trans h5 hs.size⟩
    · exact ⟨⟨a, m, c, by rw [conIn, List.append_nil]; exact hL2, hob0⟩, v0, v1, KeepsFrom.refl _ _, Nat.le_refl _⟩
    case done2 =>
      rintro X ⟨⟨a, m, c, h1, h1'⟩, h2, h3, h4, h5⟩
      exact ⟨h4, a, m, c, h1⟩
    case round2 =>
      rintro l1 k X hl1 ⟨⟨a, m, c, hL3, hoba⟩, x0, x1, hKF, hXz⟩ hk
      simp only [List.zip_toArray, List.zip_cons_cons, List.zip_nil_left, List.foldl_toArray, List.foldl_cons, List.foldl_nil, List.setIfInBounds_toArray, List.set_cons_succ, List.set_cons_zero]
      refine wpIn_region_plain (by rintro ⟨_, _, h⟩; exact h) (by kernel_rfl) ?_
      go_wp2
      refine ⟨(KeepsOthers.alloc _ _).from _, fun X2 hS2 hr2 => ?_⟩
      clear hr2
      have hE2 : Below X.heap.size X (X.alloc (Obj.cells #[.int .i64 (k : Int), .pointer (some ⟨cb, 0, none⟩)] 79)) := (Below.refl _ _).alloc (Nat.le_refl _) _
      have hLX : LsAt w2 X2 lb 56 5 a m c (conOut C n i ++ conIn C i k) := (hL3.below hE2).sm hS2 hL2.fr.size
      have hKX : KeepsFrom w2.heap.size W2 X2 := (hKF.trans ((KeepsOthers.alloc _ _).from _)).sm hS2 (Nat.le_refl _)
      have a0 : X2.cell? ⟨ba, 0, none⟩ = some (.int .i64 (i : Int)) := hS2.cell ((hE2.cell (p := ⟨ba, 0, none⟩) (by simp; omega)).trans x0)
      have a1 : X2.cell? ⟨ba, 1, none⟩ = some (.pointer (some ⟨cb, 0, none⟩)) := hS2.cell ((hE2.cell (p := ⟨ba, 1, none⟩) (by simp; omega)).trans x1)
      have b0 : X2.cell? ⟨X.heap.size, 0, none⟩ = some (.int .i64 (k : Int)) := hS2.cell (by go_simp)
      have b1 : X2.cell? ⟨X.heap.size, 1, none⟩ = some (.pointer (some ⟨cb, 0, none⟩)) := hS2.cell (by go_simp)
      have hzX : X.heap.size < X2.heap.size := by have := hS2.size; simp at this; omega
      have hown : ∀ b, (Value.slice a m c).ownBlock = some b → b < X.heap.size := fun b hb => (hL3.own.lt b hb).2
      obtain ⟨mm, hm1, hm2⟩ := conOut_len C n i
      obtain ⟨mk, hm3, hm4⟩ := conIn_len C i k
      have hm5 := hL3.len
      rw [List.length_append, hm1, hm3] at hm5
      have hm6 : i * n ≤ 12 * 12 := Nat.mul_le_mul (by omega) hn
      clear hS2 hE2 hL3 x0 x1
      generalize X.heap.size = bb at b0 b1 hzX hown hXz ⊢
      have hCX := hC2.frame hLX.fr (by omega) (fun b hb => by have := hXl b hb; omega)
      have stay : ∀ Y, Below X2.heap.size X2 Y → conOne C i k = [] → KeepsFrom W2.heap.size X2 Y ∧ (∃ a m c, LsAt w2 Y lb 56 5 a m c (conOut C n i ++ conIn C i (k + 1)) ∧ ∀ b, (Value.slice a m c).ownBlock = some b → b ≠ ba) ∧ Y.cell? ⟨ba, 0, none⟩ = some (.int .i64 (i : Int)) ∧ Y.cell? ⟨ba, 1, none⟩ = some (.pointer (some ⟨cb, 0, none⟩)) ∧ KeepsFrom w2.heap.size W2 Y ∧ W2.heap.size ≤ Y.heap.size := fun Y hb hno =>
        ⟨KeepsFrom.of_below hb, ⟨a, m, c, by rw [conIn, hno, List.append_nil]; exact hLX.below hb, hoba⟩, (hb.cell (p := ⟨ba, 0, none⟩) (by simp; omega)).trans a0, (hb.cell (p := ⟨ba, 1, none⟩) (by simp; omega)).trans a1, hKX.trans (KeepsFrom.of_below hb), by have := hb.size; omega⟩
      have fin : ∀ (Y : World) (a' : Option Addr) (m' c' : Nat) {x : List Int}, LsAt w2 Y lb 56 5 a' m' c' ((conOut C n i ++ conIn C i k) ++ x) → (∀ b, (Value.slice a' m' c').ownBlock = some b → b ≠ ba) → Fr (fun b => b = lb ∨ (Value.slice a m c).ownBlock = some b) X2 Y → conOne C i k = x → KeepsFrom W2.heap.size X2 Y ∧ (∃ a m c, LsAt w2 Y lb 56 5 a m c (conOut C n i ++ conIn C i (k + 1)) ∧ ∀ b, (Value.slice a m c).ownBlock = some b → b ≠ ba) ∧ Y.cell? ⟨ba, 0, none⟩ = some (.int .i64 (i : Int)) ∧ Y.cell? ⟨ba, 1, none⟩ = some (.pointer (some ⟨cb, 0, none⟩)) ∧ KeepsFrom w2.heap.size W2 Y ∧ W2.heap.size ≤ Y.heap.size := fun Y a' m' c' x hP hnb hF hx =>
        have hn : ¬ (ba = lb ∨ (Value.slice a m c).ownBlock = some ba) := fun q => q.elim (fun q => by omega) (fun q => hoba ba q rfl)
        ⟨hF.keeps _, ⟨a', m', c', by rw [conIn, hx, ← List.append_assoc]; exact hP, hnb⟩, (hF.cell (p := ⟨ba, 0, none⟩) (by simp; omega) hn).trans a0, (hF.cell (p := ⟨ba, 1, none⟩) (by simp; omega) hn).trans a1, hKX.trans (hF.keeps _), by have := hF.size; omega⟩
      refine wpIn_block ?_
      refine wpIn_seq_k fun K1 hK1 => ?_
      refine wpIn_seq_k fun K2 hK2 => ?_
      by_cases hik : i < k
      · have hd1 : decide (k ≤ i) = false := decide_eq_false (by omega)
        cases hfi : decide (C 8 i = 0) with
        | false =>
          have hnf : ¬ (C 8 i = 0 ∧ C 8 k = 0) := fun q => by rw [decide_eq_true q.1] at hfi; cases hfi
          refine wpIn_region_plain (by rintro ⟨_, _, h⟩; exact h) (by kernel_rfl) ?_
          go_wp2_with (go_at_call 28; refine (kFixed_q (Cs.hat hCX hi (by omega)) hfi).mono ?_; rintro e w11 ⟨rfl, hb11⟩; obtain ⟨hc11, hf11⟩ := bcell hb11; have hz11 := hb11.size; (try simp only [World.size_drew, World.size_alloc, World.size_setCell] at hc11 hf11 hz11); have hk11x0 := fun o => hc11 (ba) o (by omega); have hj11x0 := fun o => hf11 (ba) o (by omega); have hq11x0 : ba < w11.heap.size := (by omega); have hk11x1 := fun o => hc11 (bb) o (by omega); have hj11x1 := fun o => hf11 (bb) o (by omega); have hq11x1 : bb < w11.heap.size := (by omega); have hk11x2 := fun o => hc11 (lb) o (by omega); have hj11x2 := fun o => hf11 (lb) o (by omega); have hq11x2 : lb < w11.heap.size := (by omega); clear hc11 hf11)
          refine wpIn_cond_false rfl ?_
          refine wpIn_skip ?_
          refine hK1 _ _ ?_
          refine wpIn_seq_k fun K3 hK3 => ?_
          obtain ⟨TX, TY, TD, TJ, hT⟩ : ∃ TX TY TD TJ, tcH C i k = ((TX, TY, TD), TJ) := ⟨_, _, _, _, rfl⟩
          refine wpIn_region_plain (by rintro ⟨_, _, h⟩; exact h) (by kernel_rfl) ?_
          go_wp2_with (go_at_call 29; refine (kTouch (Cs.hat (hCX.below hb11) hi (by omega)) (Cs.hat (hCX.below hb11) hk (by omega)) TX TY TD TJ hT).mono ?_; rintro e w13 ⟨rfl, hb13⟩; obtain ⟨hc13, hf13⟩ := bcell hb13; have hz13 := hb13.size; (try simp only [World.size_drew, World.size_alloc, World.size_setCell] at hc13 hf13 hz13); have hk13x0 := fun o => hc13 (ba) o (by omega); have hj13x0 := fun o => hf13 (ba) o (by omega); have hq13x0 : ba < w13.heap.size := (by omega); have hk13x1 := fun o => hc13 (bb) o (by omega); have hj13x1 := fun o => hf13 (bb) o (by omega); have hq13x1 : bb < w13.heap.size := (by omega); have hk13x2 := fun o => hc13 (lb) o (by omega); have hj13x2 := fun o => hf13 (lb) o (by omega); have hq13x2 : lb < w13.heap.size := (by omega); clear hc13 hf13)
          have hbZ0 : Below X2.heap.size X2 w13 := hb11.trans (hb13.mono hb11.size)
          have hbZ : Below X2.heap.size X2 (w13.alloc (Obj.cells #[.int .i64 TX, .int .i64 TY, .int .i64 TD] 54)) := hbZ0.alloc hbZ0.size _
          have hLZ := hLX.below hbZ
          have z0 : (w13.alloc (Obj.cells #[.int .i64 TX, .int .i64 TY, .int .i64 TD] 54)).cell? ⟨ba, 0, none⟩ = some (.int .i64 (i : Int)) := (hbZ.cell (p := ⟨ba, 0, none⟩) (by simp; omega)).trans a0
          have z1 : (w13.alloc (Obj.cells #[.int .i64 TX, .int .i64 TY, .int .i64 TD] 54)).cell? ⟨bb, 0, none⟩ = some (.int .i64 (k : Int)) := (hbZ.cell (p := ⟨bb, 0, none⟩) hzX).trans b0
          have z2 : (w13.alloc (Obj.cells #[.int .i64 TX, .int .i64 TY, .int .i64 TD] 54)).cell? ⟨w13.heap.size, 0, none⟩ = some (.int .i64 TX) := by go_simp
          have z3 : (w13.alloc (Obj.cells #[.int .i64 TX, .int .i64 TY, .int .i64 TD] 54)).cell? ⟨w13.heap.size, 1, none⟩ = some (.int .i64 TY) := by go_simp
          have z4 : (w13.alloc (Obj.cells #[.int .i64 TX, .int .i64 TY, .int .i64 TD] 54)).cell? ⟨w13.heap.size, 2, none⟩ = some (.int .i64 TD) := by go_simp
          have hzb : w13.heap.size < (w13.alloc (Obj.cells #[.int .i64 TX, .int .i64 TY, .int .i64 TD] 54)).heap.size := by simp
          have hzb3 := hbZ0.size
          generalize (w13.alloc (Obj.cells #[.int .i64 TX, .int .i64 TY, .int .i64 TD] 54)) = Z at hbZ hLZ z0 z1 z2 z3 z4 hzb ⊢
          generalize w13.heap.size = bh at z2 z3 z4 hzb hzb3 ⊢
          have n1 : lb ≠ ba := by omega
          have n2 : lb ≠ bb := by omega
          have n3 : lb ≠ bh := by omega
          have zb := hLZ.box
          have zf := hLZ.nf
          refine wpIn_seq_k fun K4 hK4 => ?_
          refine wpIn_region_plain (by rintro ⟨_, _, h⟩; exact h) (by kernel_rfl) ?_
          go_wp2
          cases TJ with
          | false =>
            refine wpIn_cond_false rfl ?_
            refine wpIn_skip ?_
            exact stay Z hbZ (conOne_no (by unfold conB; rw [hT]; simp))
          | true =>
            have hyes : Shut (conOne C i k = [(i : Int), (k : Int), TX, TY, TD]) := conOne_yes (conB_yes hik hnf hT) hT
            refine wpIn_cond_true rfl ?_
            refine wpIn_region_held_drew (S := fun w' => w'.cell? ⟨ba, 0, none⟩ = some (.int .i64 (i : Int)) ∧ w'.cell? ⟨bb, 0, none⟩ = some (.int .i64 (k : Int)) ∧ w'.cell? ⟨bh, 0, none⟩ = some (.int .i64 TX) ∧ w'.cell? ⟨bh, 1, none⟩ = some (.int .i64 TY) ∧ w'.cell? ⟨bh, 2, none⟩ = some (.int .i64 TD)) (by kernel_rfl) (by rintro ⟨_, _, h⟩; exact h) (by kernel_rfl) ?_ (fun hHeld => ?_)
            · (try dsimp only)
              (first | (go_simp; done) | (go_keep; done))
            refine tq 1 hHeld ?_
            refine tq 2 hHeld ?_
            refine tq 4 hHeld ?_
            refine tq 5 hHeld ?_
            refine tq 7 hHeld ?_
            refine wpAnyH_ready (rs := [0, 3]) (by kernel_rfl) (by simp) ?_
            refine AllReadyH.cons rfl (fun K hK => ?_) (AllReadyH.cons rfl (fun K hK => ?_) AllReadyH.nil)
            · (go_simp; refine tr hK (fun hHeld => ?_); clear hK K)
              refine tc 3 fun K hK => ?_
              (go_simp; (go_at_call 30; refine (place_any _ _).mono ?_; rintro e w14 ⟨rfl, hb14⟩; obtain ⟨hc14, hf14⟩ := bcell hb14; have hz14 := hb14.size; (try simp only [World.size_drew, World.size_alloc, World.size_setCell] at hc14 hf14 hz14); have hk14x0 := fun o => hc14 (ba) o (by omega); have hj14x0 := fun o => hf14 (ba) o (by omega); have hq14x0 : ba < w14.heap.size := (by omega); have hk14x1 := fun o => hc14 (bb) o (by omega); have hj14x1 := fun o => hf14 (bb) o (by omega); have hq14x1 : bb < w14.heap.size := (by omega); have hk14x2 := fun o => hc14 (bh) o (by omega); have hj14x2 := fun o => hf14 (bh) o (by omega); have hq14x2 : bh < w14.heap.size := (by omega); have hk14x3 := fun o => hc14 (lb) o (by omega); have hj14x3 := fun o => hf14 (lb) o (by omega); have hq14x3 : lb < w14.heap.size := (by omega); clear hc14 hf14); (try go_wp2_with fail); refine tr hK (fun hHeld => ?_); clear hK K)
              refine tc 6 fun K hK => ?_
              (go_simp; (go_at_call 30; refine (place_any _ _).mono ?_; rintro e w15 ⟨rfl, hb15⟩; obtain ⟨hc15, hf15⟩ := bcell hb15; have hz15 := hb15.size; (try simp only [World.size_drew, World.size_alloc, World.size_setCell] at hc15 hf15 hz15); have hk15x0 := fun o => hc15 (ba) o (by omega); have hj15x0 := fun o => hf15 (ba) o (by omega); have hq15x0 : ba < w15.heap.size := (by omega); have hk15x1 := fun o => hc15 (bb) o (by omega); have hj15x1 := fun o => hf15 (bb) o (by omega); have hq15x1 : bb < w15.heap.size := (by omega); have hk15x2 := fun o => hc15 (bh) o (by omega); have hj15x2 := fun o => hf15 (bh) o (by omega); have hq15x2 : bh < w15.heap.size := (by omega); have hk15x3 := fun o => hc15 (lb) o (by omega); have hj15x3 := fun o => hf15 (lb) o (by omega); have hq15x3 : lb < w15.heap.size := (by omega); clear hc15 hf15); (try go_wp2_with fail); refine tr hK (fun hHeld => ?_); clear hK K)
              refine tq 8 hHeld ?_
              refine tc 9 fun K hK => ?_
              (go_simp; refine tr hK (fun hHeld => ?_); clear hK K)
              refine tc 10 fun K hK => ?_
              have hbZ5 : Below Z.heap.size Z w15 := hb14.ofDr.trans (hb15.mono hb14.size)
              have hbZ6 : Below Z.heap.size Z (w15.alloc (Obj.cells #[.int .i64 (i : Int), .int .i64 (k : Int), .int .i64 TX, .int .i64 TY, .int .i64 TD] 56)) := hbZ5.alloc hbZ5.size _
              have hL6 := hLZ.below hbZ6
              have hz6 := hbZ5.size
              refine step_appk (by rfl) _ _ _ (by rfl) w2.heap.size 56 5 40 (.agg #[.int .i64 0, .int .i64 0, .int .i64 0, .int .i64 0, .int .i64 0]) Tryz.underlying51 (by kernel_rfl) (by rfl) (by omega) (.slice a m c) m (ofL (conOut C n i ++ conIn C i k)) (by rfl) hL6.own w15.heap.size _ (ofL [(i : Int), (k : Int), TX, TY, TD]) (by rfl) (cells5 w15 _ _ _ _ _ _) (by unfold maxLen; omega) (by omega) (by simp only [World.size_alloc]; omega) (w15.heap.size + 1) (by simp) ?_
              intro g6 c6 w6 ho6 hg6 hor6 hlt6
              have hP := hL6.push hlb (x := [(i : Int), (k : Int), TX, TY, TD]) rfl hg6 ho6
              have hKP := (Fr.of_below hbZ6).trans (hL6.keeps (a' := some ⟨g6, 0, none⟩) (m' := m + 1) (c' := c6) hlb hg6)
              have hnb : g6 ≠ ba := by
                rcases hor6 with q | q
                · exact hoba g6 q
                · omega
              have oz : ∀ b, (Value.slice a m c).ownBlock = some b → b < bb ∧ b ≠ ba ∧ lb < b := fun b e => ⟨hown b e, hoba b e, by have := (hL6.own.lt b e).1; omega⟩
              have x6a : w6.cell? ⟨ba, 0, none⟩ = some (.int .i64 (i : Int)) := (hg6.cell_far ⟨ba, 0, none⟩ (by simp; omega) (fun e => (oz ba e.symm).2.1 rfl)).trans (by go_simp)
              have x6b : w6.cell? ⟨bb, 0, none⟩ = some (.int .i64 (k : Int)) := (hg6.cell_far ⟨bb, 0, none⟩ (by simp; omega) (fun e => by have := (oz bb e.symm).1; omega)).trans (by go_simp)
              have x6c : w6.cell? ⟨bh, 0, none⟩ = some (.int .i64 TX) := (hg6.cell_far ⟨bh, 0, none⟩ (by simp; omega) (fun e => by have := (oz bh e.symm).1; omega)).trans (by go_simp)
              have x6d : w6.cell? ⟨bh, 1, none⟩ = some (.int .i64 TY) := (hg6.cell_far ⟨bh, 1, none⟩ (by simp; omega) (fun e => by have := (oz bh e.symm).1; omega)).trans (by go_simp)
              have x6e : w6.cell? ⟨bh, 2, none⟩ = some (.int .i64 TD) := (hg6.cell_far ⟨bh, 2, none⟩ (by simp; omega) (fun e => by have := (oz bh e.symm).1; omega)).trans (by go_simp)
              have x6f : w6.cell? ⟨lb, 0, none⟩ = some (.slice a m c) := (hg6.cell_far ⟨lb, 0, none⟩ (by simp; omega) (fun e => by have := (oz lb e.symm).2.2; omega)).trans hL6.box
              have x6g : w6.frozen? ⟨lb, 0, none⟩ = false := (hg6.frozen_far ⟨lb, 0, none⟩ (by simp; omega) (fun e => by have := (oz lb e.symm).2.2; omega)).trans hL6.nf
              refine tr hK (fun hHeld => ?_) ⟨x6a, x6b, x6c, x6d, x6e⟩
              clear hK K
              refine tc 11 fun K hK => ?_
              (go_simp; refine tr hK (fun hHeld => ?_); clear hK K)
              refine wpAnyH_done (by kernel_rfl) ?_ _
              exact fin _ _ _ _ hP (fun b e => by simp only [Value.ownBlock, Option.some.injEq] at e; subst e; exact hnb) ((Fr.of_below hbZ).trans hKP) hyes.out
            · (go_simp; (go_at_call 30; refine (place_any _ _).mono ?_; rintro e w14 ⟨rfl, hb14⟩; obtain ⟨hc14, hf14⟩ := bcell hb14; have hz14 := hb14.size; (try simp only [World.size_drew, World.size_alloc, World.size_setCell] at hc14 hf14 hz14); have hk14x0 := fun o => hc14 (ba) o (by omega); have hj14x0 := fun o => hf14 (ba) o (by omega); have hq14x0 : ba < w14.heap.size := (by omega); have hk14x1 := fun o => hc14 (bb) o (by omega); have hj14x1 := fun o => hf14 (bb) o (by omega); have hq14x1 : bb < w14.heap.size := (by omega); have hk14x2 := fun o => hc14 (bh) o (by omega); have hj14x2 := fun o => hf14 (bh) o (by omega); have hq14x2 : bh < w14.heap.size := (by omega); have hk14x3 := fun o => hc14 (lb) o (by omega); have hj14x3 := fun o => hf14 (lb) o (by omega); have hq14x3 : lb < w14.heap.size := (by omega); clear hc14 hf14); (try go_wp2_with fail); refine tr hK (fun hHeld => ?_); clear hK K)
              refine wpAnyH_ready (rs := [0, 6]) (by kernel_rfl) (by simp) ?_
              refine AllReadyH.cons rfl (fun K hK => ?_) (AllReadyH.cons rfl (fun K hK => ?_) AllReadyH.nil)
              · (go_simp; refine tr hK (fun hHeld => ?_); clear hK K)
                refine tc 6 fun K hK => ?_
                (go_simp; (go_at_call 30; refine (place_any _ _).mono ?_; rintro e w15 ⟨rfl, hb15⟩; obtain ⟨hc15, hf15⟩ := bcell hb15; have hz15 := hb15.size; (try simp only [World.size_drew, World.size_alloc, World.size_setCell] at hc15 hf15 hz15); have hk15x0 := fun o => hc15 (ba) o (by omega); have hj15x0 := fun o => hf15 (ba) o (by omega); have hq15x0 : ba < w15.heap.size := (by omega); have hk15x1 := fun o => hc15 (bb) o (by omega); have hj15x1 := fun o => hf15 (bb) o (by omega); have hq15x1 : bb < w15.heap.size := (by omega); have hk15x2 := fun o => hc15 (bh) o (by omega); have hj15x2 := fun o => hf15 (bh) o (by omega); have hq15x2 : bh < w15.heap.size := (by omega); have hk15x3 := fun o => hc15 (lb) o (by omega); have hj15x3 := fun o => hf15 (lb) o (by omega); have hq15x3 : lb < w15.heap.size := (by omega); clear hc15 hf15); (try go_wp2_with fail); refine tr hK (fun hHeld => ?_); clear hK K)
                refine tq 8 hHeld ?_
                refine tc 9 fun K hK => ?_
                (go_simp; refine tr hK (fun hHeld => ?_); clear hK K)
                refine tc 10 fun K hK => ?_
                have hbZ5 : Below Z.heap.size Z w15 := hb14.ofDr.trans (hb15.mono hb14.size)
                have hbZ6 : Below Z.heap.size Z (w15.alloc (Obj.cells #[.int .i64 (i : Int), .int .i64 (k : Int), .int .i64 TX, .int .i64 TY, .int .i64 TD] 56)) := hbZ5.alloc hbZ5.size _
                have hL6 := hLZ.below hbZ6
                have hz6 := hbZ5.size
                refine step_appk (by rfl) _ _ _ (by rfl) w2.heap.size 56 5 40 (.agg #[.int .i64 0, .int .i64 0, .int .i64 0, .int .i64 0, .int .i64 0]) Tryz.underlying51 (by kernel_rfl) (by rfl) (by omega) (.slice a m c) m (ofL (conOut C n i ++ conIn C i k)) (by rfl) hL6.own w15.heap.size _ (ofL [(i : Int), (k : Int), TX, TY, TD]) (by rfl) (cells5 w15 _ _ _ _ _ _) (by unfold maxLen; omega) (by omega) (by simp only [World.size_alloc]; omega) (w15.heap.size + 1) (by simp) ?_
                intro g6 c6 w6 ho6 hg6 hor6 hlt6
                have hP := hL6.push hlb (x := [(i : Int), (k : Int), TX, TY, TD]) rfl hg6 ho6
                have hKP := (Fr.of_below hbZ6).trans (hL6.keeps (a' := some ⟨g6, 0, none⟩) (m' := m + 1) (c' := c6) hlb hg6)
                have hnb : g6 ≠ ba := by
                  rcases hor6 with q | q
                  · exact hoba g6 q
                  · omega
                have oz : ∀ b, (Value.slice a m c).ownBlock = some b → b < bb ∧ b ≠ ba ∧ lb < b := fun b e => ⟨hown b e, hoba b e, by have := (hL6.own.lt b e).1; omega⟩
                have x6a : w6.cell? ⟨ba, 0, none⟩ = some (.int .i64 (i : Int)) := (hg6.cell_far ⟨ba, 0, none⟩ (by simp; omega) (fun e => (oz ba e.symm).2.1 rfl)).trans (by go_simp)
                have x6b : w6.cell? ⟨bb, 0, none⟩ = some (.int .i64 (k : Int)) := (hg6.cell_far ⟨bb, 0, none⟩ (by simp; omega) (fun e => by have := (oz bb e.symm).1; omega)).trans (by go_simp)
                have x6c : w6.cell? ⟨bh, 0, none⟩ = some (.int .i64 TX) := (hg6.cell_far ⟨bh, 0, none⟩ (by simp; omega) (fun e => by have := (oz bh e.symm).1; omega)).trans (by go_simp)
                have x6d : w6.cell? ⟨bh, 1, none⟩ = some (.int .i64 TY) := (hg6.cell_far ⟨bh, 1, none⟩ (by simp; omega) (fun e => by have := (oz bh e.symm).1; omega)).trans (by go_simp)
                have x6e : w6.cell? ⟨bh, 2, none⟩ = some (.int .i64 TD) := (hg6.cell_far ⟨bh, 2, none⟩ (by simp; omega) (fun e => by have := (oz bh e.symm).1; omega)).trans (by go_simp)
                have x6f : w6.cell? ⟨lb, 0, none⟩ = some (.slice a m c) := (hg6.cell_far ⟨lb, 0, none⟩ (by simp; omega) (fun e => by have := (oz lb e.symm).2.2; omega)).trans hL6.box
                have x6g : w6.frozen? ⟨lb, 0, none⟩ = false := (hg6.frozen_far ⟨lb, 0, none⟩ (by simp; omega) (fun e => by have := (oz lb e.symm).2.2; omega)).trans hL6.nf
                refine tr hK (fun hHeld => ?_) ⟨x6a, x6b, x6c, x6d, x6e⟩
                clear hK K
                refine tc 11 fun K hK => ?_
                (go_simp; refine tr hK (fun hHeld => ?_); clear hK K)
                refine wpAnyH_done (by kernel_rfl) ?_ _
                exact fin _ _ _ _ hP (fun b e => by simp only [Value.ownBlock, Option.some.injEq] at e; subst e; exact hnb) ((Fr.of_below hbZ).trans hKP) hyes.out
              · (go_simp; (go_at_call 30; refine (place_any _ _).mono ?_; rintro e w15 ⟨rfl, hb15⟩; obtain ⟨hc15, hf15⟩ := bcell hb15; have hz15 := hb15.size; (try simp only [World.size_drew, World.size_alloc, World.size_setCell] at hc15 hf15 hz15); have hk15x0 := fun o => hc15 (ba) o (by omega); have hj15x0 := fun o => hf15 (ba) o (by omega); have hq15x0 : ba < w15.heap.size := (by omega); have hk15x1 := fun o => hc15 (bb) o (by omega); have hj15x1 := fun o => hf15 (bb) o (by omega); have hq15x1 : bb < w15.heap.size := (by omega); have hk15x2 := fun o => hc15 (bh) o (by omega); have hj15x2 := fun o => hf15 (bh) o (by omega); have hq15x2 : bh < w15.heap.size := (by omega); have hk15x3 := fun o => hc15 (lb) o (by omega); have hj15x3 := fun o => hf15 (lb) o (by omega); have hq15x3 : lb < w15.heap.size := (by omega); clear hc15 hf15); (try go_wp2_with fail); refine tr hK (fun hHeld => ?_); clear hK K)
                refine tq 8 hHeld ?_
                refine wpAnyH_ready (rs := [0, 9]) (by kernel_rfl) (by simp) ?_
                refine AllReadyH.cons rfl (fun K hK => ?_) (AllReadyH.cons rfl (fun K hK => ?_) AllReadyH.nil)
                · (go_simp; refine tr hK (fun hHeld => ?_); clear hK K)
                  refine tc 9 fun K hK => ?_
                  (go_simp; refine tr hK (fun hHeld => ?_); clear hK K)
                  refine tc 10 fun K hK => ?_
                  have hbZ5 : Below Z.heap.size Z w15 := hb14.ofDr.trans (hb15.mono hb14.size)
                  have hbZ6 : Below Z.heap.size Z (w15.alloc (Obj.cells #[.int .i64 (i : Int), .int .i64 (k : Int), .int .i64 TX, .int .i64 TY, .int .i64 TD] 56)) := hbZ5.alloc hbZ5.size _
                  have hL6 := hLZ.below hbZ6
                  have hz6 := hbZ5.size
                  refine step_appk (by rfl) _ _ _ (by rfl) w2.heap.size 56 5 40 (.agg #[.int .i64 0, .int .i64 0, .int .i64 0, .int .i64 0, .int .i64 0]) Tryz.underlying51 (by kernel_rfl) (by rfl) (by omega) (.slice a m c) m (ofL (conOut C n i ++ conIn C i k)) (by rfl) hL6.own w15.heap.size _ (ofL [(i : Int), (k : Int), TX, TY, TD]) (by rfl) (cells5 w15 _ _ _ _ _ _) (by unfold maxLen; omega) (by omega) (by simp only [World.size_alloc]; omega) (w15.heap.size + 1) (by simp) ?_
                  intro g6 c6 w6 ho6 hg6 hor6 hlt6
                  have hP := hL6.push hlb (x := [(i : Int), (k : Int), TX, TY, TD]) rfl hg6 ho6
                  have hKP := (Fr.of_below hbZ6).trans (hL6.keeps (a' := some ⟨g6, 0, none⟩) (m' := m + 1) (c' := c6) hlb hg6)
                  have hnb : g6 ≠ ba := by
                    rcases hor6 with q | q
                    · exact hoba g6 q
                    · omega
                  have oz : ∀ b, (Value.slice a m c).ownBlock = some b → b < bb ∧ b ≠ ba ∧ lb < b := fun b e => ⟨hown b e, hoba b e, by have := (hL6.own.lt b e).1; omega⟩
                  have x6a : w6.cell? ⟨ba, 0, none⟩ = some (.int .i64 (i : Int)) := (hg6.cell_far ⟨ba, 0, none⟩ (by simp; omega) (fun e => (oz ba e.symm).2.1 rfl)).trans (by go_simp)
                  have x6b : w6.cell? ⟨bb, 0, none⟩ = some (.int .i64 (k : Int)) := (hg6.cell_far ⟨bb, 0, none⟩ (by simp; omega) (fun e => by have := (oz bb e.symm).1; omega)).trans (by go_simp)
                  have x6c : w6.cell? ⟨bh, 0, none⟩ = some (.int .i64 TX) := (hg6.cell_far ⟨bh, 0, none⟩ (by simp; omega) (fun e => by have := (oz bh e.symm).1; omega)).trans (by go_simp)
                  have x6d : w6.cell? ⟨bh, 1, none⟩ = some (.int .i64 TY) := (hg6.cell_far ⟨bh, 1, none⟩ (by simp; omega) (fun e => by have := (oz bh e.symm).1; omega)).trans (by go_simp)
                  have x6e : w6.cell? ⟨bh, 2, none⟩ = some (.int .i64 TD) := (hg6.cell_far ⟨bh, 2, none⟩ (by simp; omega) (fun e => by have := (oz bh e.symm).1; omega)).trans (by go_simp)
                  have x6f : w6.cell? ⟨lb, 0, none⟩ = some (.slice a m c) := (hg6.cell_far ⟨lb, 0, none⟩ (by simp; omega) (fun e => by have := (oz lb e.symm).2.2; omega)).trans hL6.box
                  have x6g : w6.frozen? ⟨lb, 0, none⟩ = false := (hg6.frozen_far ⟨lb, 0, none⟩ (by simp; omega) (fun e => by have := (oz lb e.symm).2.2; omega)).trans hL6.nf
                  refine tr hK (fun hHeld => ?_) ⟨x6a, x6b, x6c, x6d, x6e⟩
                  clear hK K
                  refine tc 11 fun K hK => ?_
                  (go_simp; refine tr hK (fun hHeld => ?_); clear hK K)
                  refine wpAnyH_done (by kernel_rfl) ?_ _
                  exact fin _ _ _ _ hP (fun b e => by simp only [Value.ownBlock, Option.some.injEq] at e; subst e; exact hnb) ((Fr.of_below hbZ).trans hKP) hyes.out
                · (go_simp; refine tr hK (fun hHeld => ?_); clear hK K)
                  refine tc 0 fun K hK => ?_
                  (go_simp; refine tr hK (fun hHeld => ?_); clear hK K)
                  refine tc 10 fun K hK => ?_
                  have hbZ5 : Below Z.heap.size Z w15 := hb14.ofDr.trans (hb15.mono hb14.size)
                  have hbZ6 : Below Z.heap.size Z (w15.alloc (Obj.cells #[.int .i64 (i : Int), .int .i64 (k : Int), .int .i64 TX, .int .i64 TY, .int .i64 TD] 56)) := hbZ5.alloc hbZ5.size _
                  have hL6 := hLZ.below hbZ6
                  have hz6 := hbZ5.size
                  refine step_appk (by rfl) _ _ _ (by rfl) w2.heap.size 56 5 40 (.agg #[.int .i64 0, .int .i64 0, .int .i64 0, .int .i64 0, .int .i64 0]) Tryz.underlying51 (by kernel_rfl) (by rfl) (by omega) (.slice a m c) m (ofL (conOut C n i ++ conIn C i k)) (by rfl) hL6.own w15.heap.size _ (ofL [(i : Int), (k : Int), TX, TY, TD]) (by rfl) (cells5 w15 _ _ _ _ _ _) (by unfold maxLen; omega) (by omega) (by simp only [World.size_alloc]; omega) (w15.heap.size + 1) (by simp) ?_
                  intro g6 c6 w6 ho6 hg6 hor6 hlt6
                  have hP := hL6.push hlb (x := [(i : Int), (k : Int), TX, TY, TD]) rfl hg6 ho6
                  have hKP := (Fr.of_below hbZ6).trans (hL6.keeps (a' := some ⟨g6, 0, none⟩) (m' := m + 1) (c' := c6) hlb hg6)
                  have hnb : g6 ≠ ba := by
                    rcases hor6 with q | q
                    · exact hoba g6 q
                    · omega
                  have oz : ∀ b, (Value.slice a m c).ownBlock = some b → b < bb ∧ b ≠ ba ∧ lb < b := fun b e => ⟨hown b e, hoba b e, by have := (hL6.own.lt b e).1; omega⟩
                  have x6a : w6.cell? ⟨ba, 0, none⟩ = some (.int .i64 (i : Int)) := (hg6.cell_far ⟨ba, 0, none⟩ (by simp; omega) (fun e => (oz ba e.symm).2.1 rfl)).trans (by go_simp)
                  have x6b : w6.cell? ⟨bb, 0, none⟩ = some (.int .i64 (k : Int)) := (hg6.cell_far ⟨bb, 0, none⟩ (by simp; omega) (fun e => by have := (oz bb e.symm).1; omega)).trans (by go_simp)
                  have x6c : w6.cell? ⟨bh, 0, none⟩ = some (.int .i64 TX) := (hg6.cell_far ⟨bh, 0, none⟩ (by simp; omega) (fun e => by have := (oz bh e.symm).1; omega)).trans (by go_simp)
                  have x6d : w6.cell? ⟨bh, 1, none⟩ = some (.int .i64 TY) := (hg6.cell_far ⟨bh, 1, none⟩ (by simp; omega) (fun e => by have := (oz bh e.symm).1; omega)).trans (by go_simp)
                  have x6e : w6.cell? ⟨bh, 2, none⟩ = some (.int .i64 TD) := (hg6.cell_far ⟨bh, 2, none⟩ (by simp; omega) (fun e => by have := (oz bh e.symm).1; omega)).trans (by go_simp)
                  have x6f : w6.cell? ⟨lb, 0, none⟩ = some (.slice a m c) := (hg6.cell_far ⟨lb, 0, none⟩ (by simp; omega) (fun e => by have := (oz lb e.symm).2.2; omega)).trans hL6.box
                  have x6g : w6.frozen? ⟨lb, 0, none⟩ = false := (hg6.frozen_far ⟨lb, 0, none⟩ (by simp; omega) (fun e => by have := (oz lb e.symm).2.2; omega)).trans hL6.nf
                  refine tr hK (fun hHeld => ?_) ⟨x6a, x6b, x6c, x6d, x6e⟩
                  clear hK K
                  refine tc 11 fun K hK => ?_
                  (go_simp; refine tr hK (fun hHeld => ?_); clear hK K)
                  refine wpAnyH_done (by kernel_rfl) ?_ _
                  exact fin _ _ _ _ hP (fun b e => by simp only [Value.ownBlock, Option.some.injEq] at e; subst e; exact hnb) ((Fr.of_below hbZ).trans hKP) hyes.out
        | true =>
          cases hfk : decide (C 8 k = 0) with
          | true =>
            refine wpIn_region_plain (by rintro ⟨_, _, h⟩; exact h) (by kernel_rfl) ?_
            go_wp2_with (first | (have _ := hz11; (go_at_call 28; refine (kFixed_q (Cs.hat hCX1 hk (by omega)) hfk).mono ?_; rintro e w12 ⟨rfl, hb12⟩; obtain ⟨hc12, hf12⟩ := bcell hb12; have hz12 := hb12.size; (try simp only [World.size_drew, World.size_alloc, World.size_setCell] at hc12 hf12 hz12); have hk12x0 := fun o => hc12 (ba) o (by omega); have hj12x0 := fun o => hf12 (ba) o (by omega); have hq12x0 : ba < w12.heap.size := (by omega); have hk12x1 := fun o => hc12 (bb) o (by omega); have hj12x1 := fun o => hf12 (bb) o (by omega); have hq12x1 : bb < w12.heap.size := (by omega); have hk12x2 := fun o => hc12 (lb) o (by omega); have hj12x2 := fun o => hf12 (lb) o (by omega); have hq12x2 : lb < w12.heap.size := (by omega); clear hc12 hf12)) | (go_at_call 28; refine (kFixed_q (Cs.hat hCX hi (by omega)) hfi).mono ?_; rintro e w11 ⟨rfl, hb11⟩; obtain ⟨hc11, hf11⟩ := bcell hb11; have hz11 := hb11.size; (try simp only [World.size_drew, World.size_alloc, World.size_setCell] at hc11 hf11 hz11); have hCX1 := hCX.below hb11; have hk11x0 := fun o => hc11 (ba) o (by omega); have hj11x0 := fun o => hf11 (ba) o (by omega); have hq11x0 : ba < w11.heap.size := (by omega); have hk11x1 := fun o => hc11 (bb) o (by omega); have hj11x1 := fun o => hf11 (bb) o (by omega); have hq11x1 : bb < w11.heap.size := (by omega); have hk11x2 := fun o => hc11 (lb) o (by omega); have hj11x2 := fun o => hf11 (lb) o (by omega); have hq11x2 : lb < w11.heap.size := (by omega); clear hc11 hf11))
            refine wpIn_cond_true rfl ?_
            refine wpIn_exit ?_
            exact stay _ (hb11.trans (hb12.mono hb11.size)) (conOne_no (by unfold conB; rw [hfi, hfk]; simp))
          | false =>
            refine wpIn_region_plain (by rintro ⟨_, _, h⟩; exact h) (by kernel_rfl) ?_
            go_wp2_with (first | (have _ := hz11; (go_at_call 28; refine (kFixed_q (Cs.hat hCX1 hk (by omega)) hfk).mono ?_; rintro e w12 ⟨rfl, hb12⟩; obtain ⟨hc12, hf12⟩ := bcell hb12; have hz12 := hb12.size; (try simp only [World.size_drew, World.size_alloc, World.size_setCell] at hc12 hf12 hz12); have hk12x0 := fun o => hc12 (ba) o (by omega); have hj12x0 := fun o => hf12 (ba) o (by omega); have hq12x0 : ba < w12.heap.size := (by omega); have hk12x1 := fun o => hc12 (bb) o (by omega); have hj12x1 := fun o => hf12 (bb) o (by omega); have hq12x1 : bb < w12.heap.size := (by omega); have hk12x2 := fun o => hc12 (lb) o (by omega); have hj12x2 := fun o => hf12 (lb) o (by omega); have hq12x2 : lb < w12.heap.size := (by omega); clear hc12 hf12)) | (go_at_call 28; refine (kFixed_q (Cs.hat hCX hi (by omega)) hfi).mono ?_; rintro e w11 ⟨rfl, hb11⟩; obtain ⟨hc11, hf11⟩ := bcell hb11; have hz11 := hb11.size; (try simp only [World.size_drew, World.size_alloc, World.size_setCell] at hc11 hf11 hz11); have hCX1 := hCX.below hb11; have hk11x0 := fun o => hc11 (ba) o (by omega); have hj11x0 := fun o => hf11 (ba) o (by omega); have hq11x0 : ba < w11.heap.size := (by omega); have hk11x1 := fun o => hc11 (bb) o (by omega); have hj11x1 := fun o => hf11 (bb) o (by omega); have hq11x1 : bb < w11.heap.size := (by omega); have hk11x2 := fun o => hc11 (lb) o (by omega); have hj11x2 := fun o => hf11 (lb) o (by omega); have hq11x2 : lb < w11.heap.size := (by omega); clear hc11 hf11))
            refine wpIn_cond_false rfl ?_
            refine wpIn_skip ?_
            have hnf : ¬ (C 8 i = 0 ∧ C 8 k = 0) := fun q => by rw [decide_eq_true q.2] at hfk; cases hfk
            have hbq := hb11.trans (hb12.mono hb11.size)
            refine hK1 _ _ ?_
            refine wpIn_seq_k fun K3 hK3 => ?_
            obtain ⟨TX, TY, TD, TJ, hT⟩ : ∃ TX TY TD TJ, tcH C i k = ((TX, TY, TD), TJ) := ⟨_, _, _, _, rfl⟩
            refine wpIn_region_plain (by rintro ⟨_, _, h⟩; exact h) (by kernel_rfl) ?_
            go_wp2_with (go_at_call 29; refine (kTouch (Cs.hat (hCX.below hbq) hi (by omega)) (Cs.hat (hCX.below hbq) hk (by omega)) TX TY TD TJ hT).mono ?_; rintro e w13 ⟨rfl, hb13⟩; obtain ⟨hc13, hf13⟩ := bcell hb13; have hz13 := hb13.size; (try simp only [World.size_drew, World.size_alloc, World.size_setCell] at hc13 hf13 hz13); have hk13x0 := fun o => hc13 (ba) o (by omega); have hj13x0 := fun o => hf13 (ba) o (by omega); have hq13x0 : ba < w13.heap.size := (by omega); have hk13x1 := fun o => hc13 (bb) o (by omega); have hj13x1 := fun o => hf13 (bb) o (by omega); have hq13x1 : bb < w13.heap.size := (by omega); have hk13x2 := fun o => hc13 (lb) o (by omega); have hj13x2 := fun o => hf13 (lb) o (by omega); have hq13x2 : lb < w13.heap.size := (by omega); clear hc13 hf13)
            have hbZ0 : Below X2.heap.size X2 w13 := hbq.trans (hb13.mono hbq.size)
            have hbZ : Below X2.heap.size X2 (w13.alloc (Obj.cells #[.int .i64 TX, .int .i64 TY, .int .i64 TD] 54)) := hbZ0.alloc hbZ0.size _
            have hLZ := hLX.below hbZ
            have z0 : (w13.alloc (Obj.cells #[.int .i64 TX, .int .i64 TY, .int .i64 TD] 54)).cell? ⟨ba, 0, none⟩ = some (.int .i64 (i : Int)) := (hbZ.cell (p := ⟨ba, 0, none⟩) (by simp; omega)).trans a0
            have z1 : (w13.alloc (Obj.cells #[.int .i64 TX, .int .i64 TY, .int .i64 TD] 54)).cell? ⟨bb, 0, none⟩ = some (.int .i64 (k : Int)) := (hbZ.cell (p := ⟨bb, 0, none⟩) hzX).trans b0
            have z2 : (w13.alloc (Obj.cells #[.int .i64 TX, .int .i64 TY, .int .i64 TD] 54)).cell? ⟨w13.heap.size, 0, none⟩ = some (.int .i64 TX) := by go_simp
            have z3 : (w13.alloc (Obj.cells #[.int .i64 TX, .int .i64 TY, .int .i64 TD] 54)).cell? ⟨w13.heap.size, 1, none⟩ = some (.int .i64 TY) := by go_simp
            have z4 : (w13.alloc (Obj.cells #[.int .i64 TX, .int .i64 TY, .int .i64 TD] 54)).cell? ⟨w13.heap.size, 2, none⟩ = some (.int .i64 TD) := by go_simp
            have hzb : w13.heap.size < (w13.alloc (Obj.cells #[.int .i64 TX, .int .i64 TY, .int .i64 TD] 54)).heap.size := by simp
            have hzb3 := hbZ0.size
            generalize (w13.alloc (Obj.cells #[.int .i64 TX, .int .i64 TY, .int .i64 TD] 54)) = Z at hbZ hLZ z0 z1 z2 z3 z4 hzb ⊢
            generalize w13.heap.size = bh at z2 z3 z4 hzb hzb3 ⊢
            have n1 : lb ≠ ba := by omega
            have n2 : lb ≠ bb := by omega
            have n3 : lb ≠ bh := by omega
            have zb := hLZ.box
            have zf := hLZ.nf
            refine wpIn_seq_k fun K4 hK4 => ?_
            refine wpIn_region_plain (by rintro ⟨_, _, h⟩; exact h) (by kernel_rfl) ?_
            go_wp2
            cases TJ with
            | false =>
              refine wpIn_cond_false rfl ?_
              refine wpIn_skip ?_
              exact stay Z hbZ (conOne_no (by unfold conB; rw [hT]; simp))
            | true =>
              have hyes : Shut (conOne C i k = [(i : Int), (k : Int), TX, TY, TD]) := conOne_yes (conB_yes hik hnf hT) hT
              refine wpIn_cond_true rfl ?_
              refine wpIn_region_held_drew (S := fun w' => w'.cell? ⟨ba, 0, none⟩ = some (.int .i64 (i : Int)) ∧ w'.cell? ⟨bb, 0, none⟩ = some (.int .i64 (k : Int)) ∧ w'.cell? ⟨bh, 0, none⟩ = some (.int .i64 TX) ∧ w'.cell? ⟨bh, 1, none⟩ = some (.int .i64 TY) ∧ w'.cell? ⟨bh, 2, none⟩ = some (.int .i64 TD)) (by kernel_rfl) (by rintro ⟨_, _, h⟩; exact h) (by kernel_rfl) ?_ (fun hHeld => ?_)
              · (try dsimp only)
                (first | (go_simp; done) | (go_keep; done))
              refine tq 1 hHeld ?_
              refine tq 2 hHeld ?_
              refine tq 4 hHeld ?_
              refine tq 5 hHeld ?_
              refine tq 7 hHeld ?_
              refine wpAnyH_ready (rs := [0, 3]) (by kernel_rfl) (by simp) ?_
              refine AllReadyH.cons rfl (fun K hK => ?_) (AllReadyH.cons rfl (fun K hK => ?_) AllReadyH.nil)
              · (go_simp; refine tr hK (fun hHeld => ?_); clear hK K)
                refine tc 3 fun K hK => ?_
                (go_simp; (go_at_call 30; refine (place_any _ _).mono ?_; rintro e w14 ⟨rfl, hb14⟩; obtain ⟨hc14, hf14⟩ := bcell hb14; have hz14 := hb14.size; (try simp only [World.size_drew, World.size_alloc, World.size_setCell] at hc14 hf14 hz14); have hk14x0 := fun o => hc14 (ba) o (by omega); have hj14x0 := fun o => hf14 (ba) o (by omega); have hq14x0 : ba < w14.heap.size := (by omega); have hk14x1 := fun o => hc14 (bb) o (by omega); have hj14x1 := fun o => hf14 (bb) o (by omega); have hq14x1 : bb < w14.heap.size := (by omega); have hk14x2 := fun o => hc14 (bh) o (by omega); have hj14x2 := fun o => hf14 (bh) o (by omega); have hq14x2 : bh < w14.heap.size := (by omega); have hk14x3 := fun o => hc14 (lb) o (by omega); have hj14x3 := fun o => hf14 (lb) o (by omega); have hq14x3 : lb < w14.heap.size := (by omega); clear hc14 hf14); (try go_wp2_with fail); refine tr hK (fun hHeld => ?_); clear hK K)
                refine tc 6 fun K hK => ?_
                (go_simp; (go_at_call 30; refine (place_any _ _).mono ?_; rintro e w15 ⟨rfl, hb15⟩; obtain ⟨hc15, hf15⟩ := bcell hb15; have hz15 := hb15.size; (try simp only [World.size_drew, World.size_alloc, World.size_setCell] at hc15 hf15 hz15); have hk15x0 := fun o => hc15 (ba) o (by omega); have hj15x0 := fun o => hf15 (ba) o (by omega); have hq15x0 : ba < w15.heap.size := (by omega); have hk15x1 := fun o => hc15 (bb) o (by omega); have hj15x1 := fun o => hf15 (bb) o (by omega); have hq15x1 : bb < w15.heap.size := (by omega); have hk15x2 := fun o => hc15 (bh) o (by omega); have hj15x2 := fun o => hf15 (bh) o (by omega); have hq15x2 : bh < w15.heap.size := (by omega); have hk15x3 := fun o => hc15 (lb) o (by omega); have hj15x3 := fun o => hf15 (lb) o (by omega); have hq15x3 : lb < w15.heap.size := (by omega); clear hc15 hf15); (try go_wp2_with fail); refine tr hK (fun hHeld => ?_); clear hK K)
                refine tq 8 hHeld ?_
                refine tc 9 fun K hK => ?_
                (go_simp; refine tr hK (fun hHeld => ?_); clear hK K)
                refine tc 10 fun K hK => ?_
                have hbZ5 : Below Z.heap.size Z w15 := hb14.ofDr.trans (hb15.mono hb14.size)
                have hbZ6 : Below Z.heap.size Z (w15.alloc (Obj.cells #[.int .i64 (i : Int), .int .i64 (k : Int), .int .i64 TX, .int .i64 TY, .int .i64 TD] 56)) := hbZ5.alloc hbZ5.size _
                have hL6 := hLZ.below hbZ6
                have hz6 := hbZ5.size
                refine step_appk (by rfl) _ _ _ (by rfl) w2.heap.size 56 5 40 (.agg #[.int .i64 0, .int .i64 0, .int .i64 0, .int .i64 0, .int .i64 0]) Tryz.underlying51 (by kernel_rfl) (by rfl) (by omega) (.slice a m c) m (ofL (conOut C n i ++ conIn C i k)) (by rfl) hL6.own w15.heap.size _ (ofL [(i : Int), (k : Int), TX, TY, TD]) (by rfl) (cells5 w15 _ _ _ _ _ _) (by unfold maxLen; omega) (by omega) (by simp only [World.size_alloc]; omega) (w15.heap.size + 1) (by simp) ?_
                intro g6 c6 w6 ho6 hg6 hor6 hlt6
                have hP := hL6.push hlb (x := [(i : Int), (k : Int), TX, TY, TD]) rfl hg6 ho6
                have hKP := (Fr.of_below hbZ6).trans (hL6.keeps (a' := some ⟨g6, 0, none⟩) (m' := m + 1) (c' := c6) hlb hg6)
                have hnb : g6 ≠ ba := by
                  rcases hor6 with q | q
                  · exact hoba g6 q
                  · omega
                have oz : ∀ b, (Value.slice a m c).ownBlock = some b → b < bb ∧ b ≠ ba ∧ lb < b := fun b e => ⟨hown b e, hoba b e, by have := (hL6.own.lt b e).1; omega⟩
                have x6a : w6.cell? ⟨ba, 0, none⟩ = some (.int .i64 (i : Int)) := (hg6.cell_far ⟨ba, 0, none⟩ (by simp; omega) (fun e => (oz ba e.symm).2.1 rfl)).trans (by go_simp)
                have x6b : w6.cell? ⟨bb, 0, none⟩ = some (.int .i64 (k : Int)) := (hg6.cell_far ⟨bb, 0, none⟩ (by simp; omega) (fun e => by have := (oz bb e.symm).1; omega)).trans (by go_simp)
                have x6c : w6.cell? ⟨bh, 0, none⟩ = some (.int .i64 TX) := (hg6.cell_far ⟨bh, 0, none⟩ (by simp; omega) (fun e => by have := (oz bh e.symm).1; omega)).trans (by go_simp)
                have x6d : w6.cell? ⟨bh, 1, none⟩ = some (.int .i64 TY) := (hg6.cell_far ⟨bh, 1, none⟩ (by simp; omega) (fun e => by have := (oz bh e.symm).1; omega)).trans (by go_simp)
                have x6e : w6.cell? ⟨bh, 2, none⟩ = some (.int .i64 TD) := (hg6.cell_far ⟨bh, 2, none⟩ (by simp; omega) (fun e => by have := (oz bh e.symm).1; omega)).trans (by go_simp)
                have x6f : w6.cell? ⟨lb, 0, none⟩ = some (.slice a m c) := (hg6.cell_far ⟨lb, 0, none⟩ (by simp; omega) (fun e => by have := (oz lb e.symm).2.2; omega)).trans hL6.box
                have x6g : w6.frozen? ⟨lb, 0, none⟩ = false := (hg6.frozen_far ⟨lb, 0, none⟩ (by simp; omega) (fun e => by have := (oz lb e.symm).2.2; omega)).trans hL6.nf
                refine tr hK (fun hHeld => ?_) ⟨x6a, x6b, x6c, x6d, x6e⟩
                clear hK K
                refine tc 11 fun K hK => ?_
                (go_simp; refine tr hK (fun hHeld => ?_); clear hK K)
                refine wpAnyH_done (by kernel_rfl) ?_ _
                exact fin _ _ _ _ hP (fun b e => by simp only [Value.ownBlock, Option.some.injEq] at e; subst e; exact hnb) ((Fr.of_below hbZ).trans hKP) hyes.out
              · (go_simp; (go_at_call 30; refine (place_any _ _).mono ?_; rintro e w14 ⟨rfl, hb14⟩; obtain ⟨hc14, hf14⟩ := bcell hb14; have hz14 := hb14.size; (try simp only [World.size_drew, World.size_alloc, World.size_setCell] at hc14 hf14 hz14); have hk14x0 := fun o => hc14 (ba) o (by omega); have hj14x0 := fun o => hf14 (ba) o (by omega); have hq14x0 : ba < w14.heap.size := (by omega); have hk14x1 := fun o => hc14 (bb) o (by omega); have hj14x1 := fun o => hf14 (bb) o (by omega); have hq14x1 : bb < w14.heap.size := (by omega); have hk14x2 := fun o => hc14 (bh) o (by omega); have hj14x2 := fun o => hf14 (bh) o (by omega); have hq14x2 : bh < w14.heap.size := (by omega); have hk14x3 := fun o => hc14 (lb) o (by omega); have hj14x3 := fun o => hf14 (lb) o (by omega); have hq14x3 : lb < w14.heap.size := (by omega); clear hc14 hf14); (try go_wp2_with fail); refine tr hK (fun hHeld => ?_); clear hK K)
                refine wpAnyH_ready (rs := [0, 6]) (by kernel_rfl) (by simp) ?_
                refine AllReadyH.cons rfl (fun K hK => ?_) (AllReadyH.cons rfl (fun K hK => ?_) AllReadyH.nil)
                · (go_simp; refine tr hK (fun hHeld => ?_); clear hK K)
                  refine tc 6 fun K hK => ?_
                  (go_simp; (go_at_call 30; refine (place_any _ _).mono ?_; rintro e w15 ⟨rfl, hb15⟩; obtain ⟨hc15, hf15⟩ := bcell hb15; have hz15 := hb15.size; (try simp only [World.size_drew, World.size_alloc, World.size_setCell] at hc15 hf15 hz15); have hk15x0 := fun o => hc15 (ba) o (by omega); have hj15x0 := fun o => hf15 (ba) o (by omega); have hq15x0 : ba < w15.heap.size := (by omega); have hk15x1 := fun o => hc15 (bb) o (by omega); have hj15x1 := fun o => hf15 (bb) o (by omega); have hq15x1 : bb < w15.heap.size := (by omega); have hk15x2 := fun o => hc15 (bh) o (by omega); have hj15x2 := fun o => hf15 (bh) o (by omega); have hq15x2 : bh < w15.heap.size := (by omega); have hk15x3 := fun o => hc15 (lb) o (by omega); have hj15x3 := fun o => hf15 (lb) o (by omega); have hq15x3 : lb < w15.heap.size := (by omega); clear hc15 hf15); (try go_wp2_with fail); refine tr hK (fun hHeld => ?_); clear hK K)
                  refine tq 8 hHeld ?_
                  refine tc 9 fun K hK => ?_
                  (go_simp; refine tr hK (fun hHeld => ?_); clear hK K)
                  refine tc 10 fun K hK => ?_
                  have hbZ5 : Below Z.heap.size Z w15 := hb14.ofDr.trans (hb15.mono hb14.size)
                  have hbZ6 : Below Z.heap.size Z (w15.alloc (Obj.cells #[.int .i64 (i : Int), .int .i64 (k : Int), .int .i64 TX, .int .i64 TY, .int .i64 TD] 56)) := hbZ5.alloc hbZ5.size _
                  have hL6 := hLZ.below hbZ6
                  have hz6 := hbZ5.size
                  refine step_appk (by rfl) _ _ _ (by rfl) w2.heap.size 56 5 40 (.agg #[.int .i64 0, .int .i64 0, .int .i64 0, .int .i64 0, .int .i64 0]) Tryz.underlying51 (by kernel_rfl) (by rfl) (by omega) (.slice a m c) m (ofL (conOut C n i ++ conIn C i k)) (by rfl) hL6.own w15.heap.size _ (ofL [(i : Int), (k : Int), TX, TY, TD]) (by rfl) (cells5 w15 _ _ _ _ _ _) (by unfold maxLen; omega) (by omega) (by simp only [World.size_alloc]; omega) (w15.heap.size + 1) (by simp) ?_
                  intro g6 c6 w6 ho6 hg6 hor6 hlt6
                  have hP := hL6.push hlb (x := [(i : Int), (k : Int), TX, TY, TD]) rfl hg6 ho6
                  have hKP := (Fr.of_below hbZ6).trans (hL6.keeps (a' := some ⟨g6, 0, none⟩) (m' := m + 1) (c' := c6) hlb hg6)
                  have hnb : g6 ≠ ba := by
                    rcases hor6 with q | q
                    · exact hoba g6 q
                    · omega
                  have oz : ∀ b, (Value.slice a m c).ownBlock = some b → b < bb ∧ b ≠ ba ∧ lb < b := fun b e => ⟨hown b e, hoba b e, by have := (hL6.own.lt b e).1; omega⟩
                  have x6a : w6.cell? ⟨ba, 0, none⟩ = some (.int .i64 (i : Int)) := (hg6.cell_far ⟨ba, 0, none⟩ (by simp; omega) (fun e => (oz ba e.symm).2.1 rfl)).trans (by go_simp)
                  have x6b : w6.cell? ⟨bb, 0, none⟩ = some (.int .i64 (k : Int)) := (hg6.cell_far ⟨bb, 0, none⟩ (by simp; omega) (fun e => by have := (oz bb e.symm).1; omega)).trans (by go_simp)
                  have x6c : w6.cell? ⟨bh, 0, none⟩ = some (.int .i64 TX) := (hg6.cell_far ⟨bh, 0, none⟩ (by simp; omega) (fun e => by have := (oz bh e.symm).1; omega)).trans (by go_simp)
                  have x6d : w6.cell? ⟨bh, 1, none⟩ = some (.int .i64 TY) := (hg6.cell_far ⟨bh, 1, none⟩ (by simp; omega) (fun e => by have := (oz bh e.symm).1; omega)).trans (by go_simp)
                  have x6e : w6.cell? ⟨bh, 2, none⟩ = some (.int .i64 TD) := (hg6.cell_far ⟨bh, 2, none⟩ (by simp; omega) (fun e => by have := (oz bh e.symm).1; omega)).trans (by go_simp)
                  have x6f : w6.cell? ⟨lb, 0, none⟩ = some (.slice a m c) := (hg6.cell_far ⟨lb, 0, none⟩ (by simp; omega) (fun e => by have := (oz lb e.symm).2.2; omega)).trans hL6.box
                  have x6g : w6.frozen? ⟨lb, 0, none⟩ = false := (hg6.frozen_far ⟨lb, 0, none⟩ (by simp; omega) (fun e => by have := (oz lb e.symm).2.2; omega)).trans hL6.nf
                  refine tr hK (fun hHeld => ?_) ⟨x6a, x6b, x6c, x6d, x6e⟩
                  clear hK K
                  refine tc 11 fun K hK => ?_
                  (go_simp; refine tr hK (fun hHeld => ?_); clear hK K)
                  refine wpAnyH_done (by kernel_rfl) ?_ _
                  exact fin _ _ _ _ hP (fun b e => by simp only [Value.ownBlock, Option.some.injEq] at e; subst e; exact hnb) ((Fr.of_below hbZ).trans hKP) hyes.out
                · (go_simp; (go_at_call 30; refine (place_any _ _).mono ?_; rintro e w15 ⟨rfl, hb15⟩; obtain ⟨hc15, hf15⟩ := bcell hb15; have hz15 := hb15.size; (try simp only [World.size_drew, World.size_alloc, World.size_setCell] at hc15 hf15 hz15); have hk15x0 := fun o => hc15 (ba) o (by omega); have hj15x0 := fun o => hf15 (ba) o (by omega); have hq15x0 : ba < w15.heap.size := (by omega); have hk15x1 := fun o => hc15 (bb) o (by omega); have hj15x1 := fun o => hf15 (bb) o (by omega); have hq15x1 : bb < w15.heap.size := (by omega); have hk15x2 := fun o => hc15 (bh) o (by omega); have hj15x2 := fun o => hf15 (bh) o (by omega); have hq15x2 : bh < w15.heap.size := (by omega); have hk15x3 := fun o => hc15 (lb) o (by omega); have hj15x3 := fun o => hf15 (lb) o (by omega); have hq15x3 : lb < w15.heap.size := (by omega); clear hc15 hf15); (try go_wp2_with fail); refine tr hK (fun hHeld => ?_); clear hK K)
                  refine tq 8 hHeld ?_
                  refine wpAnyH_ready (rs := [0, 9]) (by kernel_rfl) (by simp) ?_
                  refine AllReadyH.cons rfl (fun K hK => ?_) (AllReadyH.cons rfl (fun K hK => ?_) AllReadyH.nil)
                  · (go_simp; refine tr hK (fun hHeld => ?_); clear hK K)
                    refine tc 9 fun K hK => ?_
                    (go_simp; refine tr hK (fun hHeld => ?_); clear hK K)
                    refine tc 10 fun K hK => ?_
                    have hbZ5 : Below Z.heap.size Z w15 := hb14.ofDr.trans (hb15.mono hb14.size)
                    have hbZ6 : Below Z.heap.size Z (w15.alloc (Obj.cells #[.int .i64 (i : Int), .int .i64 (k : Int), .int .i64 TX, .int .i64 TY, .int .i64 TD] 56)) := hbZ5.alloc hbZ5.size _
                    have hL6 := hLZ.below hbZ6
                    have hz6 := hbZ5.size
                    refine step_appk (by rfl) _ _ _ (by rfl) w2.heap.size 56 5 40 (.agg #[.int .i64 0, .int .i64 0, .int .i64 0, .int .i64 0, .int .i64 0]) Tryz.underlying51 (by kernel_rfl) (by rfl) (by omega) (.slice a m c) m (ofL (conOut C n i ++ conIn C i k)) (by rfl) hL6.own w15.heap.size _ (ofL [(i : Int), (k : Int), TX, TY, TD]) (by rfl) (cells5 w15 _ _ _ _ _ _) (by unfold maxLen; omega) (by omega) (by simp only [World.size_alloc]; omega) (w15.heap.size + 1) (by simp) ?_
                    intro g6 c6 w6 ho6 hg6 hor6 hlt6
                    have hP := hL6.push hlb (x := [(i : Int), (k : Int), TX, TY, TD]) rfl hg6 ho6
                    have hKP := (Fr.of_below hbZ6).trans (hL6.keeps (a' := some ⟨g6, 0, none⟩) (m' := m + 1) (c' := c6) hlb hg6)
                    have hnb : g6 ≠ ba := by
                      rcases hor6 with q | q
                      · exact hoba g6 q
                      · omega
                    have oz : ∀ b, (Value.slice a m c).ownBlock = some b → b < bb ∧ b ≠ ba ∧ lb < b := fun b e => ⟨hown b e, hoba b e, by have := (hL6.own.lt b e).1; omega⟩
                    have x6a : w6.cell? ⟨ba, 0, none⟩ = some (.int .i64 (i : Int)) := (hg6.cell_far ⟨ba, 0, none⟩ (by simp; omega) (fun e => (oz ba e.symm).2.1 rfl)).trans (by go_simp)
                    have x6b : w6.cell? ⟨bb, 0, none⟩ = some (.int .i64 (k : Int)) := (hg6.cell_far ⟨bb, 0, none⟩ (by simp; omega) (fun e => by have := (oz bb e.symm).1; omega)).trans (by go_simp)
                    have x6c : w6.cell? ⟨bh, 0, none⟩ = some (.int .i64 TX) := (hg6.cell_far ⟨bh, 0, none⟩ (by simp; omega) (fun e => by have := (oz bh e.symm).1; omega)).trans (by go_simp)
                    have x6d : w6.cell? ⟨bh, 1, none⟩ = some (.int .i64 TY) := (hg6.cell_far ⟨bh, 1, none⟩ (by simp; omega) (fun e => by have := (oz bh e.symm).1; omega)).trans (by go_simp)
                    have x6e : w6.cell? ⟨bh, 2, none⟩ = some (.int .i64 TD) := (hg6.cell_far ⟨bh, 2, none⟩ (by simp; omega) (fun e => by have := (oz bh e.symm).1; omega)).trans (by go_simp)
                    have x6f : w6.cell? ⟨lb, 0, none⟩ = some (.slice a m c) := (hg6.cell_far ⟨lb, 0, none⟩ (by simp; omega) (fun e => by have := (oz lb e.symm).2.2; omega)).trans hL6.box
                    have x6g : w6.frozen? ⟨lb, 0, none⟩ = false := (hg6.frozen_far ⟨lb, 0, none⟩ (by simp; omega) (fun e => by have := (oz lb e.symm).2.2; omega)).trans hL6.nf
                    refine tr hK (fun hHeld => ?_) ⟨x6a, x6b, x6c, x6d, x6e⟩
                    clear hK K
                    refine tc 11 fun K hK => ?_
                    (go_simp; refine tr hK (fun hHeld => ?_); clear hK K)
                    refine wpAnyH_done (by kernel_rfl) ?_ _
                    exact fin _ _ _ _ hP (fun b e => by simp only [Value.ownBlock, Option.some.injEq] at e; subst e; exact hnb) ((Fr.of_below hbZ).trans hKP) hyes.out
                  · (go_simp; refine tr hK (fun hHeld => ?_); clear hK K)
                    refine tc 0 fun K hK => ?_
                    (go_simp; refine tr hK (fun hHeld => ?_); clear hK K)
                    refine tc 10 fun K hK => ?_
                    have hbZ5 : Below Z.heap.size Z w15 := hb14.ofDr.trans (hb15.mono hb14.size)
                    have hbZ6 : Below Z.heap.size Z (w15.alloc (Obj.cells #[.int .i64 (i : Int), .int .i64 (k : Int), .int .i64 TX, .int .i64 TY, .int .i64 TD] 56)) := hbZ5.alloc hbZ5.size _
                    have hL6 := hLZ.below hbZ6
                    have hz6 := hbZ5.size
                    refine step_appk (by rfl) _ _ _ (by rfl) w2.heap.size 56 5 40 (.agg #[.int .i64 0, .int .i64 0, .int .i64 0, .int .i64 0, .int .i64 0]) Tryz.underlying51 (by kernel_rfl) (by rfl) (by omega) (.slice a m c) m (ofL (conOut C n i ++ conIn C i k)) (by rfl) hL6.own w15.heap.size _ (ofL [(i : Int), (k : Int), TX, TY, TD]) (by rfl) (cells5 w15 _ _ _ _ _ _) (by unfold maxLen; omega) (by omega) (by simp only [World.size_alloc]; omega) (w15.heap.size + 1) (by simp) ?_
                    intro g6 c6 w6 ho6 hg6 hor6 hlt6
                    have hP := hL6.push hlb (x := [(i : Int), (k : Int), TX, TY, TD]) rfl hg6 ho6
                    have hKP := (Fr.of_below hbZ6).trans (hL6.keeps (a' := some ⟨g6, 0, none⟩) (m' := m + 1) (c' := c6) hlb hg6)
                    have hnb : g6 ≠ ba := by
                      rcases hor6 with q | q
                      · exact hoba g6 q
                      · omega
                    have oz : ∀ b, (Value.slice a m c).ownBlock = some b → b < bb ∧ b ≠ ba ∧ lb < b := fun b e => ⟨hown b e, hoba b e, by have := (hL6.own.lt b e).1; omega⟩
                    have x6a : w6.cell? ⟨ba, 0, none⟩ = some (.int .i64 (i : Int)) := (hg6.cell_far ⟨ba, 0, none⟩ (by simp; omega) (fun e => (oz ba e.symm).2.1 rfl)).trans (by go_simp)
                    have x6b : w6.cell? ⟨bb, 0, none⟩ = some (.int .i64 (k : Int)) := (hg6.cell_far ⟨bb, 0, none⟩ (by simp; omega) (fun e => by have := (oz bb e.symm).1; omega)).trans (by go_simp)
                    have x6c : w6.cell? ⟨bh, 0, none⟩ = some (.int .i64 TX) := (hg6.cell_far ⟨bh, 0, none⟩ (by simp; omega) (fun e => by have := (oz bh e.symm).1; omega)).trans (by go_simp)
                    have x6d : w6.cell? ⟨bh, 1, none⟩ = some (.int .i64 TY) := (hg6.cell_far ⟨bh, 1, none⟩ (by simp; omega) (fun e => by have := (oz bh e.symm).1; omega)).trans (by go_simp)
                    have x6e : w6.cell? ⟨bh, 2, none⟩ = some (.int .i64 TD) := (hg6.cell_far ⟨bh, 2, none⟩ (by simp; omega) (fun e => by have := (oz bh e.symm).1; omega)).trans (by go_simp)
                    have x6f : w6.cell? ⟨lb, 0, none⟩ = some (.slice a m c) := (hg6.cell_far ⟨lb, 0, none⟩ (by simp; omega) (fun e => by have := (oz lb e.symm).2.2; omega)).trans hL6.box
                    have x6g : w6.frozen? ⟨lb, 0, none⟩ = false := (hg6.frozen_far ⟨lb, 0, none⟩ (by simp; omega) (fun e => by have := (oz lb e.symm).2.2; omega)).trans hL6.nf
                    refine tr hK (fun hHeld => ?_) ⟨x6a, x6b, x6c, x6d, x6e⟩
                    clear hK K
                    refine tc 11 fun K hK => ?_
                    (go_simp; refine tr hK (fun hHeld => ?_); clear hK K)
                    refine wpAnyH_done (by kernel_rfl) ?_ _
                    exact fin _ _ _ _ hP (fun b e => by simp only [Value.ownBlock, Option.some.injEq] at e; subst e; exact hnb) ((Fr.of_below hbZ).trans hKP) hyes.out
      · have hd1 : decide (k ≤ i) = true := decide_eq_true (by omega)
        refine wpIn_region_plain (by rintro ⟨_, _, h⟩; exact h) (by kernel_rfl) ?_
        go_wp2
        refine wpIn_cond_true rfl ?_
        refine wpIn_exit ?_
        exact stay X2 (Below.refl _ _) (conOne_no (conB_ge (by omega)))
  case done =>
    rintro D W hD ⟨a, m, c, hL⟩ hK
    have hbx := hL.box
    have hzW := hL.fr.size
    go_wp2
    refine marks_ret (B := w2.heap.size) hD rfl hK fun W' hS => ⟨.slice a m c, ?_, a, m, c, rfl, hL.len, ?_, ?_⟩
    · simp [results, Tryz.results18, go_sem, *]
    · exact (hE.trans (hL.fr.below (by omega) (fun b e => by omega))).trans (hS.below.mono (by omega))
    · exact (hL.own.sm hS).base (by omega)
end Go.Proofs.YthfodocnehahcaaGreatDoor
namespace Go.Proofs.YthfodocnehahcaaGreatDoor
open Go.RowKit
set_option linter.unusedVariables false
set_option linter.unusedSimpArgs false
/-- a list that a function makes, in its own memory -/
structure LsV (w wr : World) (t k : Nat) (a : Option Addr) (m c : Nat) (l : List Int) : Prop where
  bel : Below w.heap.size w wr
  len : l.length = m * k
  own : OwnL wr w.heap.size t k (.slice a m c) m (ofL l)
theorem LsV.below {w wr w' : World} {t k m c : Nat} {a : Option Addr} {l : List Int} (h : LsV w wr t k a m c l) (hb : Below wr.heap.size wr w') : LsV w w' t k a m c l := ⟨h.bel.trans (hb.mono h.bel.size), h.len, h.own.below hb⟩
theorem LsV.push {w wr w1 : World} {t k m c c' : Nat} {a a' : Option Addr} {l x : List Int} (h : LsV w wr t k a m c l) (hx : x.length = k) (hg : wr.grownBy w1 (Value.slice a m c).ownBlock) (ho : OwnL w1 w.heap.size t k (.slice a' (m + 1) c') (m + 1) (cat (m * k) (ofL l) (ofL x))) : LsV w w1 t k a' (m + 1) c' (l ++ x) :=
  ⟨h.bel.grown hg h.bel.size (fun b e => (h.own.lt b e).1), by rw [List.length_append, h.len, hx, Nat.succ_mul], by rw [← cat_ofL, h.len]; exact ho⟩
theorem LsV.new (w : World) (t k : Nat) : LsV w (w.alloc (.cells #[] t)) t k (some ⟨w.heap.size, 0, none⟩) 0 0 [] :=
  ⟨(Below.refl _ _).alloc (Nat.le_refl _) _, by simp, ⟨by simp [numL], .inr ⟨w.heap.size, 0, #[], rfl, Nat.le_refl _, Go.Deep.blk_alloc_new _ _, Nat.le_refl _, Nat.zero_le _, by simp, by simp [numL]⟩⟩⟩
theorem LsV.newAt (w : World) (t k s : Nat) (e : w.heap.size = s) : LsV w (w.alloc (.cells #[] t)) t k (some ⟨s, 0, none⟩) 0 0 [] := by subst e; exact LsV.new w t k
theorem LsV.nil (w : World) (t k : Nat) : LsV w w t k none 0 0 [] := ⟨Below.refl _ _, by simp, OwnL.nil _ _ _ _ _⟩
theorem LsV.out {w0 w wr : World} {t k m c : Nat} {a : Option Addr} {l : List Int} (h : LsV w wr t k a m c l) (hb : Below w0.heap.size w0 w) : OutL w0 wr t k a m c (ofL l) := ⟨hb.trans (h.bel.mono hb.size), h.own.base hb.size⟩
theorem flat1 (w : World) (p : Int) (t : TypeId) : Flat (w.alloc (Obj.cells #[.int .i64 p] t)) (some ⟨w.heap.size, 0, none⟩) (1 * 1) (ofL [p]) := by
  intro _
  refine ⟨w.heap.size, 0, rfl, by simp, fun j hj => ?_⟩
  rw [Nat.zero_add]
  obtain rfl : j = 0 := by omega
  simp only [ofL]; go_simp; (try rfl)
end Go.Proofs.YthfodocnehahcaaGreatDoor
namespace Go.Proofs.YthfodocnehahcaaGreatDoor
open Go.RowKit
set_option linter.unusedVariables false
set_option linter.unusedSimpArgs false

theorem l5Touch_q (k1 g1 h1 x y k2 g2 h2 u v X Y D : Int) (K : Bool) (w : World) (s1 : shB k1 g1 h1 = true) (s2 : shB k2 g2 h2 = true) (p1 : inB 2560000 x y = true) (p2 : inB 2560000 u v = true) (e : toT k1 g1 h1 x y k2 g2 h2 u v = ((X, Y, D), K)) :
    Calls Tryz.prog 37 #[s3 k1 g1 h1, vv x y, s3 k2 g2 h2, vv u v] w fun e w' => e = .returned (.tuple #[s3 X Y D, .bool K]) ∧ Below w.heap.size w w' := by
  have e2 : toT k1 g1 h1 x y k2 g2 h2 u v = tcT k1 g1 h1 x y k2 g2 h2 u v := by unfold toT; rw [if_pos (by simp [*])]
  rw [e2] at e
  obtain ⟨px, py⟩ := inB_of p1
  obtain ⟨pu, pv⟩ := inB_of p2
  rcases shB_kinds s1 with ⟨rfl, rfl, a1, a2⟩ | ⟨rfl, a1, a2, a3, a4⟩ <;> rcases shB_kinds s2 with ⟨rfl, rfl, b1, b2⟩ | ⟨rfl, b1, b2, b3, b4⟩
  · exact sT_rr g1 g2 x y u v X Y D K w ⟨a1, a2⟩ ⟨b1, b2⟩ px py pu pv (by simpa [tcT] using e)
  · exact sT_rb g1 g2 h2 x y u v X Y D K w ⟨a1, a2⟩ ⟨b1, b2⟩ ⟨b3, b4⟩ px py pu pv (by simpa [tcT] using e)
  · exact sT_br g1 h1 g2 x y u v X Y D K w ⟨a1, a2⟩ ⟨a3, a4⟩ ⟨b1, b2⟩ px py pu pv (by simpa [tcT] using e)
  · exact sT_bb g1 h1 g2 h2 x y u v X Y D K w ⟨a1, a2⟩ ⟨a3, a4⟩ ⟨b1, b2⟩ ⟨b3, b4⟩ px py pu pv (by simpa [tcT] using e)
theorem bods_sh {U : Nat → Int} {n k : Nat} (h : bodsB n U = true) (l : k < n) : shB (U (k * 12 + 1)) (U (k * 12 + 2)) (U (k * 12 + 3)) = true ∧ inB 2560000 (U (k * 12 + 4)) (U (k * 12 + 5)) = true := by
  unfold bodsB at h
  rw [Bool.and_eq_true] at h
  have h2 : bodyB (fun j => U (k * 12 + j)) = true := by
    have key : ∀ m, allBB U m = true → k < m → stepBB U k = true := by
      intro m
      induction m with
      | zero => intro _ l; omega
      | succ m ih =>
        intro hm l
        unfold allBB at hm
        rw [Bool.and_eq_true] at hm
        by_cases e : k = m
        · subst e; exact hm.2
        · exact ih hm.1 (by omega)
    have := key n h.2 l
    unfold stepBB at this
    rw [Bool.and_eq_true] at this
    exact this.1
  unfold bodyB at h2
  simp only [Bool.and_eq_true] at h2
  exact ⟨h2.2.1, h2.2.2.1⟩
theorem flat5 (w : World) (p q r s u : Int) (t : TypeId) : Flat (w.alloc (Obj.cells #[.int .i64 p, .int .i64 q, .int .i64 r, .int .i64 s, .int .i64 u] t)) (some ⟨w.heap.size, 0, none⟩) (1 * 5) (ofL [p, q, r, s, u]) := by
  intro _
  refine ⟨w.heap.size, 0, rfl, by simp, fun j hj => ?_⟩
  rw [Nat.zero_add]
  rcases (show j = 0 ∨ j = 1 ∨ j = 2 ∨ j = 3 ∨ j = 4 by omega) with rfl | rfl | rfl | rfl | rfl <;> (simp only [ofL]; go_simp; (try rfl))

set_option maxRecDepth 20000 in
set_option maxHeartbeats 8000000 in
theorem l7Contacts_any (a : Option Addr) (n c : Nat) (U : Nat → Int) (w : World) (h : Flat w a (n * 12) U) (hok : bodsB n U = true) (hn : n ≤ 12) :
    Calls Tryz.prog 22 #[.slice a n c] w fun e w' => ∃ a' m c', e = .returned (.slice a' m c') ∧ (conL (colOf U) n).length = m * 5 ∧ OutL w w' 56 5 a' m c' (ofL (conL (colOf U) n)) := by
  have hset := cset_map
  go_enter Tryz.func22, Tryz.ntmps22
  go_wp2
  go_loopw [3, 4, 5, 6, 7] (fun s3 s4 _ _ _ wr => ∃ i a' m c', i ≤ n ∧ s4 = .int .i64 (i : Int) ∧ s3 = .slice a' m c' ∧ LsV w wr 56 5 a' m c' (conOut (colOf U) n i)) (fun _ s4 _ _ _ _ => n - (intOf s4).toNat)
  case atStart => exact ⟨0, _, _, _, Nat.zero_le _, rfl, rfl, LsV.new w _ _⟩
  case round =>
    obtain ⟨i, a', m, c', hi, rfl, rfl, hL⟩ := hrel
    by_cases hlt : i < n
    · have hin : (i : Int) < (n : Int) := by omega
      obtain ⟨b, o, rfl, hbl, hc⟩ := h (by omega)
      obtain ⟨si, qi⟩ := bods_sh hok hlt
      obtain ⟨mm, hm1, hm2⟩ := conOut_len (colOf U) n i
      have hm6 : i * n ≤ 12 * 12 := Nat.mul_le_mul (by omega) hn
      go_wp2
      go_loopw [3, 5, 6, 7] (fun s3 s5 _ _ wr => ∃ k a' m c', i < k ∧ k ≤ n ∧ s5 = .int .i64 (k : Int) ∧ s3 = .slice a' m c' ∧ LsV w wr 56 5 a' m c' (conOut (colOf U) n i ++ conIn (colOf U) i k)) (fun _ s5 _ _ _ => n - (intOf s5).toNat)
      case atStart => exact ⟨i + 1, _, _, _, by omega, by omega, by go_num, rfl, by rw [conIn_ge i (i + 1) (Nat.le_refl _), List.append_nil]; exact hL⟩
      case round =>
        clear hL
        obtain ⟨k, a2, m2, c2, hik, hk, rfl, rfl, hL⟩ := hrel
        by_cases hlk : k < n
        · have hkn : (k : Int) < (n : Int) := by omega
          obtain ⟨sk, qk⟩ := bods_sh hok hlk
          obtain ⟨mk, hm3, hm4⟩ := conIn_len (colOf U) i k
          have hm5 := hL.len
          rw [List.length_append, hm1, hm3] at hm5
          have hc' : ∀ q, q < n * 12 → wr.cell? ⟨b, o + q, none⟩ = some (.int .i64 (U q)) := fun q hq => (hL.bel.cell (p := ⟨b, o + q, none⟩) hbl).trans (hc q hq)
          have hzr := hL.bel.size
          have ci1 := hc' (i * 12 + 1) (by omega)
          have ck1 := hc' (k * 12 + 1) (by omega)
          have ci2 := hc' (i * 12 + 2) (by omega)
          have ck2 := hc' (k * 12 + 2) (by omega)
          have ci3 := hc' (i * 12 + 3) (by omega)
          have ck3 := hc' (k * 12 + 3) (by omega)
          have ci4 := hc' (i * 12 + 4) (by omega)
          have ck4 := hc' (k * 12 + 4) (by omega)
          have ci5 := hc' (i * 12 + 5) (by omega)
          have ck5 := hc' (k * 12 + 5) (by omega)
          have ci8 := hc' (i * 12 + 8) (by omega)
          have ck8 := hc' (k * 12 + 8) (by omega)
          simp only [← Nat.add_assoc] at ci1 ck1 ci2 ck2 ci3 ck3 ci4 ck4 ci5 ck5 ci8 ck8
          clear hc'
          by_cases hfx : U (i * 12 + 8) = 0 ∧ U (k * 12 + 8) = 0
          · obtain ⟨f1, f2⟩ := hfx
            have hno : Shut (conOne (colOf U) i k = []) := conOne_no (by unfold conB colOf; rw [f1, f2]; simp)
            rw [f1] at ci8
            rw [f2] at ck8
            go_wp2
            go_roundw
            case rel => exact ⟨k + 1, _, _, _, by omega, by omega, by go_num, rfl, by rw [conIn, hno.out, List.append_nil]; exact hL⟩
            case measure => simp [intOf]; omega
          · obtain ⟨TX, TY, TD, TJ, hT⟩ : ∃ TX TY TD TJ, tcH (colOf U) i k = ((TX, TY, TD), TJ) := ⟨_, _, _, _, rfl⟩
            have hfx' : Shut (¬ (U (i * 12 + 8) = 0 ∧ U (k * 12 + 8) = 0)) := hfx
            have key : ∀ (g : Prop), (U (i * 12 + 8) ≠ 0 → g) → (U (i * 12 + 8) = 0 → U (k * 12 + 8) ≠ 0 → g) → g := fun g h1 h2 => by
              by_cases e : U (i * 12 + 8) = 0
              · exact h2 e (fun e2 => hfx ⟨e, e2⟩)
              · exact h1 e
            clear hfx
            go_upto_region 8 with fail
            go_cut [36] (fun s wc => s = .bool false ∧ wr = wc)
            case first =>
              refine key _ (fun e => ?_) (fun e1 e2 => ?_)
              · have e' : decide (U (i * 12 + 8) = 0) = false := decide_eq_false e
                have e3 : (U (i * 12 + 8) == 0) = false := by simp [e]
                go_wp2
                go_meet
                exact ⟨by first | rfl | simp [e3], rfl⟩
              · have e' : decide (U (k * 12 + 8) = 0) = false := decide_eq_false e2
                have e3 : (U (k * 12 + 8) == 0) = false := by simp [e2]
                rw [e1] at ci8
                go_wp2
                go_meet
                exact ⟨by first | rfl | simp [e3], rfl⟩
            case rest =>
            obtain ⟨rfl, rfl⟩ := hcut
            clear key ci8 ck8
            go_upto_region 9 with fail
            go_cut [6, 7] (fun s6 s7 wd => ∃ bh, s6 = .pointer (some ⟨bh, 0, none⟩) ∧ s7 = .bool TJ ∧ wd.cell? ⟨bh, 0, none⟩ = some (.int .i64 TX) ∧ wd.cell? ⟨bh, 1, none⟩ = some (.int .i64 TY) ∧ wd.cell? ⟨bh, 2, none⟩ = some (.int .i64 TD) ∧ bh < wd.heap.size ∧ wr.heap.size ≤ bh ∧ Below wr.heap.size wr wd)
            case first =>
              refine wp_region_held_drew (S := fun w' => w'.cell? ⟨b, o + i * 12 + 1, none⟩ = some (.int .i64 (U (i * 12 + 1))) ∧ w'.cell? ⟨b, o + i * 12 + 2, none⟩ = some (.int .i64 (U (i * 12 + 2))) ∧ w'.cell? ⟨b, o + i * 12 + 3, none⟩ = some (.int .i64 (U (i * 12 + 3))) ∧ w'.cell? ⟨b, o + i * 12 + 4, none⟩ = some (.int .i64 (U (i * 12 + 4))) ∧ w'.cell? ⟨b, o + i * 12 + 5, none⟩ = some (.int .i64 (U (i * 12 + 5))) ∧ w'.cell? ⟨b, o + k * 12 + 1, none⟩ = some (.int .i64 (U (k * 12 + 1))) ∧ w'.cell? ⟨b, o + k * 12 + 2, none⟩ = some (.int .i64 (U (k * 12 + 2))) ∧ w'.cell? ⟨b, o + k * 12 + 3, none⟩ = some (.int .i64 (U (k * 12 + 3))) ∧ w'.cell? ⟨b, o + k * 12 + 4, none⟩ = some (.int .i64 (U (k * 12 + 4))) ∧ w'.cell? ⟨b, o + k * 12 + 5, none⟩ = some (.int .i64 (U (k * 12 + 5)))) (by kernel_rfl) ?_ (fun hHeld => ?_)
              · (try dsimp only)
                (first | (go_simp; done) | (go_keep; done))
              refine tq 0 hHeld ?_
              refine tq 1 hHeld ?_
              refine tq 2 hHeld ?_
              refine tq 3 hHeld ?_
              refine tq 4 hHeld ?_
              refine tq 5 hHeld ?_
              refine tq 6 hHeld ?_
              refine tq 7 hHeld ?_
              refine tq 8 hHeld ?_
              refine tq 9 hHeld ?_
              refine tq 10 hHeld ?_
              refine tq 11 hHeld ?_
              refine tq 12 hHeld ?_
              refine tq 13 hHeld ?_
              refine tq 14 hHeld ?_
              refine tq 15 hHeld ?_
              refine tq 16 hHeld ?_
              refine tq 17 hHeld ?_
              refine tq 18 hHeld ?_
              refine tq 19 hHeld ?_
              refine wpAnyH_ready (rs := [20, 24]) (by kernel_rfl) (by simp) ?_
              refine AllReadyH.cons rfl (fun K hK => ?_) (AllReadyH.cons rfl (fun K hK => ?_) AllReadyH.nil)
              · (go_simp; (go_at_call 37; refine (l5Touch_q _ _ _ _ _ _ _ _ _ _ TX TY TD TJ _ si sk qi qk hT).mono ?_; rintro e w3 ⟨rfl, hb3⟩; obtain ⟨hc3, hf3⟩ := bcell hb3; have hz3 := hb3.size; (try simp only [World.size_drew, World.size_alloc, World.size_setCell] at hc3 hf3 hz3); have hk3x0 := fun o => hc3 (b) o (by omega); have hj3x0 := fun o => hf3 (b) o (by omega); have hq3x0 : b < w3.heap.size := (by omega); clear hc3 hf3; have hk3z := fun o => hb3.cell (p := ⟨wr.heap.size, o, none⟩); have hj3z := fun o => hb3.frozen (p := ⟨wr.heap.size, o, none⟩); (try simp only [World.size_drew, World.size_alloc] at hk3z hj3z)); (try go_wp2_with fail); refine tr hK (fun hHeld => ?_); clear hK K)
                refine tq 21 hHeld ?_
                refine tq 22 hHeld ?_
                refine tq 23 hHeld ?_
                refine tc 24 fun K hK => ?_
                (go_simp; refine tr hK (fun hHeld => ?_); clear hK K)
                refine tc 25 fun K hK => ?_
                (go_simp; refine tr hK (fun hHeld => ?_); clear hK K)
                refine tq 26 hHeld ?_
                refine wpAnyH_done (by kernel_rfl) ?_ _
                go_wp2_with fail
                go_meet
                exact ⟨_, rfl, rfl, by go_simp, by go_simp, by go_simp, by first | (simp; omega) | simp | omega, by first | (simp; omega) | simp | omega, bel_a⟩
              · (go_simp; refine tr hK (fun hHeld => ?_); clear hK K)
                refine tc 20 fun K hK => ?_
                (go_simp; (go_at_call 37; refine (l5Touch_q _ _ _ _ _ _ _ _ _ _ TX TY TD TJ _ si sk qi qk hT).mono ?_; rintro e w3 ⟨rfl, hb3⟩; obtain ⟨hc3, hf3⟩ := bcell hb3; have hz3 := hb3.size; (try simp only [World.size_drew, World.size_alloc, World.size_setCell] at hc3 hf3 hz3); have hk3x0 := fun o => hc3 (b) o (by omega); have hj3x0 := fun o => hf3 (b) o (by omega); have hq3x0 : b < w3.heap.size := (by omega); clear hc3 hf3; have hk3z := fun o => hb3.cell (p := ⟨wr.heap.size, o, none⟩); have hj3z := fun o => hb3.frozen (p := ⟨wr.heap.size, o, none⟩); (try simp only [World.size_drew, World.size_alloc] at hk3z hj3z)); (try go_wp2_with fail); refine tr hK (fun hHeld => ?_); clear hK K)
                refine tq 21 hHeld ?_
                refine tq 22 hHeld ?_
                refine tq 23 hHeld ?_
                refine tc 25 fun K hK => ?_
                (go_simp; refine tr hK (fun hHeld => ?_); clear hK K)
                refine tq 26 hHeld ?_
                refine wpAnyH_done (by kernel_rfl) ?_ _
                go_wp2_with fail
                go_meet
                exact ⟨_, rfl, rfl, by go_simp, by go_simp, by go_simp, by first | (simp; omega) | simp | omega, by first | (simp; omega) | simp | omega, bel_a⟩
            case rest =>
            obtain ⟨bh, rfl, rfl, t0, t1, t2, hbh, hbh0, hbd⟩ := hcut
            have hLd := hL.below hbd
            cases TJ with
            | false =>
              have hno : Shut (conOne (colOf U) i k = []) := conOne_no (by unfold conB; rw [hT]; simp)
              go_wp2
              go_roundw
              case rel => exact ⟨k + 1, _, _, _, by omega, by omega, by go_num, rfl, by rw [conIn, hno.out, List.append_nil]; exact hLd⟩
              case measure => simp [intOf]; omega
            | true =>
              have hyes : Shut (conOne (colOf U) i k = [(i : Int), (k : Int), TX, TY, TD]) := conOne_yes (conB_yes hik hfx'.out hT) hT
              go_wp2_with (refine wpList_app rfl _ _ _ rfl w.heap.size 56 5 40 (.agg #[.int .i64 0, .int .i64 0, .int .i64 0, .int .i64 0, .int .i64 0]) Tryz.underlying51 (by kernel_rfl) (by rfl) (by omega) (.slice a2 m2 c2) m2 (ofL (conOut (colOf U) n i ++ conIn (colOf U) i k)) rfl (hLd.below ((Below.refl _ _).alloc (Nat.le_refl _) _)).own _ 1 _ (ofL [(i : Int), (k : Int), TX, TY, TD]) rfl (flat5 _ _ _ _ _ _ _) (by unfold maxLen; omega) (by omega) (by simp only [World.size_alloc]; have := hLd.bel.size; omega) ?_; intro a1 c1 w1 ho1 hg1)
              have hP := (hLd.below ((Below.refl _ _).alloc (Nat.le_refl _) _)).push (x := [(i : Int), (k : Int), TX, TY, TD]) rfl hg1 ho1
              go_roundw
              case rel => exact ⟨k + 1, _, _, _, by omega, by omega, by go_num, rfl, by rw [conIn, hyes.out, ← List.append_assoc]; exact hP⟩
              case measure => simp [intOf]; omega
        · obtain rfl : k = n := by omega
          go_wp2
          go_roundw
          case rel => exact ⟨i + 1, _, _, _, by omega, by go_num, rfl, hL⟩
          case measure => simp [intOf]; omega
    · obtain rfl : i = n := by omega
      go_wp2
      go_ret
      exact ⟨_, _, _, rfl, hL.len, hL.bel, hL.own⟩
end Go.Proofs.YthfodocnehahcaaGreatDoor
namespace Go.Proofs.YthfodocnehahcaaGreatDoor
open Go.RowKit
set_option linter.unusedVariables false
set_option linter.unusedSimpArgs false

end Go.Proofs.YthfodocnehahcaaGreatDoor
namespace Go.Proofs.YthfodocnehahcaaGreatDoor
open Go.RowKit
set_option linter.unusedVariables false
set_option linter.unusedSimpArgs false

/-- columns of which a row was pushed -/
def pushC (C : Nat → Nat → Int) (k : Nat) (p q : Int) : Nat → Nat → Int := if C 8 k = 0 then C else setC (setC (setC C 6 k (clampZ 20000000 (C 6 k + p))) 7 k (clampZ 20000000 (C 7 k + q))) 11 k 0
end Go.Proofs.YthfodocnehahcaaGreatDoor
namespace Go.Proofs.YthfodocnehahcaaGreatDoor
open Go.RowKit
set_option linter.unusedVariables false
set_option linter.unusedSimpArgs false

theorem flatB (w : World) (V : Nat → Int) (t : TypeId) (s : Nat) (e : w.heap.size = s) : Flat (w.alloc (Obj.cells #[.int .i64 (V 0), .int .i64 (V 1), .int .i64 (V 2), .int .i64 (V 3), .int .i64 (V 4), .int .i64 (V 5), .int .i64 (V 6), .int .i64 (V 7), .int .i64 (V 8), .int .i64 (V 9), .int .i64 (V 10), .int .i64 (V 11)] t)) (some ⟨s, 0, none⟩) (1 * 12) V := by
  subst e
  intro _
  refine ⟨w.heap.size, 0, rfl, by simp, fun j hj => ?_⟩
  rw [Nat.zero_add]
  rcases (show j = 0 ∨ j = 1 ∨ j = 2 ∨ j = 3 ∨ j = 4 ∨ j = 5 ∨ j = 6 ∨ j = 7 ∨ j = 8 ∨ j = 9 ∨ j = 10 ∨ j = 11 by omega) with rfl | rfl | rfl | rfl | rfl | rfl | rfl | rfl | rfl | rfl | rfl | rfl <;> go_simp
theorem handle_0 (cb : Nat) (w : World) : Calls Tryz.prog 44 #[.pointer (some ⟨cb, 0, none⟩), .int .i64 0] w fun e w' => e = .returned (.agg #[.int .i64 0, .pointer (some ⟨cb, 0, none⟩)]) ∧ Below w.heap.size w w' := handle_any cb 0 w
theorem kOk_z {cb n : Nat} {V : Nat → Int} {G : Nat → Nat} {w : World} (h : HAt w cb n 0 V G) (b : Bool) (e : bodyB V = b) :
    Calls Tryz.prog 39 #[.agg #[.int .i64 0, .pointer (some ⟨cb, 0, none⟩)]] w fun e w' => e = .returned (.bool b) ∧ Below w.heap.size w w' := kOk_q h b e
theorem Cs.setO {w : World} {cb n b o : Nat} {C : Nat → Nat → Int} {S : Nat → Value} (h : Cs w cb n C S) (hb : b < cb) (v : Value) : Cs (w.setCell ⟨b, o, none⟩ v) cb n C S :=
  h.frame (X := fun x => x = b) (Fr.setCell (X := fun x => x = b) rfl _) (by show ¬ cb = b; omega) (fun x hx e => by have := (h.xlt hx).1; omega)
end Go.Proofs.YthfodocnehahcaaGreatDoor
namespace Go.Proofs.YthfodocnehahcaaGreatDoor
open Go.RowKit
set_option linter.unusedVariables false
set_option linter.unusedSimpArgs false

def setV (V : Nat → Int) (k : Nat) (a : Int) : Nat → Int := fun j => if j = k then a else V j
/-- a body that was pushed -/
def pushV (V : Nat → Int) (p q : Int) : Nat → Int := if V 8 = 0 then V else setV (setV (setV V 6 (clampZ 20000000 (V 6 + p))) 7 (clampZ 20000000 (V 7 + q))) 11 0
theorem pushC_V (C : Nat → Nat → Int) (k : Nat) (p q : Int) : (fun i => pushC C k p q i k) = pushV (fun i => C i k) p q := by
  funext i
  unfold pushC pushV
  by_cases m : C 8 k = 0
  · rw [if_pos m, if_pos m]
  · rw [if_neg m, if_neg m]; simp [setC, setV]
end Go.Proofs.YthfodocnehahcaaGreatDoor
namespace Go.Proofs.YthfodocnehahcaaGreatDoor
open Go.RowKit
set_option linter.unusedVariables false
set_option linter.unusedSimpArgs false

theorem mnmx (n m : Int) (h : 0 ≤ m) : mn (mx n (-m)) m = clampZ m n := by unfold mn mx clampZ; repeat (first | omega | split)
structure PB (w wx : World) (U : Nat → Int) (p q : Int) : Prop where
  inn : ∀ j, j < 12 → wx.cell? ⟨w.heap.size, j, none⟩ = some (.int .i64 (U j))
  v0 : wx.cell? ⟨w.heap.size + 1, 0, none⟩ = some (.int .i64 p)
  v1 : wx.cell? ⟨w.heap.size + 1, 1, none⟩ = some (.int .i64 q)
  res : ∀ j, j < 12 → wx.cell? ⟨w.heap.size + 1 + 1, j, none⟩ = some (.int .i64 0)
  nfi : ∀ j, j < 12 → wx.frozen? ⟨w.heap.size, j, none⟩ = false
  nfr : ∀ j, j < 12 → wx.frozen? ⟨w.heap.size + 1 + 1, j, none⟩ = false
  bel : Below w.heap.size w wx
  big : w.heap.size + 1 + 1 < wx.heap.size
theorem PB.drew {w wx : World} {U : Nat → Int} {p q : Int} (h : PB w wx U p q) : PB w wx.drew U p q := ⟨h.inn, h.v0, h.v1, h.res, h.nfi, h.nfr, h.bel.drew, h.big⟩
theorem PB.set {w wx : World} {U : Nat → Int} {p q : Int} (h : PB w wx U p q) {k : Nat} (hk : k < 12) (a : Int) : PB w (wx.setCell ⟨w.heap.size, k, none⟩ (.int .i64 a)) (setV U k a) p q := by
  refine ⟨fun j hj => ?_, ?_, ?_, fun j hj => ?_, fun j hj => ?_, fun j hj => ?_, ?_, ?_⟩
  · by_cases e : j = k
    · subst e; rw [cset_same (h.inn j hj)]; simp [setV]
    · rw [cset_other (by intro x; injection x with x1 x2; exact e x2.symm), h.inn j hj]; simp [setV, e]
  · rw [cset_far (by simp)]; exact h.v0
  · rw [cset_far (by simp)]; exact h.v1
  · rw [cset_far (by simp; omega)]; exact h.res j hj
  · rw [World.frozen?_setCell]; exact h.nfi j hj
  · rw [World.frozen?_setCell]; exact h.nfr j hj
  · exact h.bel.setCell (by simp) _
  · simpa using h.big
theorem PB.start (w : World) (V : Nat → Int) (p q : Int) : PB w (((w.alloc (.cells #[.int .i64 (V 0), .int .i64 (V 1), .int .i64 (V 2), .int .i64 (V 3), .int .i64 (V 4), .int .i64 (V 5), .int .i64 (V 6), .int .i64 (V 7), .int .i64 (V 8), .int .i64 (V 9), .int .i64 (V 10), .int .i64 (V 11)] 39)).alloc (.cells #[.int .i64 p, .int .i64 q] 37)).alloc (.cells #[.int .i64 0, .int .i64 0, .int .i64 0, .int .i64 0, .int .i64 0, .int .i64 0, .int .i64 0, .int .i64 0, .int .i64 0, .int .i64 0, .int .i64 0, .int .i64 0] 39)) V p q := ⟨(fun j hj => by (rcases (show j = 0 ∨ j = 1 ∨ j = 2 ∨ j = 3 ∨ j = 4 ∨ j = 5 ∨ j = 6 ∨ j = 7 ∨ j = 8 ∨ j = 9 ∨ j = 10 ∨ j = 11 by omega) with rfl | rfl | rfl | rfl | rfl | rfl | rfl | rfl | rfl | rfl | rfl | rfl <;> (first | (go_simp; done) | (simp; done)))), by go_simp, by go_simp, (fun j hj => by (rcases (show j = 0 ∨ j = 1 ∨ j = 2 ∨ j = 3 ∨ j = 4 ∨ j = 5 ∨ j = 6 ∨ j = 7 ∨ j = 8 ∨ j = 9 ∨ j = 10 ∨ j = 11 by omega) with rfl | rfl | rfl | rfl | rfl | rfl | rfl | rfl | rfl | rfl | rfl | rfl <;> (first | (go_simp; done) | (simp; done)))), (fun j hj => by (rcases (show j = 0 ∨ j = 1 ∨ j = 2 ∨ j = 3 ∨ j = 4 ∨ j = 5 ∨ j = 6 ∨ j = 7 ∨ j = 8 ∨ j = 9 ∨ j = 10 ∨ j = 11 by omega) with rfl | rfl | rfl | rfl | rfl | rfl | rfl | rfl | rfl | rfl | rfl | rfl <;> (first | (go_simp; done) | (simp; done)))), (fun j hj => by (rcases (show j = 0 ∨ j = 1 ∨ j = 2 ∨ j = 3 ∨ j = 4 ∨ j = 5 ∨ j = 6 ∨ j = 7 ∨ j = 8 ∨ j = 9 ∨ j = 10 ∨ j = 11 by omega) with rfl | rfl | rfl | rfl | rfl | rfl | rfl | rfl | rfl | rfl | rfl | rfl <;> (first | (go_simp; done) | (simp; done)))), bel_a, by simp⟩

end Go.Proofs.YthfodocnehahcaaGreatDoor
namespace Go.Proofs.YthfodocnehahcaaGreatDoor
open Go.RowKit
set_option linter.unusedVariables false
set_option linter.unusedSimpArgs false
/-- a body that is awake, and can move -/
def liveV (V : Nat → Int) : Bool := decide (0 < V 8) && !decide (8 ≤ V 11)
def pullV (g : Int) (V : Nat → Int) : Nat → Int := bif liveV V then setV V 7 (clampZ 20000000 (V 7 - g * V 8)) else V
theorem live_t {V : Nat → Int} (h1 : 0 < V 8) (h2 : decide (8 ≤ V 11) = false) : liveV V = true := by unfold liveV; rw [h2]; simp [h1]
theorem live_m {V : Nat → Int} (h1 : ¬ 0 < V 8) : liveV V = false := by unfold liveV; simp [h1]
theorem live_s {V : Nat → Int} (h2 : decide (8 ≤ V 11) = true) : liveV V = false := by unfold liveV; rw [h2]; simp
end Go.Proofs.YthfodocnehahcaaGreatDoor
namespace Go.Proofs.YthfodocnehahcaaGreatDoor
open Go.RowKit
set_option linter.unusedVariables false
set_option linter.unusedSimpArgs false

def mvX (V : Nat → Int) (p : Int) : Int := clampZ 2560000 (V 4 + p)
def mvY (V : Nat → Int) (q : Int) : Int := clampZ 2560000 (V 5 + q)
def moveV (V : Nat → Int) (p q : Int) : Nat → Int := setV (setV (setV (setV V 4 (mvX V p)) 5 (mvY V q)) 6 (if mvX V p = V 4 + p then V 6 else 0)) 7 (if mvY V q = V 5 + q then V 7 else 0)
theorem setV_self (V : Nat → Int) (k : Nat) : setV V k (V k) = V := by funext j; unfold setV; split <;> simp_all
theorem setV_at (V : Nat → Int) (k j : Nat) (a : Int) (h : j ≠ k) : setV V k a j = V j := by unfold setV; rw [if_neg h]
theorem setV_is (V : Nat → Int) (k : Nat) (a : Int) : setV V k a k = a := by unfold setV; rw [if_pos rfl]

end Go.Proofs.YthfodocnehahcaaGreatDoor
