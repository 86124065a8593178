/- Texts of a proof. -/
import Derived.Test.YtalkkjhehndaoaaGreatB7
import Derived.Sort.CutIn
import Derived.LoopNIn
import Derived.LoopIn
import Derived.OwnWalkIn
import Derived.Deep.RegionHeld3
import Derived.Deep.DeepCutAuto
import Derived.Test.YtalkkjhehndaoaaGreatB1
import Derived.Lib.AppendZeros
import Derived.Test.YtalkkjhehndaoaaGreatB2
import Derived.Test.YtalkkjhehndaoaaGreatB3
import Derived.Test.YtalkkjhehndaoaaGreatB4
set_option maxHeartbeats 16000000
set_option maxRecDepth 20000
namespace Go.Proofs.YtalkkjhehndaoaaGreat
open Go.RowKit
set_option linter.unusedVariables false
set_option linter.unusedSimpArgs false
theorem cells5 (w : World) (p q r s u : Int) (t : TypeId) : ∀ j, j < 5 → (w.alloc (Obj.cells #[.int .i64 p, .int .i64 q, .int .i64 r, .int .i64 s, .int .i64 u] t)).cell? ⟨w.heap.size, j, none⟩ = some (.int .i64 (ofL [p, q, r, s, u] j)) := by
 intro j hj
 rcases (show j = 0 ∨ j = 1 ∨ j = 2 ∨ j = 3 ∨ j = 4 by omega) with rfl | rfl | rfl | rfl | rfl <;> (simp only [ofL]; go_simp; (try rfl))
theorem kFixed_q {cb n k : Nat} {V : Nat → Int} {G : Nat → Nat} {w : World} (h : HAt w cb n k V G) {b : Bool} (e : decide (V 8 = 0) = b) :
 Calls Tryz.prog 42 #[hdk cb k] w fun e w' => e = .returned (.bool b) ∧ Below w.heap.size w w' := by subst e; exact kFixed h
theorem contacts_any (cb n : Nat) (C : Nat → Nat → Int) (S : Nat → Value) (w : World) (hC : Cs w cb n C S) (hn : n ≤ 12) :
 Calls Tryz.prog 23 #[.pointer (some ⟨cb, 0, none⟩)] w fun e w' => ∃ a m c, e = .returned (.slice a m c) ∧ (conL C n).length = m * 5 ∧ OutL w w' 40 5 a m c (ofL (conL C n)) := by
 have hset := cset_map
 have hcl0 := hC.lt
 refine calls_of_wp_marks Tryz.func23 rfl ?_
 simp only [Tryz.ntmps23, List.size_toArray, List.length_cons, List.length_nil, Nat.reduceAdd, Nat.reduceSub, Array.replicate_succ, Array.replicate_zero, List.push_toArray, List.append_toArray, List.nil_append, List.cons_append]
 go_wp2
 have hE : Below w.heap.size w ((w.alloc (Obj.cells #[(.pointer (some ⟨cb, 0, none⟩))] 48)).alloc (Obj.cells #[.slice none 0 0] 35)) := ((Below.refl _ _).alloc (Nat.le_refl _) _).alloc (by simp) _
 have hC2 := hC.below hE
 have r1 : ((w.alloc (Obj.cells #[(.pointer (some ⟨cb, 0, none⟩))] 48)).alloc (Obj.cells #[.slice none 0 0] 35)).cell? ⟨w.heap.size, 0, none⟩ = some (.pointer (some ⟨cb, 0, none⟩)) := by go_simp
 have hA : LsAt ((w.alloc (Obj.cells #[(.pointer (some ⟨cb, 0, none⟩))] 48)).alloc (Obj.cells #[.slice none 0 0] 35)) ((w.alloc (Obj.cells #[(.pointer (some ⟨cb, 0, none⟩))] 48)).alloc (Obj.cells #[.slice none 0 0] 35)) (w.heap.size + 1) 40 5 none 0 0 [] := LsAt.start (by go_simp) (by go_simp)
 have hz2 : ((w.alloc (Obj.cells #[(.pointer (some ⟨cb, 0, none⟩))] 48)).alloc (Obj.cells #[.slice none 0 0] 35)).heap.size = w.heap.size + 1 + 1 := by simp
 generalize ((w.alloc (Obj.cells #[(.pointer (some ⟨cb, 0, none⟩))] 48)).alloc (Obj.cells #[.slice none 0 0] 35)) = w2 at hE hC2 r1 hA hz2 ⊢
 have hXl : ∀ b, Xc S b → b < w.heap.size := fun b hb => (hC.xlt hb).2
 have hlb0 : w.heap.size < w.heap.size + 1 := by omega
 have hlb : w.heap.size + 1 < w2.heap.size := by omega
 generalize w.heap.size + 1 = lb at hA hlb0 hlb ⊢
 have hcl := hC2.lt
 obtain ⟨ad, cc, hS0⟩ := (hC2.own 0 (by omega)).is
 have hd0 := hC2.hd 0 (by omega)
 rw [hS0] at hd0
 refine wp_range_out (gf := 33) (bound := #[(.pointer (some ⟨cb, 0, none⟩))]) rfl each_enters (each_it cb n _ _ w2 hcl hd0 (by omega)) (fun _ => rfl) (fun i W => ∃ a m c, LsAt w2 W lb 40 5 a m c (conOut C n i)) (fun _ _ => False) ?_ (fun _ _ _ h _ => h) ⟨_, _, _, hA⟩ ?round ?done (fun _ _ _ _ h _ => h.elim)
 · rintro i A B ⟨a, m, c, h1⟩ hs
   exact ⟨a, m, c, h1.sm hs (Nat.le_refl _)⟩
 case round =>
  rintro l0 i W hl0 ⟨a, m, c, hL⟩ hi
  simp only [List.zip_toArray, List.zip_cons_cons, List.zip_nil_left, List.foldl_toArray, List.foldl_cons, List.foldl_nil, List.setIfInBounds_toArray, List.set_cons_succ, List.set_cons_zero]
  refine wpIn_region_plain (by rintro ⟨_, _, h⟩; exact h) (by kernel_rfl) ?_
  go_wp2
  refine ⟨(KeepsOthers.alloc _ _).from _, fun W2 hS hr => ?_⟩
  obtain ⟨rr, hrr⟩ := hr
  have hzW := hL.fr.size
  have hL2 : LsAt w2 W2 lb 40 5 a m c (conOut C n i) := (hL.below ((Below.refl _ _).alloc (Nat.le_refl _) _)).sm hS (Nat.le_refl _)
  have v0 : W2.cell? ⟨W.heap.size, 0, none⟩ = some (.int .i64 (i : Int)) := hS.cell (by go_simp)
  have v1 : W2.cell? ⟨W.heap.size, 1, none⟩ = some (.pointer (some ⟨cb, 0, none⟩)) := hS.cell (by go_simp)
  have hz3 : W.heap.size < W2.heap.size := by have := hS.size; simp at this; omega
  have hob0 : ∀ b, (Value.slice a m c).ownBlock = some b → b ≠ W.heap.size := fun b e => by have := (hL.own.lt b e).2; omega
  generalize W.heap.size = ba at v0 v1 hz3 hzW hob0 ⊢
  clear hS hL
  have r1' : W2.cell? ⟨w.heap.size, 0, none⟩ = some (.pointer (some ⟨cb, 0, none⟩)) := (hL2.fr.cell (p := ⟨w.heap.size, 0, none⟩) (by simp; omega) (by simp; omega)).trans r1
  have hCW := hC2.frame hL2.fr (by omega) (fun b hb => by have := hXl b hb; omega)
  have hdW := hCW.hd 0 (by omega)
  rw [hS0] at hdW
  refine wpIn_block ?_
  refine wpIn_seq_k fun K0 hK0 => ?_
  refine wpIn_region_plain (by rintro ⟨_, _, h⟩; exact h) (by kernel_rfl) ?_
  go_wp2
  refine wpIn_block ?_
  refine wpIn_range_in hrr (gf := 33) (bound := #[(.pointer (some ⟨cb, 0, none⟩))]) rfl each_enters (each_it cb n _ _ W2 hCW.lt hdW (by omega)) (fun _ => rfl)
   (fun k X => (∃ a m c, LsAt w2 X lb 40 5 a m c (conOut C n i ++ conIn C i k) ∧ ∀ b, (Value.slice a m c).ownBlock = some b → b ≠ ba) ∧ X.cell? ⟨ba, 0, none⟩ = some (.int .i64 (i : Int)) ∧ X.cell? ⟨ba, 1, none⟩ = some (.pointer (some ⟨cb, 0, none⟩)) ∧ KeepsFrom w2.heap.size W2 X ∧ W2.heap.size ≤ X.heap.size)
   (fun _ _ => False) ?_ (fun _ _ _ h _ => h) ?_ ?round2 ?done2 (fun _ _ h => h.elim)
  · rintro k A B ⟨⟨a, m, c, h1, h1'⟩, h2, h3, h4, h5⟩ hs
    exact ⟨⟨a, m, c, h1.sm hs hL2.fr.size, h1'⟩, hs.cell h2, hs.cell h3, h4.sm hs (Nat.le_refl _), Nat.le_trans h5 hs.size⟩
  · exact ⟨⟨a, m, c, by rw [conIn, List.append_nil]; exact hL2, hob0⟩, v0, v1, KeepsFrom.refl _ _, Nat.le_refl _⟩
  case done2 =>
   rintro X ⟨⟨a, m, c, h1, h1'⟩, h2, h3, h4, h5⟩
   exact ⟨h4, a, m, c, h1⟩
  case round2 =>
   rintro l1 k X hl1 ⟨⟨a, m, c, hL3, hoba⟩, x0, x1, hKF, hXz⟩ hk
   simp only [List.zip_toArray, List.zip_cons_cons, List.zip_nil_left, List.foldl_toArray, List.foldl_cons, List.foldl_nil, List.setIfInBounds_toArray, List.set_cons_succ, List.set_cons_zero]
   refine wpIn_region_plain (by rintro ⟨_, _, h⟩; exact h) (by kernel_rfl) ?_
   go_wp2
   refine ⟨(KeepsOthers.alloc _ _).from _, fun X2 hS2 hr2 => ?_⟩
   clear hr2
   have hE2 : Below X.heap.size X (X.alloc (Obj.cells #[.int .i64 (k : Int), .pointer (some ⟨cb, 0, none⟩)] 60)) := (Below.refl _ _).alloc (Nat.le_refl _) _
   have hLX : LsAt w2 X2 lb 40 5 a m c (conOut C n i ++ conIn C i k) := (hL3.below hE2).sm hS2 hL2.fr.size
   have hKX : KeepsFrom w2.heap.size W2 X2 := (hKF.trans ((KeepsOthers.alloc _ _).from _)).sm hS2 (Nat.le_refl _)
   have a0 : X2.cell? ⟨ba, 0, none⟩ = some (.int .i64 (i : Int)) := hS2.cell ((hE2.cell (p := ⟨ba, 0, none⟩) (by simp; omega)).trans x0)
   have a1 : X2.cell? ⟨ba, 1, none⟩ = some (.pointer (some ⟨cb, 0, none⟩)) := hS2.cell ((hE2.cell (p := ⟨ba, 1, none⟩) (by simp; omega)).trans x1)
   have b0 : X2.cell? ⟨X.heap.size, 0, none⟩ = some (.int .i64 (k : Int)) := hS2.cell (by go_simp)
   have b1 : X2.cell? ⟨X.heap.size, 1, none⟩ = some (.pointer (some ⟨cb, 0, none⟩)) := hS2.cell (by go_simp)
   have hzX : X.heap.size < X2.heap.size := by have := hS2.size; simp at this; omega
   have hown : ∀ b, (Value.slice a m c).ownBlock = some b → b < X.heap.size := fun b hb => (hL3.own.lt b hb).2
   obtain ⟨mm, hm1, hm2⟩ := conOut_len C n i
   obtain ⟨mk, hm3, hm4⟩ := conIn_len C i k
   have hm5 := hL3.len
   rw [List.length_append, hm1, hm3] at hm5
   have hm6 : i * n ≤ 12 * 12 := Nat.mul_le_mul (by omega) hn
   clear hS2 hE2 hL3 x0 x1
   generalize X.heap.size = bb at b0 b1 hzX hown hXz ⊢
   have hCX := hC2.frame hLX.fr (by omega) (fun b hb => by have := hXl b hb; omega)
   have stay : ∀ Y, Below X2.heap.size X2 Y → conOne C i k = [] → KeepsFrom W2.heap.size X2 Y ∧ (∃ a m c, LsAt w2 Y lb 40 5 a m c (conOut C n i ++ conIn C i (k + 1)) ∧ ∀ b, (Value.slice a m c).ownBlock = some b → b ≠ ba) ∧ Y.cell? ⟨ba, 0, none⟩ = some (.int .i64 (i : Int)) ∧ Y.cell? ⟨ba, 1, none⟩ = some (.pointer (some ⟨cb, 0, none⟩)) ∧ KeepsFrom w2.heap.size W2 Y ∧ W2.heap.size ≤ Y.heap.size := fun Y hb hno =>
    ⟨KeepsFrom.of_below hb, ⟨a, m, c, by rw [conIn, hno, List.append_nil]; exact hLX.below hb, hoba⟩, (hb.cell (p := ⟨ba, 0, none⟩) (by simp; omega)).trans a0, (hb.cell (p := ⟨ba, 1, none⟩) (by simp; omega)).trans a1, hKX.trans (KeepsFrom.of_below hb), by have := hb.size; omega⟩
   have fin : ∀ (Y : World) (a' : Option Addr) (m' c' : Nat) {x : List Int}, LsAt w2 Y lb 40 5 a' m' c' ((conOut C n i ++ conIn C i k) ++ x) → (∀ b, (Value.slice a' m' c').ownBlock = some b → b ≠ ba) → Fr (fun b => b = lb ∨ (Value.slice a m c).ownBlock = some b) X2 Y → conOne C i k = x → KeepsFrom W2.heap.size X2 Y ∧ (∃ a m c, LsAt w2 Y lb 40 5 a m c (conOut C n i ++ conIn C i (k + 1)) ∧ ∀ b, (Value.slice a m c).ownBlock = some b → b ≠ ba) ∧ Y.cell? ⟨ba, 0, none⟩ = some (.int .i64 (i : Int)) ∧ Y.cell? ⟨ba, 1, none⟩ = some (.pointer (some ⟨cb, 0, none⟩)) ∧ KeepsFrom w2.heap.size W2 Y ∧ W2.heap.size ≤ Y.heap.size := fun Y a' m' c' x hP hnb hF hx =>
    have hn : ¬ (ba = lb ∨ (Value.slice a m c).ownBlock = some ba) := fun q => q.elim (fun q => by omega) (fun q => hoba ba q rfl)
    ⟨hF.keeps _, ⟨a', m', c', by rw [conIn, hx, ← List.append_assoc]; exact hP, hnb⟩, (hF.cell (p := ⟨ba, 0, none⟩) (by simp; omega) hn).trans a0, (hF.cell (p := ⟨ba, 1, none⟩) (by simp; omega) hn).trans a1, hKX.trans (hF.keeps _), by have := hF.size; omega⟩
   refine wpIn_block ?_
   refine wpIn_seq_k fun K1 hK1 => ?_
   gi_cut [] from 999 (fun wc => Below X2.heap.size X2 wc ∧ i < k ∧ ¬ (C 8 i = 0 ∧ C 8 k = 0))
   case first =>
    rename_i J9 K9 hJ9 hK9
    refine wpIn_seq_k fun K2 hK2 => ?_
    have meet : ∀ a Y, J9 a Y → K9 a Y := fun a Y h => hK9 a Y (Met.intro h)
    by_cases hik : i < k
    · have hd1 : decide (k ≤ i) = false := decide_eq_false (by omega)
      cases hfi : decide (C 8 i = 0) with
      | false =>
       have hnf : ¬ (C 8 i = 0 ∧ C 8 k = 0) := fun q => by rw [decide_eq_true q.1] at hfi; cases hfi
       refine wpIn_region_plain (by rintro ⟨_, _, h⟩; exact h) (by kernel_rfl) ?_
       go_wp2_with (go_at_call 42; refine (kFixed_q (Cs.hat hCX hi (by omega)) hfi).mono ?_; rintro e w11 ⟨rfl, hb11⟩; obtain ⟨hc11, hf11⟩ := bcell hb11; have hz11 := hb11.size; (try simp only [World.size_drew, World.size_alloc, World.size_setCell] at hc11 hf11 hz11); have hk11x0 := fun o => hc11 (ba) o (by omega); have hj11x0 := fun o => hf11 (ba) o (by omega); have hq11x0 : ba < w11.heap.size := (by omega); have hk11x1 := fun o => hc11 (bb) o (by omega); have hj11x1 := fun o => hf11 (bb) o (by omega); have hq11x1 : bb < w11.heap.size := (by omega); have hk11x2 := fun o => hc11 (lb) o (by omega); have hj11x2 := fun o => hf11 (lb) o (by omega); have hq11x2 : lb < w11.heap.size := (by omega); clear hc11 hf11)
       refine wpIn_cond_false rfl ?_
       refine wpIn_skip ?_
       refine meet _ _ (hJ9 _ _ ?_)
       (repeat apply Exists.intro)
       exact ⟨⟨hb11, hik, hnf⟩, rfl⟩
      | true =>
       cases hfk : decide (C 8 k = 0) with
       | true =>
        refine wpIn_region_plain (by rintro ⟨_, _, h⟩; exact h) (by kernel_rfl) ?_
        go_wp2_with (first | (have _ := hz11; (go_at_call 42; refine (kFixed_q (Cs.hat hCX1 hk (by omega)) hfk).mono ?_; rintro e w12 ⟨rfl, hb12⟩; obtain ⟨hc12, hf12⟩ := bcell hb12; have hz12 := hb12.size; (try simp only [World.size_drew, World.size_alloc, World.size_setCell] at hc12 hf12 hz12); have hk12x0 := fun o => hc12 (ba) o (by omega); have hj12x0 := fun o => hf12 (ba) o (by omega); have hq12x0 : ba < w12.heap.size := (by omega); have hk12x1 := fun o => hc12 (bb) o (by omega); have hj12x1 := fun o => hf12 (bb) o (by omega); have hq12x1 : bb < w12.heap.size := (by omega); have hk12x2 := fun o => hc12 (lb) o (by omega); have hj12x2 := fun o => hf12 (lb) o (by omega); have hq12x2 : lb < w12.heap.size := (by omega); clear hc12 hf12)) | (go_at_call 42; refine (kFixed_q (Cs.hat hCX hi (by omega)) hfi).mono ?_; rintro e w11 ⟨rfl, hb11⟩; obtain ⟨hc11, hf11⟩ := bcell hb11; have hz11 := hb11.size; (try simp only [World.size_drew, World.size_alloc, World.size_setCell] at hc11 hf11 hz11); have hCX1 := hCX.below hb11; have hk11x0 := fun o => hc11 (ba) o (by omega); have hj11x0 := fun o => hf11 (ba) o (by omega); have hq11x0 : ba < w11.heap.size := (by omega); have hk11x1 := fun o => hc11 (bb) o (by omega); have hj11x1 := fun o => hf11 (bb) o (by omega); have hq11x1 : bb < w11.heap.size := (by omega); have hk11x2 := fun o => hc11 (lb) o (by omega); have hj11x2 := fun o => hf11 (lb) o (by omega); have hq11x2 : lb < w11.heap.size := (by omega); clear hc11 hf11))
        refine wpIn_cond_true rfl ?_
        refine wpIn_exit ?_
        exact stay _ (hb11.trans (hb12.mono hb11.size)) (conOne_no (by unfold conB; rw [hfi, hfk]; simp))
       | false =>
        refine wpIn_region_plain (by rintro ⟨_, _, h⟩; exact h) (by kernel_rfl) ?_
        go_wp2_with (first | (have _ := hz11; (go_at_call 42; refine (kFixed_q (Cs.hat hCX1 hk (by omega)) hfk).mono ?_; rintro e w12 ⟨rfl, hb12⟩; obtain ⟨hc12, hf12⟩ := bcell hb12; have hz12 := hb12.size; (try simp only [World.size_drew, World.size_alloc, World.size_setCell] at hc12 hf12 hz12); have hk12x0 := fun o => hc12 (ba) o (by omega); have hj12x0 := fun o => hf12 (ba) o (by omega); have hq12x0 : ba < w12.heap.size := (by omega); have hk12x1 := fun o => hc12 (bb) o (by omega); have hj12x1 := fun o => hf12 (bb) o (by omega); have hq12x1 : bb < w12.heap.size := (by omega); have hk12x2 := fun o => hc12 (lb) o (by omega); have hj12x2 := fun o => hf12 (lb) o (by omega); have hq12x2 : lb < w12.heap.size := (by omega); clear hc12 hf12)) | (go_at_call 42; refine (kFixed_q (Cs.hat hCX hi (by omega)) hfi).mono ?_; rintro e w11 ⟨rfl, hb11⟩; obtain ⟨hc11, hf11⟩ := bcell hb11; have hz11 := hb11.size; (try simp only [World.size_drew, World.size_alloc, World.size_setCell] at hc11 hf11 hz11); have hCX1 := hCX.below hb11; have hk11x0 := fun o => hc11 (ba) o (by omega); have hj11x0 := fun o => hf11 (ba) o (by omega); have hq11x0 : ba < w11.heap.size := (by omega); have hk11x1 := fun o => hc11 (bb) o (by omega); have hj11x1 := fun o => hf11 (bb) o (by omega); have hq11x1 : bb < w11.heap.size := (by omega); have hk11x2 := fun o => hc11 (lb) o (by omega); have hj11x2 := fun o => hf11 (lb) o (by omega); have hq11x2 : lb < w11.heap.size := (by omega); clear hc11 hf11))
        refine wpIn_cond_false rfl ?_
        refine wpIn_skip ?_
        have hnf : ¬ (C 8 i = 0 ∧ C 8 k = 0) := fun q => by rw [decide_eq_true q.2] at hfk; cases hfk
        refine meet _ _ (hJ9 _ _ ?_)
        (repeat apply Exists.intro)
        exact ⟨⟨hb11.trans (hb12.mono hb11.size), hik, hnf⟩, rfl⟩
    · have hd1 : decide (k ≤ i) = true := decide_eq_true (by omega)
      refine wpIn_region_plain (by rintro ⟨_, _, h⟩; exact h) (by kernel_rfl) ?_
      go_wp2
      refine wpIn_cond_true rfl ?_
      refine wpIn_exit ?_
      exact stay X2 (Below.refl _ _) (conOne_no (conB_ge (by omega)))
   case rest =>
   obtain ⟨hbq, hik, hnf⟩ := hcut
   have hz11 := hbq.size
   have a0c := (hbq.cell (p := ⟨ba, 0, none⟩) (by simp; omega)).trans a0
   have a1c := (hbq.cell (p := ⟨ba, 1, none⟩) (by simp; omega)).trans a1
   have b0c := (hbq.cell (p := ⟨bb, 0, none⟩) hzX).trans b0
   have b1c := (hbq.cell (p := ⟨bb, 1, none⟩) hzX).trans b1
   refine hK1 _ _ ?_
   refine wpIn_seq_k fun K3 hK3 => ?_
   obtain ⟨TX, TY, TD, TJ, hT⟩ : ∃ TX TY TD TJ, tcH C i k = ((TX, TY, TD), TJ) := ⟨_, _, _, _, rfl⟩
   refine wpIn_region_plain (by rintro ⟨_, _, h⟩; exact h) (by kernel_rfl) ?_
   go_wp2_with (go_at_call 43; refine (kTouch (Cs.hat (hCX.below hbq) hi (by omega)) (Cs.hat (hCX.below hbq) hk (by omega)) TX TY TD TJ hT).mono ?_; rintro e w13 ⟨rfl, hb13⟩; obtain ⟨hc13, hf13⟩ := bcell hb13; have hz13 := hb13.size; (try simp only [World.size_drew, World.size_alloc, World.size_setCell] at hc13 hf13 hz13); have hk13x0 := fun o => hc13 (ba) o (by omega); have hj13x0 := fun o => hf13 (ba) o (by omega); have hq13x0 : ba < w13.heap.size := (by omega); have hk13x1 := fun o => hc13 (bb) o (by omega); have hj13x1 := fun o => hf13 (bb) o (by omega); have hq13x1 : bb < w13.heap.size := (by omega); have hk13x2 := fun o => hc13 (lb) o (by omega); have hj13x2 := fun o => hf13 (lb) o (by omega); have hq13x2 : lb < w13.heap.size := (by omega); clear hc13 hf13)
   have hbZ0 : Below X2.heap.size X2 w13 := hbq.trans (hb13.mono hbq.size)
   have hbZ : Below X2.heap.size X2 (w13.alloc (Obj.cells #[.int .i64 TX, .int .i64 TY, .int .i64 TD] 38)) := hbZ0.alloc hbZ0.size _
   have hLZ := hLX.below hbZ
   have z0 : (w13.alloc (Obj.cells #[.int .i64 TX, .int .i64 TY, .int .i64 TD] 38)).cell? ⟨ba, 0, none⟩ = some (.int .i64 (i : Int)) := (hbZ.cell (p := ⟨ba, 0, none⟩) (by simp; omega)).trans a0
   have z1 : (w13.alloc (Obj.cells #[.int .i64 TX, .int .i64 TY, .int .i64 TD] 38)).cell? ⟨bb, 0, none⟩ = some (.int .i64 (k : Int)) := (hbZ.cell (p := ⟨bb, 0, none⟩) hzX).trans b0
   have z2 : (w13.alloc (Obj.cells #[.int .i64 TX, .int .i64 TY, .int .i64 TD] 38)).cell? ⟨w13.heap.size, 0, none⟩ = some (.int .i64 TX) := by go_simp
   have z3 : (w13.alloc (Obj.cells #[.int .i64 TX, .int .i64 TY, .int .i64 TD] 38)).cell? ⟨w13.heap.size, 1, none⟩ = some (.int .i64 TY) := by go_simp
   have z4 : (w13.alloc (Obj.cells #[.int .i64 TX, .int .i64 TY, .int .i64 TD] 38)).cell? ⟨w13.heap.size, 2, none⟩ = some (.int .i64 TD) := by go_simp
   have hzb : w13.heap.size < (w13.alloc (Obj.cells #[.int .i64 TX, .int .i64 TY, .int .i64 TD] 38)).heap.size := by simp
   have hzb3 := hbZ0.size
   generalize (w13.alloc (Obj.cells #[.int .i64 TX, .int .i64 TY, .int .i64 TD] 38)) = Z at hbZ hLZ z0 z1 z2 z3 z4 hzb ⊢
   generalize w13.heap.size = bh at z2 z3 z4 hzb hzb3 ⊢
   have n1 : lb ≠ ba := by omega
   have n2 : lb ≠ bb := by omega
   have n3 : lb ≠ bh := by omega
   have zb := hLZ.box
   have zf := hLZ.nf
   refine wpIn_seq_k fun K4 hK4 => ?_
   refine wpIn_region_plain (by rintro ⟨_, _, h⟩; exact h) (by kernel_rfl) ?_
   go_wp2
   cases TJ with
   | false =>
    refine wpIn_cond_false rfl ?_
    refine wpIn_skip ?_
    exact stay Z hbZ (conOne_no (by unfold conB; rw [hT]; simp))
   | true =>
    have hyes : Shut (conOne C i k = [(i : Int), (k : Int), TX, TY, TD]) := conOne_yes (conB_yes hik hnf hT) hT
    refine wpIn_cond_true rfl ?_
    refine wpIn_region_held_drew (S := fun w' => w'.cell? ⟨ba, 0, none⟩ = some (.int .i64 (i : Int)) ∧ w'.cell? ⟨bb, 0, none⟩ = some (.int .i64 (k : Int)) ∧ w'.cell? ⟨bh, 0, none⟩ = some (.int .i64 TX) ∧ w'.cell? ⟨bh, 1, none⟩ = some (.int .i64 TY) ∧ w'.cell? ⟨bh, 2, none⟩ = some (.int .i64 TD)) (by kernel_rfl) (by rintro ⟨_, _, h⟩; exact h) (by kernel_rfl) ?_ (fun hHeld => ?_)
    · (try dsimp only)
      (first | (go_simp; done) | (go_keep; done))
    refine tq 1 hHeld ?_
    refine tq 2 hHeld ?_
    refine tq 4 hHeld ?_
    refine tq 5 hHeld ?_
    refine tq 7 hHeld ?_
    refine wpAnyH_ready (rs := [0, 3]) (by kernel_rfl) (by simp) ?_
    refine AllReadyH.cons rfl (fun K hK => ?_) (AllReadyH.cons rfl (fun K hK => ?_) AllReadyH.nil)
    · (go_simp; refine tr hK (fun hHeld => ?_); clear hK K)
      refine tc 3 fun K hK => ?_
      (go_simp; (go_at_call 44; refine (place_any _ _).mono ?_; rintro e w14 ⟨rfl, hb14⟩; obtain ⟨hc14, hf14⟩ := bcell hb14; have hz14 := hb14.size; (try simp only [World.size_drew, World.size_alloc, World.size_setCell] at hc14 hf14 hz14); have hk14x0 := fun o => hc14 (ba) o (by omega); have hj14x0 := fun o => hf14 (ba) o (by omega); have hq14x0 : ba < w14.heap.size := (by omega); have hk14x1 := fun o => hc14 (bb) o (by omega); have hj14x1 := fun o => hf14 (bb) o (by omega); have hq14x1 : bb < w14.heap.size := (by omega); have hk14x2 := fun o => hc14 (bh) o (by omega); have hj14x2 := fun o => hf14 (bh) o (by omega); have hq14x2 : bh < w14.heap.size := (by omega); have hk14x3 := fun o => hc14 (lb) o (by omega); have hj14x3 := fun o => hf14 (lb) o (by omega); have hq14x3 : lb < w14.heap.size := (by omega); clear hc14 hf14); (try go_wp2_with fail); refine tr hK (fun hHeld => ?_); clear hK K)
      refine tc 6 fun K hK => ?_
      (go_simp; (go_at_call 44; refine (place_any _ _).mono ?_; rintro e w15 ⟨rfl, hb15⟩; obtain ⟨hc15, hf15⟩ := bcell hb15; have hz15 := hb15.size; (try simp only [World.size_drew, World.size_alloc, World.size_setCell] at hc15 hf15 hz15); have hk15x0 := fun o => hc15 (ba) o (by omega); have hj15x0 := fun o => hf15 (ba) o (by omega); have hq15x0 : ba < w15.heap.size := (by omega); have hk15x1 := fun o => hc15 (bb) o (by omega); have hj15x1 := fun o => hf15 (bb) o (by omega); have hq15x1 : bb < w15.heap.size := (by omega); have hk15x2 := fun o => hc15 (bh) o (by omega); have hj15x2 := fun o => hf15 (bh) o (by omega); have hq15x2 : bh < w15.heap.size := (by omega); have hk15x3 := fun o => hc15 (lb) o (by omega); have hj15x3 := fun o => hf15 (lb) o (by omega); have hq15x3 : lb < w15.heap.size := (by omega); clear hc15 hf15); (try go_wp2_with fail); refine tr hK (fun hHeld => ?_); clear hK K)
      refine tq 8 hHeld ?_
      refine tc 9 fun K hK => ?_
      (go_simp; refine tr hK (fun hHeld => ?_); clear hK K)
      refine tc 10 fun K hK => ?_
      have hbZ5 : Below Z.heap.size Z w15 := hb14.ofDr.trans (hb15.mono hb14.size)
      have hbZ6 : Below Z.heap.size Z (w15.alloc (Obj.cells #[.int .i64 (i : Int), .int .i64 (k : Int), .int .i64 TX, .int .i64 TY, .int .i64 TD] 40)) := hbZ5.alloc hbZ5.size _
      have hL6 := hLZ.below hbZ6
      have hz6 := hbZ5.size
      refine step_appk (by rfl) _ _ _ (by rfl) w2.heap.size 40 5 40 (.agg #[.int .i64 0, .int .i64 0, .int .i64 0, .int .i64 0, .int .i64 0]) Tryz.underlying35 (by kernel_rfl) (by rfl) (by omega) (.slice a m c) m (ofL (conOut C n i ++ conIn C i k)) (by rfl) hL6.own w15.heap.size _ (ofL [(i : Int), (k : Int), TX, TY, TD]) (by rfl) (cells5 w15 _ _ _ _ _ _) (by unfold maxLen; omega) (by omega) (by simp only [World.size_alloc]; omega) (w15.heap.size + 1) (by simp) ?_
      intro g6 c6 w6 ho6 hg6 hor6 hlt6
      have hP := hL6.push hlb (x := [(i : Int), (k : Int), TX, TY, TD]) rfl hg6 ho6
      have hKP := (Fr.of_below hbZ6).trans (hL6.keeps (a' := some ⟨g6, 0, none⟩) (m' := m + 1) (c' := c6) hlb hg6)
      have hnb : g6 ≠ ba := by
       rcases hor6 with q | q
       · exact hoba g6 q
       · omega
      have oz : ∀ b, (Value.slice a m c).ownBlock = some b → b < bb ∧ b ≠ ba ∧ lb < b := fun b e => ⟨hown b e, hoba b e, by have := (hL6.own.lt b e).1; omega⟩
      have x6a : w6.cell? ⟨ba, 0, none⟩ = some (.int .i64 (i : Int)) := (hg6.cell_far ⟨ba, 0, none⟩ (by simp; omega) (fun e => (oz ba e.symm).2.1 rfl)).trans (by go_simp)
      have x6b : w6.cell? ⟨bb, 0, none⟩ = some (.int .i64 (k : Int)) := (hg6.cell_far ⟨bb, 0, none⟩ (by simp; omega) (fun e => by have := (oz bb e.symm).1; omega)).trans (by go_simp)
      have x6c : w6.cell? ⟨bh, 0, none⟩ = some (.int .i64 TX) := (hg6.cell_far ⟨bh, 0, none⟩ (by simp; omega) (fun e => by have := (oz bh e.symm).1; omega)).trans (by go_simp)
      have x6d : w6.cell? ⟨bh, 1, none⟩ = some (.int .i64 TY) := (hg6.cell_far ⟨bh, 1, none⟩ (by simp; omega) (fun e => by have := (oz bh e.symm).1; omega)).trans (by go_simp)
      have x6e : w6.cell? ⟨bh, 2, none⟩ = some (.int .i64 TD) := (hg6.cell_far ⟨bh, 2, none⟩ (by simp; omega) (fun e => by have := (oz bh e.symm).1; omega)).trans (by go_simp)
      have x6f : w6.cell? ⟨lb, 0, none⟩ = some (.slice a m c) := (hg6.cell_far ⟨lb, 0, none⟩ (by simp; omega) (fun e => by have := (oz lb e.symm).2.2; omega)).trans hL6.box
      have x6g : w6.frozen? ⟨lb, 0, none⟩ = false := (hg6.frozen_far ⟨lb, 0, none⟩ (by simp; omega) (fun e => by have := (oz lb e.symm).2.2; omega)).trans hL6.nf
      refine tr hK (fun hHeld => ?_) ⟨x6a, x6b, x6c, x6d, x6e⟩
      clear hK K
      refine tc 11 fun K hK => ?_
      (go_simp; refine tr hK (fun hHeld => ?_); clear hK K)
      refine wpAnyH_done (by kernel_rfl) ?_ _
      exact fin _ _ _ _ hP (fun b e => by simp only [Value.ownBlock, Option.some.injEq] at e; subst e; exact hnb) ((Fr.of_below hbZ).trans hKP) hyes.out
    · (go_simp; (go_at_call 44; refine (place_any _ _).mono ?_; rintro e w14 ⟨rfl, hb14⟩; obtain ⟨hc14, hf14⟩ := bcell hb14; have hz14 := hb14.size; (try simp only [World.size_drew, World.size_alloc, World.size_setCell] at hc14 hf14 hz14); have hk14x0 := fun o => hc14 (ba) o (by omega); have hj14x0 := fun o => hf14 (ba) o (by omega); have hq14x0 : ba < w14.heap.size := (by omega); have hk14x1 := fun o => hc14 (bb) o (by omega); have hj14x1 := fun o => hf14 (bb) o (by omega); have hq14x1 : bb < w14.heap.size := (by omega); have hk14x2 := fun o => hc14 (bh) o (by omega); have hj14x2 := fun o => hf14 (bh) o (by omega); have hq14x2 : bh < w14.heap.size := (by omega); have hk14x3 := fun o => hc14 (lb) o (by omega); have hj14x3 := fun o => hf14 (lb) o (by omega); have hq14x3 : lb < w14.heap.size := (by omega); clear hc14 hf14); (try go_wp2_with fail); refine tr hK (fun hHeld => ?_); clear hK K)
      refine wpAnyH_ready (rs := [0, 6]) (by kernel_rfl) (by simp) ?_
      refine AllReadyH.cons rfl (fun K hK => ?_) (AllReadyH.cons rfl (fun K hK => ?_) AllReadyH.nil)
      · (go_simp; refine tr hK (fun hHeld => ?_); clear hK K)
        refine tc 6 fun K hK => ?_
        (go_simp; (go_at_call 44; refine (place_any _ _).mono ?_; rintro e w15 ⟨rfl, hb15⟩; obtain ⟨hc15, hf15⟩ := bcell hb15; have hz15 := hb15.size; (try simp only [World.size_drew, World.size_alloc, World.size_setCell] at hc15 hf15 hz15); have hk15x0 := fun o => hc15 (ba) o (by omega); have hj15x0 := fun o => hf15 (ba) o (by omega); have hq15x0 : ba < w15.heap.size := (by omega); have hk15x1 := fun o => hc15 (bb) o (by omega); have hj15x1 := fun o => hf15 (bb) o (by omega); have hq15x1 : bb < w15.heap.size := (by omega); have hk15x2 := fun o => hc15 (bh) o (by omega); have hj15x2 := fun o => hf15 (bh) o (by omega); have hq15x2 : bh < w15.heap.size := (by omega); have hk15x3 := fun o => hc15 (lb) o (by omega); have hj15x3 := fun o => hf15 (lb) o (by omega); have hq15x3 : lb < w15.heap.size := (by omega); clear hc15 hf15); (try go_wp2_with fail); refine tr hK (fun hHeld => ?_); clear hK K)
        refine tq 8 hHeld ?_
        refine tc 9 fun K hK => ?_
        (go_simp; refine tr hK (fun hHeld => ?_); clear hK K)
        refine tc 10 fun K hK => ?_
        have hbZ5 : Below Z.heap.size Z w15 := hb14.ofDr.trans (hb15.mono hb14.size)
        have hbZ6 : Below Z.heap.size Z (w15.alloc (Obj.cells #[.int .i64 (i : Int), .int .i64 (k : Int), .int .i64 TX, .int .i64 TY, .int .i64 TD] 40)) := hbZ5.alloc hbZ5.size _
        have hL6 := hLZ.below hbZ6
        have hz6 := hbZ5.size
        refine step_appk (by rfl) _ _ _ (by rfl) w2.heap.size 40 5 40 (.agg #[.int .i64 0, .int .i64 0, .int .i64 0, .int .i64 0, .int .i64 0]) Tryz.underlying35 (by kernel_rfl) (by rfl) (by omega) (.slice a m c) m (ofL (conOut C n i ++ conIn C i k)) (by rfl) hL6.own w15.heap.size _ (ofL [(i : Int), (k : Int), TX, TY, TD]) (by rfl) (cells5 w15 _ _ _ _ _ _) (by unfold maxLen; omega) (by omega) (by simp only [World.size_alloc]; omega) (w15.heap.size + 1) (by simp) ?_
        intro g6 c6 w6 ho6 hg6 hor6 hlt6
        have hP := hL6.push hlb (x := [(i : Int), (k : Int), TX, TY, TD]) rfl hg6 ho6
        have hKP := (Fr.of_below hbZ6).trans (hL6.keeps (a' := some ⟨g6, 0, none⟩) (m' := m + 1) (c' := c6) hlb hg6)
        have hnb : g6 ≠ ba := by
         rcases hor6 with q | q
         · exact hoba g6 q
         · omega
        have oz : ∀ b, (Value.slice a m c).ownBlock = some b → b < bb ∧ b ≠ ba ∧ lb < b := fun b e => ⟨hown b e, hoba b e, by have := (hL6.own.lt b e).1; omega⟩
        have x6a : w6.cell? ⟨ba, 0, none⟩ = some (.int .i64 (i : Int)) := (hg6.cell_far ⟨ba, 0, none⟩ (by simp; omega) (fun e => (oz ba e.symm).2.1 rfl)).trans (by go_simp)
        have x6b : w6.cell? ⟨bb, 0, none⟩ = some (.int .i64 (k : Int)) := (hg6.cell_far ⟨bb, 0, none⟩ (by simp; omega) (fun e => by have := (oz bb e.symm).1; omega)).trans (by go_simp)
        have x6c : w6.cell? ⟨bh, 0, none⟩ = some (.int .i64 TX) := (hg6.cell_far ⟨bh, 0, none⟩ (by simp; omega) (fun e => by have := (oz bh e.symm).1; omega)).trans (by go_simp)
        have x6d : w6.cell? ⟨bh, 1, none⟩ = some (.int .i64 TY) := (hg6.cell_far ⟨bh, 1, none⟩ (by simp; omega) (fun e => by have := (oz bh e.symm).1; omega)).trans (by go_simp)
        have x6e : w6.cell? ⟨bh, 2, none⟩ = some (.int .i64 TD) := (hg6.cell_far ⟨bh, 2, none⟩ (by simp; omega) (fun e => by have := (oz bh e.symm).1; omega)).trans (by go_simp)
        have x6f : w6.cell? ⟨lb, 0, none⟩ = some (.slice a m c) := (hg6.cell_far ⟨lb, 0, none⟩ (by simp; omega) (fun e => by have := (oz lb e.symm).2.2; omega)).trans hL6.box
        have x6g : w6.frozen? ⟨lb, 0, none⟩ = false := (hg6.frozen_far ⟨lb, 0, none⟩ (by simp; omega) (fun e => by have := (oz lb e.symm).2.2; omega)).trans hL6.nf
        refine tr hK (fun hHeld => ?_) ⟨x6a, x6b, x6c, x6d, x6e⟩
        clear hK K
        refine tc 11 fun K hK => ?_
        (go_simp; refine tr hK (fun hHeld => ?_); clear hK K)
        refine wpAnyH_done (by kernel_rfl) ?_ _
        exact fin _ _ _ _ hP (fun b e => by simp only [Value.ownBlock, Option.some.injEq] at e; subst e; exact hnb) ((Fr.of_below hbZ).trans hKP) hyes.out
      · (go_simp; (go_at_call 44; refine (place_any _ _).mono ?_; rintro e w15 ⟨rfl, hb15⟩; obtain ⟨hc15, hf15⟩ := bcell hb15; have hz15 := hb15.size; (try simp only [World.size_drew, World.size_alloc, World.size_setCell] at hc15 hf15 hz15); have hk15x0 := fun o => hc15 (ba) o (by omega); have hj15x0 := fun o => hf15 (ba) o (by omega); have hq15x0 : ba < w15.heap.size := (by omega); have hk15x1 := fun o => hc15 (bb) o (by omega); have hj15x1 := fun o => hf15 (bb) o (by omega); have hq15x1 : bb < w15.heap.size := (by omega); have hk15x2 := fun o => hc15 (bh) o (by omega); have hj15x2 := fun o => hf15 (bh) o (by omega); have hq15x2 : bh < w15.heap.size := (by omega); have hk15x3 := fun o => hc15 (lb) o (by omega); have hj15x3 := fun o => hf15 (lb) o (by omega); have hq15x3 : lb < w15.heap.size := (by omega); clear hc15 hf15); (try go_wp2_with fail); refine tr hK (fun hHeld => ?_); clear hK K)
        refine tq 8 hHeld ?_
        refine wpAnyH_ready (rs := [0, 9]) (by kernel_rfl) (by simp) ?_
        refine AllReadyH.cons rfl (fun K hK => ?_) (AllReadyH.cons rfl (fun K hK => ?_) AllReadyH.nil)
        · (go_simp; refine tr hK (fun hHeld => ?_); clear hK K)
          refine tc 9 fun K hK => ?_
          (go_simp; refine tr hK (fun hHeld => ?_); clear hK K)
          refine tc 10 fun K hK => ?_
          have hbZ5 : Below Z.heap.size Z w15 := hb14.ofDr.trans (hb15.mono hb14.size)
          have hbZ6 : Below Z.heap.size Z (w15.alloc (Obj.cells #[.int .i64 (i : Int), .int .i64 (k : Int), .int .i64 TX, .int .i64 TY, .int .i64 TD] 40)) := hbZ5.alloc hbZ5.size _
          have hL6 := hLZ.below hbZ6
          have hz6 := hbZ5.size
          refine step_appk (by rfl) _ _ _ (by rfl) w2.heap.size 40 5 40 (.agg #[.int .i64 0, .int .i64 0, .int .i64 0, .int .i64 0, .int .i64 0]) Tryz.underlying35 (by kernel_rfl) (by rfl) (by omega) (.slice a m c) m (ofL (conOut C n i ++ conIn C i k)) (by rfl) hL6.own w15.heap.size _ (ofL [(i : Int), (k : Int), TX, TY, TD]) (by rfl) (cells5 w15 _ _ _ _ _ _) (by unfold maxLen; omega) (by omega) (by simp only [World.size_alloc]; omega) (w15.heap.size + 1) (by simp) ?_
          intro g6 c6 w6 ho6 hg6 hor6 hlt6
          have hP := hL6.push hlb (x := [(i : Int), (k : Int), TX, TY, TD]) rfl hg6 ho6
          have hKP := (Fr.of_below hbZ6).trans (hL6.keeps (a' := some ⟨g6, 0, none⟩) (m' := m + 1) (c' := c6) hlb hg6)
          have hnb : g6 ≠ ba := by
           rcases hor6 with q | q
           · exact hoba g6 q
           · omega
          have oz : ∀ b, (Value.slice a m c).ownBlock = some b → b < bb ∧ b ≠ ba ∧ lb < b := fun b e => ⟨hown b e, hoba b e, by have := (hL6.own.lt b e).1; omega⟩
          have x6a : w6.cell? ⟨ba, 0, none⟩ = some (.int .i64 (i : Int)) := (hg6.cell_far ⟨ba, 0, none⟩ (by simp; omega) (fun e => (oz ba e.symm).2.1 rfl)).trans (by go_simp)
          have x6b : w6.cell? ⟨bb, 0, none⟩ = some (.int .i64 (k : Int)) := (hg6.cell_far ⟨bb, 0, none⟩ (by simp; omega) (fun e => by have := (oz bb e.symm).1; omega)).trans (by go_simp)
          have x6c : w6.cell? ⟨bh, 0, none⟩ = some (.int .i64 TX) := (hg6.cell_far ⟨bh, 0, none⟩ (by simp; omega) (fun e => by have := (oz bh e.symm).1; omega)).trans (by go_simp)
          have x6d : w6.cell? ⟨bh, 1, none⟩ = some (.int .i64 TY) := (hg6.cell_far ⟨bh, 1, none⟩ (by simp; omega) (fun e => by have := (oz bh e.symm).1; omega)).trans (by go_simp)
          have x6e : w6.cell? ⟨bh, 2, none⟩ = some (.int .i64 TD) := (hg6.cell_far ⟨bh, 2, none⟩ (by simp; omega) (fun e => by have := (oz bh e.symm).1; omega)).trans (by go_simp)
          have x6f : w6.cell? ⟨lb, 0, none⟩ = some (.slice a m c) := (hg6.cell_far ⟨lb, 0, none⟩ (by simp; omega) (fun e => by have := (oz lb e.symm).2.2; omega)).trans hL6.box
          have x6g : w6.frozen? ⟨lb, 0, none⟩ = false := (hg6.frozen_far ⟨lb, 0, none⟩ (by simp; omega) (fun e => by have := (oz lb e.symm).2.2; omega)).trans hL6.nf
          refine tr hK (fun hHeld => ?_) ⟨x6a, x6b, x6c, x6d, x6e⟩
          clear hK K
          refine tc 11 fun K hK => ?_
          (go_simp; refine tr hK (fun hHeld => ?_); clear hK K)
          refine wpAnyH_done (by kernel_rfl) ?_ _
          exact fin _ _ _ _ hP (fun b e => by simp only [Value.ownBlock, Option.some.injEq] at e; subst e; exact hnb) ((Fr.of_below hbZ).trans hKP) hyes.out
        · (go_simp; refine tr hK (fun hHeld => ?_); clear hK K)
          refine tc 0 fun K hK => ?_
          (go_simp; refine tr hK (fun hHeld => ?_); clear hK K)
          refine tc 10 fun K hK => ?_
          have hbZ5 : Below Z.heap.size Z w15 := hb14.ofDr.trans (hb15.mono hb14.size)
          have hbZ6 : Below Z.heap.size Z (w15.alloc (Obj.cells #[.int .i64 (i : Int), .int .i64 (k : Int), .int .i64 TX, .int .i64 TY, .int .i64 TD] 40)) := hbZ5.alloc hbZ5.size _
          have hL6 := hLZ.below hbZ6
          have hz6 := hbZ5.size
          refine step_appk (by rfl) _ _ _ (by rfl) w2.heap.size 40 5 40 (.agg #[.int .i64 0, .int .i64 0, .int .i64 0, .int .i64 0, .int .i64 0]) Tryz.underlying35 (by kernel_rfl) (by rfl) (by omega) (.slice a m c) m (ofL (conOut C n i ++ conIn C i k)) (by rfl) hL6.own w15.heap.size _ (ofL [(i : Int), (k : Int), TX, TY, TD]) (by rfl) (cells5 w15 _ _ _ _ _ _) (by unfold maxLen; omega) (by omega) (by simp only [World.size_alloc]; omega) (w15.heap.size + 1) (by simp) ?_
          intro g6 c6 w6 ho6 hg6 hor6 hlt6
          have hP := hL6.push hlb (x := [(i : Int), (k : Int), TX, TY, TD]) rfl hg6 ho6
          have hKP := (Fr.of_below hbZ6).trans (hL6.keeps (a' := some ⟨g6, 0, none⟩) (m' := m + 1) (c' := c6) hlb hg6)
          have hnb : g6 ≠ ba := by
           rcases hor6 with q | q
           · exact hoba g6 q
           · omega
          have oz : ∀ b, (Value.slice a m c).ownBlock = some b → b < bb ∧ b ≠ ba ∧ lb < b := fun b e => ⟨hown b e, hoba b e, by have := (hL6.own.lt b e).1; omega⟩
          have x6a : w6.cell? ⟨ba, 0, none⟩ = some (.int .i64 (i : Int)) := (hg6.cell_far ⟨ba, 0, none⟩ (by simp; omega) (fun e => (oz ba e.symm).2.1 rfl)).trans (by go_simp)
          have x6b : w6.cell? ⟨bb, 0, none⟩ = some (.int .i64 (k : Int)) := (hg6.cell_far ⟨bb, 0, none⟩ (by simp; omega) (fun e => by have := (oz bb e.symm).1; omega)).trans (by go_simp)
          have x6c : w6.cell? ⟨bh, 0, none⟩ = some (.int .i64 TX) := (hg6.cell_far ⟨bh, 0, none⟩ (by simp; omega) (fun e => by have := (oz bh e.symm).1; omega)).trans (by go_simp)
          have x6d : w6.cell? ⟨bh, 1, none⟩ = some (.int .i64 TY) := (hg6.cell_far ⟨bh, 1, none⟩ (by simp; omega) (fun e => by have := (oz bh e.symm).1; omega)).trans (by go_simp)
          have x6e : w6.cell? ⟨bh, 2, none⟩ = some (.int .i64 TD) := (hg6.cell_far ⟨bh, 2, none⟩ (by simp; omega) (fun e => by have := (oz bh e.symm).1; omega)).trans (by go_simp)
          have x6f : w6.cell? ⟨lb, 0, none⟩ = some (.slice a m c) := (hg6.cell_far ⟨lb, 0, none⟩ (by simp; omega) (fun e => by have := (oz lb e.symm).2.2; omega)).trans hL6.box
          have x6g : w6.frozen? ⟨lb, 0, none⟩ = false := (hg6.frozen_far ⟨lb, 0, none⟩ (by simp; omega) (fun e => by have := (oz lb e.symm).2.2; omega)).trans hL6.nf
          refine tr hK (fun hHeld => ?_) ⟨x6a, x6b, x6c, x6d, x6e⟩
          clear hK K
          refine tc 11 fun K hK => ?_
          (go_simp; refine tr hK (fun hHeld => ?_); clear hK K)
          refine wpAnyH_done (by kernel_rfl) ?_ _
          exact fin _ _ _ _ hP (fun b e => by simp only [Value.ownBlock, Option.some.injEq] at e; subst e; exact hnb) ((Fr.of_below hbZ).trans hKP) hyes.out
 case done =>
  rintro D W hD ⟨a, m, c, hL⟩ hK
  have hbx := hL.box
  have hzW := hL.fr.size
  go_wp2
  refine marks_ret (B := w2.heap.size) hD rfl hK fun W' hS => ⟨.slice a m c, ?_, a, m, c, rfl, hL.len, ?_, ?_⟩
  · simp [results, Tryz.results23, go_sem, *]
  · exact (hE.trans (hL.fr.below (by omega) (fun b e => by omega))).trans (hS.below.mono (by omega))
  · exact (hL.own.sm hS).base (by omega)
def lenS (L : Nat → Nat) : Nat → Nat
 | 0 => 0
 | k + 1 => lenS L k + L k
abbrev zcBody : Value := .agg #[.int .i64 0, .int .i64 0, .int .i64 0, .int .i64 0, .int .i64 0, .int .i64 0, .int .i64 0, .int .i64 0, .int .i64 0, .int .i64 0, .int .i64 0, .int .i64 0]
theorem infoItBody : (Tryz.prog.info? 34).map (fun i => (i.zero, i.size, i.bytes)) = some (some zcBody, 12, 96) := by kernel_rfl
def catSBody (L : Nat → Nat) (X : Nat → Nat → Int) : Nat → Nat → Int
 | 0 => fun _ => 0
 | k + 1 => cat (lenS L k * 12) (catSBody L X k) (X k)
abbrev zcPair : Value := .agg #[.int .i64 0, .int .i64 0]
def catSPair (L : Nat → Nat) (X : Nat → Nat → Int) : Nat → Nat → Int
 | 0 => fun _ => 0
 | k + 1 => cat (lenS L k * 2) (catSPair L X k) (X k)
abbrev bodyW (V : Nat → Int) : Value := .agg #[.int .i64 (V 0), .int .i64 (V 1), .int .i64 (V 2), .int .i64 (V 3), .int .i64 (V 4), .int .i64 (V 5), .int .i64 (V 6), .int .i64 (V 7), .int .i64 (V 8), .int .i64 (V 9), .int .i64 (V 10), .int .i64 (V 11)]
theorem l1In_q (n l h : Int) (b : Bool) (w : World) (e : decide (l ≤ n ∧ n ≤ h) = b) :
 Calls Tryz.prog 38 #[.int .i64 n, .int .i64 l, .int .i64 h] w fun e w' => e = .returned (.bool b) ∧ Below w.heap.size w w' := by
 subst e; exact (l1In_any n l h w).mono fun e w' ⟨a, b⟩ => ⟨a, b ▸ Below.refl _ _⟩
theorem sShapeOk_q (k wd h : Int) (b : Bool) (w : World) (e : shB k wd h = b) :
 Calls Tryz.prog 39 #[s3 k wd h] w fun e w' => e = .returned (.bool b) ∧ Below w.heap.size w w' := by
 subst e; exact sShapeOk_any k wd h w
theorem l3Place_q (x y : Int) (b : Bool) (w : World) (e : inB 2560000 x y = b) :
 Calls Tryz.prog 40 #[vv x y] w fun e w' => e = .returned (.bool b) ∧ Below w.heap.size w w' := by
 subst e; exact l3Place_any x y w
theorem l6Drive_any (x y : Int) (w : World) :
 Calls Tryz.prog 41 #[vv x y] w fun e w' => e = .returned (.bool (inB 20000000 x y)) ∧ Below w.heap.size w w' := by
 have hset := cset_map
 go_enter Tryz.func41, Tryz.ntmps41
 go_wp2_with (go_at_call 38; refine (l1In_any _ _ _ _).mono ?_; rintro e w' ⟨rfl, rfl⟩)
 all_goals
  go_ret
  refine ⟨ret_bool ?_, bel_a⟩
  unfold inB
  first | (simp [*]; done) | (simp at *; omega) | (simp [*]; omega)
theorem l6Drive_q (x y : Int) (b : Bool) (w : World) (e : inB 20000000 x y = b) :
 Calls Tryz.prog 41 #[vv x y] w fun e w' => e = .returned (.bool b) ∧ Below w.heap.size w w' := by
 subst e; exact l6Drive_any x y w
theorem sBodyOk_0 (V : Nat → Int) (w : World) (k0 : decide (0 ≤ V 0 ∧ V 0 ≤ 999999999) = false) :
 Calls Tryz.prog 22 #[bodyW V] w fun e w' => e = .returned (.bool false) ∧ Below w.heap.size w w' := by
 have hset := cset_map
 go_enter Tryz.func22, Tryz.ntmps22
 go_wp2_with (first
  | (go_at_call 38; refine (l1In_q _ _ _ _ _ (by with_reducible assumption)).mono ?_; rintro e w1 ⟨rfl, hb1⟩; obtain ⟨hc1, hf1⟩ := bcell hb1; have hz1 := hb1.size; (try simp only [World.size_drew, World.size_alloc, World.size_setCell] at hc1 hf1 hz1); obtain ⟨hk1x0, hj1x0, hq1x0⟩ := kfa hb1 (w.heap.size); clear hc1 hf1)
  | (go_at_call 39; refine (sShapeOk_q _ _ _ _ _ (by with_reducible assumption)).mono ?_; rintro e w2 ⟨rfl, hb2⟩; obtain ⟨hc2, hf2⟩ := bcell hb2; have hz2 := hb2.size; (try simp only [World.size_drew, World.size_alloc, World.size_setCell] at hc2 hf2 hz2); obtain ⟨hk2x0, hj2x0, hq2x0⟩ := kfa hb2 (w.heap.size); clear hc2 hf2)
  | (go_at_call 40; refine (l3Place_q _ _ _ _ (by with_reducible assumption)).mono ?_; rintro e w3 ⟨rfl, hb3⟩; obtain ⟨hc3, hf3⟩ := bcell hb3; have hz3 := hb3.size; (try simp only [World.size_drew, World.size_alloc, World.size_setCell] at hc3 hf3 hz3); obtain ⟨hk3x0, hj3x0, hq3x0⟩ := kfa hb3 (w.heap.size); clear hc3 hf3)
  | (go_at_call 41; refine (l6Drive_q _ _ _ _ (by with_reducible assumption)).mono ?_; rintro e w4 ⟨rfl, hb4⟩; obtain ⟨hc4, hf4⟩ := bcell hb4; have hz4 := hb4.size; (try simp only [World.size_drew, World.size_alloc, World.size_setCell] at hc4 hf4 hz4); obtain ⟨hk4x0, hj4x0, hq4x0⟩ := kfa hb4 (w.heap.size); clear hc4 hf4))
 go_ret
 exact ⟨rfl, bel_a⟩
theorem sBodyOk_1 (V : Nat → Int) (w : World) (k0 : decide (0 ≤ V 0 ∧ V 0 ≤ 999999999) = true) (k1 : shB (V 1) (V 2) (V 3) = false) :
 Calls Tryz.prog 22 #[bodyW V] w fun e w' => e = .returned (.bool false) ∧ Below w.heap.size w w' := by
 have hset := cset_map
 go_enter Tryz.func22, Tryz.ntmps22
 go_wp2_with (first
  | (go_at_call 38; refine (l1In_q _ _ _ _ _ (by with_reducible assumption)).mono ?_; rintro e w1 ⟨rfl, hb1⟩; obtain ⟨hc1, hf1⟩ := bcell hb1; have hz1 := hb1.size; (try simp only [World.size_drew, World.size_alloc, World.size_setCell] at hc1 hf1 hz1); obtain ⟨hk1x0, hj1x0, hq1x0⟩ := kfa hb1 (w.heap.size); clear hc1 hf1)
  | (go_at_call 39; refine (sShapeOk_q _ _ _ _ _ (by with_reducible assumption)).mono ?_; rintro e w2 ⟨rfl, hb2⟩; obtain ⟨hc2, hf2⟩ := bcell hb2; have hz2 := hb2.size; (try simp only [World.size_drew, World.size_alloc, World.size_setCell] at hc2 hf2 hz2); obtain ⟨hk2x0, hj2x0, hq2x0⟩ := kfa hb2 (w.heap.size); clear hc2 hf2)
  | (go_at_call 40; refine (l3Place_q _ _ _ _ (by with_reducible assumption)).mono ?_; rintro e w3 ⟨rfl, hb3⟩; obtain ⟨hc3, hf3⟩ := bcell hb3; have hz3 := hb3.size; (try simp only [World.size_drew, World.size_alloc, World.size_setCell] at hc3 hf3 hz3); obtain ⟨hk3x0, hj3x0, hq3x0⟩ := kfa hb3 (w.heap.size); clear hc3 hf3)
  | (go_at_call 41; refine (l6Drive_q _ _ _ _ (by with_reducible assumption)).mono ?_; rintro e w4 ⟨rfl, hb4⟩; obtain ⟨hc4, hf4⟩ := bcell hb4; have hz4 := hb4.size; (try simp only [World.size_drew, World.size_alloc, World.size_setCell] at hc4 hf4 hz4); obtain ⟨hk4x0, hj4x0, hq4x0⟩ := kfa hb4 (w.heap.size); clear hc4 hf4))
 go_ret
 exact ⟨rfl, bel_a⟩
theorem sBodyOk_2 (V : Nat → Int) (w : World) (k0 : decide (0 ≤ V 0 ∧ V 0 ≤ 999999999) = true) (k1 : shB (V 1) (V 2) (V 3) = true) (k2 : inB 2560000 (V 4) (V 5) = false) :
 Calls Tryz.prog 22 #[bodyW V] w fun e w' => e = .returned (.bool false) ∧ Below w.heap.size w w' := by
 have hset := cset_map
 go_enter Tryz.func22, Tryz.ntmps22
 go_wp2_with (first
  | (go_at_call 38; refine (l1In_q _ _ _ _ _ (by with_reducible assumption)).mono ?_; rintro e w1 ⟨rfl, hb1⟩; obtain ⟨hc1, hf1⟩ := bcell hb1; have hz1 := hb1.size; (try simp only [World.size_drew, World.size_alloc, World.size_setCell] at hc1 hf1 hz1); obtain ⟨hk1x0, hj1x0, hq1x0⟩ := kfa hb1 (w.heap.size); clear hc1 hf1)
  | (go_at_call 39; refine (sShapeOk_q _ _ _ _ _ (by with_reducible assumption)).mono ?_; rintro e w2 ⟨rfl, hb2⟩; obtain ⟨hc2, hf2⟩ := bcell hb2; have hz2 := hb2.size; (try simp only [World.size_drew, World.size_alloc, World.size_setCell] at hc2 hf2 hz2); obtain ⟨hk2x0, hj2x0, hq2x0⟩ := kfa hb2 (w.heap.size); clear hc2 hf2)
  | (go_at_call 40; refine (l3Place_q _ _ _ _ (by with_reducible assumption)).mono ?_; rintro e w3 ⟨rfl, hb3⟩; obtain ⟨hc3, hf3⟩ := bcell hb3; have hz3 := hb3.size; (try simp only [World.size_drew, World.size_alloc, World.size_setCell] at hc3 hf3 hz3); obtain ⟨hk3x0, hj3x0, hq3x0⟩ := kfa hb3 (w.heap.size); clear hc3 hf3)
  | (go_at_call 41; refine (l6Drive_q _ _ _ _ (by with_reducible assumption)).mono ?_; rintro e w4 ⟨rfl, hb4⟩; obtain ⟨hc4, hf4⟩ := bcell hb4; have hz4 := hb4.size; (try simp only [World.size_drew, World.size_alloc, World.size_setCell] at hc4 hf4 hz4); obtain ⟨hk4x0, hj4x0, hq4x0⟩ := kfa hb4 (w.heap.size); clear hc4 hf4))
 go_ret
 exact ⟨rfl, bel_a⟩
theorem sBodyOk_3 (V : Nat → Int) (w : World) (k0 : decide (0 ≤ V 0 ∧ V 0 ≤ 999999999) = true) (k1 : shB (V 1) (V 2) (V 3) = true) (k2 : inB 2560000 (V 4) (V 5) = true) (k3 : inB 20000000 (V 6) (V 7) = false) :
 Calls Tryz.prog 22 #[bodyW V] w fun e w' => e = .returned (.bool false) ∧ Below w.heap.size w w' := by
 have hset := cset_map
 go_enter Tryz.func22, Tryz.ntmps22
 go_wp2_with (first
  | (go_at_call 38; refine (l1In_q _ _ _ _ _ (by with_reducible assumption)).mono ?_; rintro e w1 ⟨rfl, hb1⟩; obtain ⟨hc1, hf1⟩ := bcell hb1; have hz1 := hb1.size; (try simp only [World.size_drew, World.size_alloc, World.size_setCell] at hc1 hf1 hz1); obtain ⟨hk1x0, hj1x0, hq1x0⟩ := kfa hb1 (w.heap.size); clear hc1 hf1)
  | (go_at_call 39; refine (sShapeOk_q _ _ _ _ _ (by with_reducible assumption)).mono ?_; rintro e w2 ⟨rfl, hb2⟩; obtain ⟨hc2, hf2⟩ := bcell hb2; have hz2 := hb2.size; (try simp only [World.size_drew, World.size_alloc, World.size_setCell] at hc2 hf2 hz2); obtain ⟨hk2x0, hj2x0, hq2x0⟩ := kfa hb2 (w.heap.size); clear hc2 hf2)
  | (go_at_call 40; refine (l3Place_q _ _ _ _ (by with_reducible assumption)).mono ?_; rintro e w3 ⟨rfl, hb3⟩; obtain ⟨hc3, hf3⟩ := bcell hb3; have hz3 := hb3.size; (try simp only [World.size_drew, World.size_alloc, World.size_setCell] at hc3 hf3 hz3); obtain ⟨hk3x0, hj3x0, hq3x0⟩ := kfa hb3 (w.heap.size); clear hc3 hf3)
  | (go_at_call 41; refine (l6Drive_q _ _ _ _ (by with_reducible assumption)).mono ?_; rintro e w4 ⟨rfl, hb4⟩; obtain ⟨hc4, hf4⟩ := bcell hb4; have hz4 := hb4.size; (try simp only [World.size_drew, World.size_alloc, World.size_setCell] at hc4 hf4 hz4); obtain ⟨hk4x0, hj4x0, hq4x0⟩ := kfa hb4 (w.heap.size); clear hc4 hf4))
 go_ret
 exact ⟨rfl, bel_a⟩
theorem sBodyOk_4 (V : Nat → Int) (w : World) (k0 : decide (0 ≤ V 0 ∧ V 0 ≤ 999999999) = true) (k1 : shB (V 1) (V 2) (V 3) = true) (k2 : inB 2560000 (V 4) (V 5) = true) (k3 : inB 20000000 (V 6) (V 7) = true) (k4 : decide (0 ≤ V 8 ∧ V 8 ≤ 1000) = false) :
 Calls Tryz.prog 22 #[bodyW V] w fun e w' => e = .returned (.bool false) ∧ Below w.heap.size w w' := by
 have hset := cset_map
 go_enter Tryz.func22, Tryz.ntmps22
 go_wp2_with (first
  | (go_at_call 38; refine (l1In_q _ _ _ _ _ (by with_reducible assumption)).mono ?_; rintro e w1 ⟨rfl, hb1⟩; obtain ⟨hc1, hf1⟩ := bcell hb1; have hz1 := hb1.size; (try simp only [World.size_drew, World.size_alloc, World.size_setCell] at hc1 hf1 hz1); obtain ⟨hk1x0, hj1x0, hq1x0⟩ := kfa hb1 (w.heap.size); clear hc1 hf1)
  | (go_at_call 39; refine (sShapeOk_q _ _ _ _ _ (by with_reducible assumption)).mono ?_; rintro e w2 ⟨rfl, hb2⟩; obtain ⟨hc2, hf2⟩ := bcell hb2; have hz2 := hb2.size; (try simp only [World.size_drew, World.size_alloc, World.size_setCell] at hc2 hf2 hz2); obtain ⟨hk2x0, hj2x0, hq2x0⟩ := kfa hb2 (w.heap.size); clear hc2 hf2)
  | (go_at_call 40; refine (l3Place_q _ _ _ _ (by with_reducible assumption)).mono ?_; rintro e w3 ⟨rfl, hb3⟩; obtain ⟨hc3, hf3⟩ := bcell hb3; have hz3 := hb3.size; (try simp only [World.size_drew, World.size_alloc, World.size_setCell] at hc3 hf3 hz3); obtain ⟨hk3x0, hj3x0, hq3x0⟩ := kfa hb3 (w.heap.size); clear hc3 hf3)
  | (go_at_call 41; refine (l6Drive_q _ _ _ _ (by with_reducible assumption)).mono ?_; rintro e w4 ⟨rfl, hb4⟩; obtain ⟨hc4, hf4⟩ := bcell hb4; have hz4 := hb4.size; (try simp only [World.size_drew, World.size_alloc, World.size_setCell] at hc4 hf4 hz4); obtain ⟨hk4x0, hj4x0, hq4x0⟩ := kfa hb4 (w.heap.size); clear hc4 hf4))
 go_ret
 exact ⟨rfl, bel_a⟩
theorem sBodyOk_5 (V : Nat → Int) (w : World) (k0 : decide (0 ≤ V 0 ∧ V 0 ≤ 999999999) = true) (k1 : shB (V 1) (V 2) (V 3) = true) (k2 : inB 2560000 (V 4) (V 5) = true) (k3 : inB 20000000 (V 6) (V 7) = true) (k4 : decide (0 ≤ V 8 ∧ V 8 ≤ 1000) = true) (k5 : decide (0 ≤ V 9 ∧ V 9 ≤ 256) = false) :
 Calls Tryz.prog 22 #[bodyW V] w fun e w' => e = .returned (.bool false) ∧ Below w.heap.size w w' := by
 have hset := cset_map
 go_enter Tryz.func22, Tryz.ntmps22
 go_wp2_with (first
  | (go_at_call 38; refine (l1In_q _ _ _ _ _ (by with_reducible assumption)).mono ?_; rintro e w1 ⟨rfl, hb1⟩; obtain ⟨hc1, hf1⟩ := bcell hb1; have hz1 := hb1.size; (try simp only [World.size_drew, World.size_alloc, World.size_setCell] at hc1 hf1 hz1); obtain ⟨hk1x0, hj1x0, hq1x0⟩ := kfa hb1 (w.heap.size); clear hc1 hf1)
  | (go_at_call 39; refine (sShapeOk_q _ _ _ _ _ (by with_reducible assumption)).mono ?_; rintro e w2 ⟨rfl, hb2⟩; obtain ⟨hc2, hf2⟩ := bcell hb2; have hz2 := hb2.size; (try simp only [World.size_drew, World.size_alloc, World.size_setCell] at hc2 hf2 hz2); obtain ⟨hk2x0, hj2x0, hq2x0⟩ := kfa hb2 (w.heap.size); clear hc2 hf2)
  | (go_at_call 40; refine (l3Place_q _ _ _ _ (by with_reducible assumption)).mono ?_; rintro e w3 ⟨rfl, hb3⟩; obtain ⟨hc3, hf3⟩ := bcell hb3; have hz3 := hb3.size; (try simp only [World.size_drew, World.size_alloc, World.size_setCell] at hc3 hf3 hz3); obtain ⟨hk3x0, hj3x0, hq3x0⟩ := kfa hb3 (w.heap.size); clear hc3 hf3)
  | (go_at_call 41; refine (l6Drive_q _ _ _ _ (by with_reducible assumption)).mono ?_; rintro e w4 ⟨rfl, hb4⟩; obtain ⟨hc4, hf4⟩ := bcell hb4; have hz4 := hb4.size; (try simp only [World.size_drew, World.size_alloc, World.size_setCell] at hc4 hf4 hz4); obtain ⟨hk4x0, hj4x0, hq4x0⟩ := kfa hb4 (w.heap.size); clear hc4 hf4))
 go_ret
 exact ⟨rfl, bel_a⟩
theorem sBodyOk_6 (V : Nat → Int) (w : World) (k0 : decide (0 ≤ V 0 ∧ V 0 ≤ 999999999) = true) (k1 : shB (V 1) (V 2) (V 3) = true) (k2 : inB 2560000 (V 4) (V 5) = true) (k3 : inB 20000000 (V 6) (V 7) = true) (k4 : decide (0 ≤ V 8 ∧ V 8 ≤ 1000) = true) (k5 : decide (0 ≤ V 9 ∧ V 9 ≤ 256) = true) (k6 : decide (0 ≤ V 10 ∧ V 10 ≤ 256) = false) :
 Calls Tryz.prog 22 #[bodyW V] w fun e w' => e = .returned (.bool false) ∧ Below w.heap.size w w' := by
 have hset := cset_map
 go_enter Tryz.func22, Tryz.ntmps22
 go_wp2_with (first
  | (go_at_call 38; refine (l1In_q _ _ _ _ _ (by with_reducible assumption)).mono ?_; rintro e w1 ⟨rfl, hb1⟩; obtain ⟨hc1, hf1⟩ := bcell hb1; have hz1 := hb1.size; (try simp only [World.size_drew, World.size_alloc, World.size_setCell] at hc1 hf1 hz1); obtain ⟨hk1x0, hj1x0, hq1x0⟩ := kfa hb1 (w.heap.size); clear hc1 hf1)
  | (go_at_call 39; refine (sShapeOk_q _ _ _ _ _ (by with_reducible assumption)).mono ?_; rintro e w2 ⟨rfl, hb2⟩; obtain ⟨hc2, hf2⟩ := bcell hb2; have hz2 := hb2.size; (try simp only [World.size_drew, World.size_alloc, World.size_setCell] at hc2 hf2 hz2); obtain ⟨hk2x0, hj2x0, hq2x0⟩ := kfa hb2 (w.heap.size); clear hc2 hf2)
  | (go_at_call 40; refine (l3Place_q _ _ _ _ (by with_reducible assumption)).mono ?_; rintro e w3 ⟨rfl, hb3⟩; obtain ⟨hc3, hf3⟩ := bcell hb3; have hz3 := hb3.size; (try simp only [World.size_drew, World.size_alloc, World.size_setCell] at hc3 hf3 hz3); obtain ⟨hk3x0, hj3x0, hq3x0⟩ := kfa hb3 (w.heap.size); clear hc3 hf3)
  | (go_at_call 41; refine (l6Drive_q _ _ _ _ (by with_reducible assumption)).mono ?_; rintro e w4 ⟨rfl, hb4⟩; obtain ⟨hc4, hf4⟩ := bcell hb4; have hz4 := hb4.size; (try simp only [World.size_drew, World.size_alloc, World.size_setCell] at hc4 hf4 hz4); obtain ⟨hk4x0, hj4x0, hq4x0⟩ := kfa hb4 (w.heap.size); clear hc4 hf4))
 go_ret
 exact ⟨rfl, bel_a⟩
theorem sBodyOk_7 (V : Nat → Int) (w : World) (k0 : decide (0 ≤ V 0 ∧ V 0 ≤ 999999999) = true) (k1 : shB (V 1) (V 2) (V 3) = true) (k2 : inB 2560000 (V 4) (V 5) = true) (k3 : inB 20000000 (V 6) (V 7) = true) (k4 : decide (0 ≤ V 8 ∧ V 8 ≤ 1000) = true) (k5 : decide (0 ≤ V 9 ∧ V 9 ≤ 256) = true) (k6 : decide (0 ≤ V 10 ∧ V 10 ≤ 256) = true) (k7 : decide (0 ≤ V 11 ∧ V 11 ≤ 8) = false) :
 Calls Tryz.prog 22 #[bodyW V] w fun e w' => e = .returned (.bool false) ∧ Below w.heap.size w w' := by
 have hset := cset_map
 go_enter Tryz.func22, Tryz.ntmps22
 go_wp2_with (first
  | (go_at_call 38; refine (l1In_q _ _ _ _ _ (by with_reducible assumption)).mono ?_; rintro e w1 ⟨rfl, hb1⟩; obtain ⟨hc1, hf1⟩ := bcell hb1; have hz1 := hb1.size; (try simp only [World.size_drew, World.size_alloc, World.size_setCell] at hc1 hf1 hz1); obtain ⟨hk1x0, hj1x0, hq1x0⟩ := kfa hb1 (w.heap.size); clear hc1 hf1)
  | (go_at_call 39; refine (sShapeOk_q _ _ _ _ _ (by with_reducible assumption)).mono ?_; rintro e w2 ⟨rfl, hb2⟩; obtain ⟨hc2, hf2⟩ := bcell hb2; have hz2 := hb2.size; (try simp only [World.size_drew, World.size_alloc, World.size_setCell] at hc2 hf2 hz2); obtain ⟨hk2x0, hj2x0, hq2x0⟩ := kfa hb2 (w.heap.size); clear hc2 hf2)
  | (go_at_call 40; refine (l3Place_q _ _ _ _ (by with_reducible assumption)).mono ?_; rintro e w3 ⟨rfl, hb3⟩; obtain ⟨hc3, hf3⟩ := bcell hb3; have hz3 := hb3.size; (try simp only [World.size_drew, World.size_alloc, World.size_setCell] at hc3 hf3 hz3); obtain ⟨hk3x0, hj3x0, hq3x0⟩ := kfa hb3 (w.heap.size); clear hc3 hf3)
  | (go_at_call 41; refine (l6Drive_q _ _ _ _ (by with_reducible assumption)).mono ?_; rintro e w4 ⟨rfl, hb4⟩; obtain ⟨hc4, hf4⟩ := bcell hb4; have hz4 := hb4.size; (try simp only [World.size_drew, World.size_alloc, World.size_setCell] at hc4 hf4 hz4); obtain ⟨hk4x0, hj4x0, hq4x0⟩ := kfa hb4 (w.heap.size); clear hc4 hf4))
 go_ret
 exact ⟨rfl, bel_a⟩
theorem sBodyOk_8 (V : Nat → Int) (w : World) (k0 : decide (0 ≤ V 0 ∧ V 0 ≤ 999999999) = true) (k1 : shB (V 1) (V 2) (V 3) = true) (k2 : inB 2560000 (V 4) (V 5) = true) (k3 : inB 20000000 (V 6) (V 7) = true) (k4 : decide (0 ≤ V 8 ∧ V 8 ≤ 1000) = true) (k5 : decide (0 ≤ V 9 ∧ V 9 ≤ 256) = true) (k6 : decide (0 ≤ V 10 ∧ V 10 ≤ 256) = true) (k7 : decide (0 ≤ V 11 ∧ V 11 ≤ 8) = true) :
 Calls Tryz.prog 22 #[bodyW V] w fun e w' => e = .returned (.bool (restB V)) ∧ Below w.heap.size w w' := by
 have hset := cset_map
 have k7' := k7
 simp only [decide_eq_true_eq] at k7'
 obtain ⟨k70, k71⟩ := k7'
 unfold restB
 go_enter Tryz.func22, Tryz.ntmps22
 go_upto_region 3 with (first
  | (go_at_call 38; refine (l1In_q _ _ _ _ _ (by with_reducible assumption)).mono ?_; rintro e w1 ⟨rfl, hb1⟩; obtain ⟨hc1, hf1⟩ := bcell hb1; have hz1 := hb1.size; (try simp only [World.size_drew, World.size_alloc, World.size_setCell] at hc1 hf1 hz1); obtain ⟨hk1x0, hj1x0, hq1x0⟩ := kfa hb1 (w.heap.size); clear hc1 hf1)
  | (go_at_call 39; refine (sShapeOk_q _ _ _ _ _ (by with_reducible assumption)).mono ?_; rintro e w2 ⟨rfl, hb2⟩; obtain ⟨hc2, hf2⟩ := bcell hb2; have hz2 := hb2.size; (try simp only [World.size_drew, World.size_alloc, World.size_setCell] at hc2 hf2 hz2); obtain ⟨hk2x0, hj2x0, hq2x0⟩ := kfa hb2 (w.heap.size); clear hc2 hf2)
  | (go_at_call 40; refine (l3Place_q _ _ _ _ (by with_reducible assumption)).mono ?_; rintro e w3 ⟨rfl, hb3⟩; obtain ⟨hc3, hf3⟩ := bcell hb3; have hz3 := hb3.size; (try simp only [World.size_drew, World.size_alloc, World.size_setCell] at hc3 hf3 hz3); obtain ⟨hk3x0, hj3x0, hq3x0⟩ := kfa hb3 (w.heap.size); clear hc3 hf3)
  | (go_at_call 41; refine (l6Drive_q _ _ _ _ (by with_reducible assumption)).mono ?_; rintro e w4 ⟨rfl, hb4⟩; obtain ⟨hc4, hf4⟩ := bcell hb4; have hz4 := hb4.size; (try simp only [World.size_drew, World.size_alloc, World.size_setCell] at hc4 hf4 hz4); obtain ⟨hk4x0, hj4x0, hq4x0⟩ := kfa hb4 (w.heap.size); clear hc4 hf4))
 clear k0 k1 k2 k3 k4 k5 k6 k7
 by_cases f8 : V 8 = 0 <;> by_cases f11 : V 11 = 0 <;> by_cases f88 : V 11 < 8 <;> by_cases f6 : V 6 = 0 <;> by_cases f7 : V 7 = 0
 all_goals (try (exfalso; omega))
 all_goals
  have f9 : (V 11 = 8) = (¬ V 11 < 8) := propext (by omega)
  go_wp2_with fail
  all_goals
   go_ret
   exact ⟨ret_bool (by simp [*]), bel_a⟩
theorem sBodyOk_q (V : Nat → Int) (b : Bool) (w : World) (e : bodyB V = b) :
 Calls Tryz.prog 22 #[bodyW V] w fun e w' => e = .returned (.bool b) ∧ Below w.heap.size w w' := by
 subst e
 unfold bodyB
 cases k0 : decide (0 ≤ V 0 ∧ V 0 ≤ 999999999) with
 | false => exact sBodyOk_0 V w k0
 | true =>
  cases k1 : shB (V 1) (V 2) (V 3) with
  | false => exact sBodyOk_1 V w k0 k1
  | true =>
   cases k2 : inB 2560000 (V 4) (V 5) with
   | false => exact sBodyOk_2 V w k0 k1 k2
   | true =>
    cases k3 : inB 20000000 (V 6) (V 7) with
    | false => exact sBodyOk_3 V w k0 k1 k2 k3
    | true =>
     cases k4 : decide (0 ≤ V 8 ∧ V 8 ≤ 1000) with
     | false => exact sBodyOk_4 V w k0 k1 k2 k3 k4
     | true =>
      cases k5 : decide (0 ≤ V 9 ∧ V 9 ≤ 256) with
      | false => exact sBodyOk_5 V w k0 k1 k2 k3 k4 k5
      | true =>
       cases k6 : decide (0 ≤ V 10 ∧ V 10 ≤ 256) with
       | false => exact sBodyOk_6 V w k0 k1 k2 k3 k4 k5 k6
       | true =>
        cases k7 : decide (0 ≤ V 11 ∧ V 11 ≤ 8) with
        | false => exact sBodyOk_7 V w k0 k1 k2 k3 k4 k5 k6 k7
        | true =>
         simp only [Bool.true_and]
         exact sBodyOk_8 V w k0 k1 k2 k3 k4 k5 k6 k7
theorem bodyB_bd {V : Nat → Int} (h : bodyB V = true) : (0 ≤ V 8 ∧ V 8 ≤ 1000) ∧ (0 ≤ V 11 ∧ V 11 ≤ 8) ∧ (-2560000 ≤ V 4 ∧ V 4 ≤ 2560000) ∧ (-2560000 ≤ V 5 ∧ V 5 ≤ 2560000) ∧ (-20000000 ≤ V 6 ∧ V 6 ≤ 20000000) ∧ (-20000000 ≤ V 7 ∧ V 7 ≤ 20000000) ∧ (0 ≤ V 9 ∧ V 9 ≤ 256) ∧ (0 ≤ V 10 ∧ V 10 ≤ 256) ∧ shB (V 1) (V 2) (V 3) = true ∧ restB V = true := by
 unfold bodyB at h
 simp only [Bool.and_eq_true, decide_eq_true_eq] at h
 obtain ⟨a0, a1, a2, a3, a4, a5, a6, a7, a8⟩ := h
 obtain ⟨p1, p2⟩ := inB_of a2
 obtain ⟨q1, q2⟩ := inB_of a3
 exact ⟨a4, a7, p1, p2, q1, q2, a5, a6, a1, a8⟩
def spX (V : Nat → Int) : Int := if V 8 = 0 then 0 else (V 6).tdiv (V 8)
def spY (V : Nat → Int) : Int := if V 8 = 0 then 0 else (V 7).tdiv (V 8)
end Go.Proofs.YtalkkjhehndaoaaGreat
namespace Go.Proofs.YtalkkjhehndaoaaGreat
open Go.RowKit
set_option linter.unusedVariables false
set_option linter.unusedSimpArgs false
theorem OwnL.fresh0 (w : World) (base t k : Nat) (U : Nat → Int) (s : Nat) (e : w.heap.size = s) (h : base ≤ w.heap.size) : OwnL (w.alloc (.cells #[] t)) base t k (.slice (Option.some ⟨s, 0, none⟩) 0 0) 0 U := by
 subst e
 exact ⟨by simp [numL], .inr ⟨w.heap.size, 0, #[], rfl, h, Go.Deep.blk_alloc_new _ _, Nat.le_refl _, Nat.zero_le _, by simp, by simp [numL]⟩⟩
theorem OwnL.drewO {w : World} {base t k n : Nat} {v : Value} {U : Nat → Int} (h : OwnL w base t k v n U) : OwnL w.drew base t k v n U := World.ownsRow.drew h
theorem cat_0 (k : Nat) (X Y : Nat → Int) : ∀ q, cat (0 * k) X Y q = Y q := by intro q; simp [cat]
section
variable {P : Program} {ops : Array Oper} {o : Oper} {a : Act} {w : World} {Q : Exit → Act → World → Prop}
theorem wpList_app0 {rest : List Oper} (hgd : o.guard = none) (s x : Operand) (t : TypeId) (ho : o.op = .call { callee := .builtin .append, args := #[s, x], argTypes := #[t, t] })
 (base e k bytes : Nat) (z : Value) (ht : P.underlying t = some (.slice e)) (hinfo : (P.info? e).map (fun i => (i.zero, i.size, i.bytes)) = some (some z, k, bytes)) (hzs : z.cells.size = k) (hk : 0 < k)
 (v : Value) (U : Nat → Int) (hs : a.eval s = v) (h : OwnL w base e k v 0 U) (ad : Option Addr) (m c : Nat) (X : Nat → Int) (hxx : a.eval x = .slice ad m c) (hx : Flat w ad (m * k) X)
 (h63 : m ≤ maxLen) (hbytes : m * bytes ≤ 140737488355328) (hbase : base ≤ w.heap.size)
 (hK : ∀ a' c' w', OwnL w' base e k (.slice a' m c') m X → w.grownBy w' v.ownBlock → wpList P ops Q rest (a.put o.dst (.slice a' m c')) w') : wpList P ops Q (o :: rest) a w :=
 wpList_app hgd s x t ho base e k bytes z ht hinfo hzs hk v 0 U hs h ad m c X hxx hx (by rw [Nat.zero_add]; exact h63) (by rw [Nat.zero_add]; exact hbytes) hbase fun a' c' w' h1 h2 => by
  rw [Nat.zero_add] at h1 ⊢
  exact hK a' c' w' (h1.congr fun q _ => cat_0 k _ _ q) h2
end
theorem l8Copy_any (a : Option Addr) (n c : Nat) (U : Nat → Int) (w : World) (h : Flat w a (n * 12) U) (hn : n ≤ 1048576) :
 Calls Tryz.prog 99 #[.slice a n c] w fun e w' => ∃ a1 c1, e = .returned (.slice a1 n c1) ∧ OutL w w' 34 12 a1 n c1 U := by
 have hset := cset_map
 have hE : Below w.heap.size w (w.alloc (.cells #[] 34)) := (Below.refl _ _).alloc (Nat.le_refl _) _
 have ho := OwnL.fresh0 w w.heap.size 34 12 (fun _ => 0) _ rfl (Nat.le_refl _)
 go_enter Tryz.func99, Tryz.ntmps99
 go_wp2_with (refine wpList_app0 rfl _ _ _ rfl w.heap.size 34 12 96 zcBody Tryz.underlying23 infoItBody rfl (by decide) _ (fun _ => 0) rfl ho _ n _ U rfl (h.below hE) (by unfold maxLen; omega) (by omega) (by simp) ?_; intro a1 c1 w1 ho1 hg1)
 go_ret
 exact ⟨_, _, rfl, hE.grown hg1 (by simp) (fun b e => (ho.lt b e).1), ho1⟩
def putRow (U : Nat → Int) (p : Nat) (V : Nat → Int) : Nat → Int := fun q => if p * 12 ≤ q ∧ q < p * 12 + 12 then V (q - p * 12) else U q
theorem put12 {w4 : World} {base n g c p : Nat} {U : Nat → Int} (h : OwnL w4 base 34 12 (.slice (some ⟨g, 0, none⟩) n c) n U) (hp : p < n) (V : Nat → Int) :
 OwnL ((((((((((((w4.setCell ⟨g, p * 12, none⟩ (.int .i64 (V 0))).setCell ⟨g, p * 12 + 1, none⟩ (.int .i64 (V 1))).setCell ⟨g, p * 12 + 2, none⟩ (.int .i64 (V 2))).setCell ⟨g, p * 12 + 3, none⟩ (.int .i64 (V 3))).setCell ⟨g, p * 12 + 4, none⟩ (.int .i64 (V 4))).setCell ⟨g, p * 12 + 5, none⟩ (.int .i64 (V 5))).setCell ⟨g, p * 12 + 6, none⟩ (.int .i64 (V 6))).setCell ⟨g, p * 12 + 7, none⟩ (.int .i64 (V 7))).setCell ⟨g, p * 12 + 8, none⟩ (.int .i64 (V 8))).setCell ⟨g, p * 12 + 9, none⟩ (.int .i64 (V 9))).setCell ⟨g, p * 12 + 10, none⟩ (.int .i64 (V 10))).setCell ⟨g, p * 12 + 11, none⟩ (.int .i64 (V 11))) base 34 12 (.slice (some ⟨g, 0, none⟩) n c) n (putRow U p V) := by
 have q1 := h.setq (p * 12) (by omega) (V 0)
 have q2 := q1.setq (p * 12 + 1) (by omega) (V 1)
 have q3 := q2.setq (p * 12 + 2) (by omega) (V 2)
 have q4 := q3.setq (p * 12 + 3) (by omega) (V 3)
 have q5 := q4.setq (p * 12 + 4) (by omega) (V 4)
 have q6 := q5.setq (p * 12 + 5) (by omega) (V 5)
 have q7 := q6.setq (p * 12 + 6) (by omega) (V 6)
 have q8 := q7.setq (p * 12 + 7) (by omega) (V 7)
 have q9 := q8.setq (p * 12 + 8) (by omega) (V 8)
 have q10 := q9.setq (p * 12 + 9) (by omega) (V 9)
 have q11 := q10.setq (p * 12 + 10) (by omega) (V 10)
 have q12 := q11.setq (p * 12 + 11) (by omega) (V 11)
 refine q12.congr fun q _ => ?_
 unfold putRow
 by_cases e : p * 12 ≤ q ∧ q < p * 12 + 12
 · rw [if_pos e]
   obtain ⟨d, rfl⟩ : ∃ d, q = p * 12 + d := ⟨q - p * 12, by omega⟩
   rw [Nat.add_sub_cancel_left]
   rcases (show d = 0 ∨ d = 1 ∨ d = 2 ∨ d = 3 ∨ d = 4 ∨ d = 5 ∨ d = 6 ∨ d = 7 ∨ d = 8 ∨ d = 9 ∨ d = 10 ∨ d = 11 by omega) with rfl | rfl | rfl | rfl | rfl | rfl | rfl | rfl | rfl | rfl | rfl | rfl <;> simp
 · rw [if_neg e]
   repeat rw [if_neg (by omega)]
theorem putFr {w4 : World} {g p : Nat} (V : Nat → Int) : Fr (fun b => b = g) w4 ((((((((((((w4.setCell ⟨g, p * 12, none⟩ (.int .i64 (V 0))).setCell ⟨g, p * 12 + 1, none⟩ (.int .i64 (V 1))).setCell ⟨g, p * 12 + 2, none⟩ (.int .i64 (V 2))).setCell ⟨g, p * 12 + 3, none⟩ (.int .i64 (V 3))).setCell ⟨g, p * 12 + 4, none⟩ (.int .i64 (V 4))).setCell ⟨g, p * 12 + 5, none⟩ (.int .i64 (V 5))).setCell ⟨g, p * 12 + 6, none⟩ (.int .i64 (V 6))).setCell ⟨g, p * 12 + 7, none⟩ (.int .i64 (V 7))).setCell ⟨g, p * 12 + 8, none⟩ (.int .i64 (V 8))).setCell ⟨g, p * 12 + 9, none⟩ (.int .i64 (V 9))).setCell ⟨g, p * 12 + 10, none⟩ (.int .i64 (V 10))).setCell ⟨g, p * 12 + 11, none⟩ (.int .i64 (V 11))) :=
 (((((((((((((Fr.refl (fun b => b = g) w4).trans (Fr.setCell (X := fun b => b = g) rfl _)).trans (Fr.setCell (X := fun b => b = g) rfl _)).trans (Fr.setCell (X := fun b => b = g) rfl _)).trans (Fr.setCell (X := fun b => b = g) rfl _)).trans (Fr.setCell (X := fun b => b = g) rfl _)).trans (Fr.setCell (X := fun b => b = g) rfl _)).trans (Fr.setCell (X := fun b => b = g) rfl _)).trans (Fr.setCell (X := fun b => b = g) rfl _)).trans (Fr.setCell (X := fun b => b = g) rfl _)).trans (Fr.setCell (X := fun b => b = g) rfl _)).trans (Fr.setCell (X := fun b => b = g) rfl _)).trans (Fr.setCell (X := fun b => b = g) rfl _))
theorem OutL.on {w w1 w2 : World} {t k n c : Nat} {a : Option Addr} {R : Nat → Int} (h : OutL w w1 t k a n c R) (hb : Below w1.heap.size w1 w2) : OutL w w2 t k a n c R := ⟨h.bel.trans (hb.mono h.bel.size), h.own.below hb⟩
theorem l6Sleeps_k (V : Nat → Int) (w : World) (b : Bool) (e : decide (8 ≤ V 11) = b) :
 Calls Tryz.prog 47 #[bodyW V] w fun e w' => e = .returned (.bool b) ∧ Below w.heap.size w w' := by
 have hset := cset_map
 subst e
 go_enter Tryz.func47, Tryz.ntmps47
 go_wp2_with fail
 go_ret
 exact ⟨ret_bool (by simp), bel_a⟩
theorem l6Speed_any (V : Nat → Int) (w : World) (b6 : -20000000 ≤ V 6 ∧ V 6 ≤ 20000000) (b7 : -20000000 ≤ V 7 ∧ V 7 ≤ 20000000) :
 Calls Tryz.prog 103 #[bodyW V] w fun e w' => e = .returned (vv (spX V) (spY V)) ∧ Below w.heap.size w w' := by
 have t6 := tdiv_bd (x := V 6) (B := 20000000) (V 8) (by omega)
 have t7 := tdiv_bd (x := V 7) (B := 20000000) (V 8) (by omega)
 have e6 : IntKind.i64.wrap ((V 6).tdiv (V 8)) = (V 6).tdiv (V 8) := i64w (by omega)
 have e7 : IntKind.i64.wrap ((V 7).tdiv (V 8)) = (V 7).tdiv (V 8) := i64w (by omega)
 have hset := cset_map
 unfold spX spY
 by_cases m : V 8 = 0
 · rw [if_pos m, if_pos m]
   go_enter Tryz.func103, Tryz.ntmps103
   go_wp2_with fail
   exact bodyPost_ret (v := vv 0 0) (by simp [results, Tryz.results103, go_sem, *]) rfl ⟨rfl, bel_a⟩
 · rw [if_neg m, if_neg m]
   go_enter Tryz.func103, Tryz.ntmps103
   go_upto_region 3 with fail
   refine wp_region_held_drew (S := fun w' => w'.cell? ⟨w.heap.size, 0, none⟩ = some (.int .i64 (V 0)) ∧ w'.cell? ⟨w.heap.size, 1, none⟩ = some (.int .i64 (V 1)) ∧ w'.cell? ⟨w.heap.size, 2, none⟩ = some (.int .i64 (V 2)) ∧ w'.cell? ⟨w.heap.size, 3, none⟩ = some (.int .i64 (V 3)) ∧ w'.cell? ⟨w.heap.size, 4, none⟩ = some (.int .i64 (V 4)) ∧ w'.cell? ⟨w.heap.size, 5, none⟩ = some (.int .i64 (V 5)) ∧ w'.cell? ⟨w.heap.size, 6, none⟩ = some (.int .i64 (V 6)) ∧ w'.cell? ⟨w.heap.size, 7, none⟩ = some (.int .i64 (V 7)) ∧ w'.cell? ⟨w.heap.size, 8, none⟩ = some (.int .i64 (V 8)) ∧ w'.cell? ⟨w.heap.size, 9, none⟩ = some (.int .i64 (V 9)) ∧ w'.cell? ⟨w.heap.size, 10, none⟩ = some (.int .i64 (V 10)) ∧ w'.cell? ⟨w.heap.size, 11, none⟩ = some (.int .i64 (V 11))) (by kernel_rfl) ?_ (fun hHeld => ?_)
   · (try dsimp only)
     (first | (go_simp; done) | (go_keep; done))
   refine tq 0 hHeld ?_
   refine tq 1 hHeld ?_
   refine tq 2 hHeld ?_
   refine tq 3 hHeld ?_
   refine tq 4 hHeld ?_
   refine tq 5 hHeld ?_
   refine tq 6 hHeld ?_
   refine tq 7 hHeld ?_
   refine tq 8 hHeld ?_
   refine tq 9 hHeld ?_
   refine tq 10 hHeld ?_
   refine tq 11 hHeld ?_
   refine tq 12 hHeld ?_
   (refine tc 13 fun K hK => ?_; go_simp; refine tr hK (fun hHeld => ?_); clear hK K)
   refine wpAnyH_done (by kernel_rfl) ?_ _
   go_wp2_with fail
   exact bodyPost_ret (v := vv ((V 6).tdiv (V 8)) ((V 7).tdiv (V 8))) (by simp [results, Tryz.results103, go_sem, *]) rfl ⟨rfl, bel_a⟩
end Go.Proofs.YtalkkjhehndaoaaGreat
namespace Go.Proofs.YtalkkjhehndaoaaGreat
open Go.RowKit
set_option linter.unusedVariables false
set_option linter.unusedSimpArgs false
def mapR (f : Nat → (Nat → Int) → Nat → Int) (U : Nat → Int) (k : Nat) : Nat → Int := fun q => if q < k * 12 then f (q / 12) (fun j => U (q / 12 * 12 + j)) (q % 12) else U q
theorem mapR_0 (f : Nat → (Nat → Int) → Nat → Int) (U : Nat → Int) : mapR f U 0 = U := by funext q; unfold mapR; rw [if_neg (by omega)]
theorem mapR_row (f : Nat → (Nat → Int) → Nat → Int) (U : Nat → Int) (k j : Nat) : mapR f U k (k * 12 + j) = U (k * 12 + j) := by unfold mapR; rw [if_neg (by omega)]
theorem mapR_in {f : Nat → (Nat → Int) → Nat → Int} {U : Nat → Int} {k n j : Nat} (h : k < n) (hj : j < 12) : mapR f U n (k * 12 + j) = f k (fun j => U (k * 12 + j)) j := by
 unfold mapR
 rw [if_pos (by omega), show (k * 12 + j) / 12 = k by omega, show (k * 12 + j) % 12 = j by omega]
theorem mapR_set (f : Nat → (Nat → Int) → Nat → Int) (U : Nat → Int) (k : Nat) : putRow (mapR f U k) k (f k (fun j => U (k * 12 + j))) = mapR f U (k + 1) := by
 funext q
 unfold putRow
 by_cases h : k * 12 ≤ q ∧ q < k * 12 + 12
 · rw [if_pos h]
   obtain ⟨d, rfl⟩ : ∃ d, q = k * 12 + d := ⟨q - k * 12, by omega⟩
   rw [mapR_in (by omega) (by omega), Nat.add_sub_cancel_left]
 · rw [if_neg h]
   unfold mapR
   by_cases l : q < k * 12
   · rw [if_pos l, if_pos (by omega)]
   · rw [if_neg l, if_neg (by omega)]
theorem mapR_same {f : Nat → (Nat → Int) → Nat → Int} {U : Nat → Int} {k : Nat} (h : ∀ j, j < 12 → f k (fun j => U (k * 12 + j)) j = U (k * 12 + j)) : mapR f U (k + 1) = mapR f U k := by
 rw [← mapR_set]
 funext q
 unfold putRow
 by_cases e : k * 12 ≤ q ∧ q < k * 12 + 12
 · rw [if_pos e]
   obtain ⟨d, rfl⟩ : ∃ d, q = k * 12 + d := ⟨q - k * 12, by omega⟩
   rw [Nat.add_sub_cancel_left, h d (by omega), mapR_row]
 · rw [if_neg e]
theorem mapR_one {f : Nat → (Nat → Int) → Nat → Int} {U : Nat → Int} {k j : Nat} {x : Int} (hj : j < 12) (h : ∀ i, i < 12 → f k (fun j => U (k * 12 + j)) i = if i = j then x else U (k * 12 + i)) : (fun r => if r = k * 12 + j then x else mapR f U k r) = mapR f U (k + 1) := by
 rw [← mapR_set]
 funext q
 unfold putRow
 by_cases e : k * 12 ≤ q ∧ q < k * 12 + 12
 · rw [if_pos e]
   obtain ⟨d, rfl⟩ : ∃ d, q = k * 12 + d := ⟨q - k * 12, by omega⟩
   rw [Nat.add_sub_cancel_left, h d (by omega), mapR_row]
   by_cases e2 : d = j
   · rw [if_pos e2, if_pos (by omega)]
   · rw [if_neg e2, if_neg (by omega)]
 · rw [if_neg e, if_neg (by omega)]
theorem bodyB_cong {V W : Nat → Int} (h : ∀ j, j < 12 → V j = W j) : bodyB V = bodyB W := by
 unfold bodyB restB
 simp only [h 0 (by omega), h 1 (by omega), h 2 (by omega), h 3 (by omega), h 4 (by omega), h 5 (by omega), h 6 (by omega), h 7 (by omega), h 8 (by omega), h 9 (by omega), h 10 (by omega), h 11 (by omega)]
structure Bods (n : Nat) (U : Nat → Int) : Prop where
 le : n ≤ 12
 ok : ∀ k, k < n → bodyB (fun j => U (k * 12 + j)) = true
 asc : ∀ k, k + 1 < n → U (k * 12) < U ((k + 1) * 12)
theorem Bods.of {n : Nat} {U : Nat → Int} (h : bodsB n U = true) : Bods n U := by
 unfold bodsB at h
 rw [Bool.and_eq_true] at h
 have key : ∀ m, allBB U m = true → ∀ k, k < m → stepBB U k = true := by
  intro m
  induction m with
  | zero => intro _ k l; omega
  | succ m ih =>
   intro hm k l
   unfold allBB at hm
   rw [Bool.and_eq_true] at hm
   by_cases e : k = m
   · subst e; exact hm.2
   · exact ih hm.1 k (by omega)
 refine ⟨of_decide_eq_true h.1, fun k hk => ?_, fun k hk => ?_⟩
 · have := key n h.2 k hk
   unfold stepBB at this
   rw [Bool.and_eq_true] at this
   exact this.1
 · have := key n h.2 (k + 1) hk
   unfold stepBB at this
   simp at this
   exact this.2
theorem Bods.to {n : Nat} {U : Nat → Int} (h : Bods n U) : bodsB n U = true := by
 have key : ∀ m, m ≤ n → allBB U m = true := by
  intro m
  induction m with
  | zero => intro _; rfl
  | succ m ih =>
   intro hm
   unfold allBB
   rw [ih (by omega), Bool.true_and]
   unfold stepBB
   rw [h.ok m (by omega), Bool.true_and]
   by_cases e : m = 0
   · simp [e]
   · obtain ⟨k, rfl⟩ : ∃ k, m = k + 1 := ⟨m - 1, by omega⟩
     have := h.asc k (by omega)
     simp
     exact this
 unfold bodsB
 rw [key n (Nat.le_refl _), decide_eq_true h.le]
 rfl
theorem Bods.map {n : Nat} {U : Nat → Int} {f : Nat → (Nat → Int) → Nat → Int} (h : Bods n U) (hf : ∀ k, k < n → bodyB (f k (fun j => U (k * 12 + j))) = true) (h0 : ∀ k, k < n → f k (fun j => U (k * 12 + j)) 0 = U (k * 12)) : Bods n (mapR f U n) := by
 refine ⟨h.le, fun k hk => ?_, fun k hk => ?_⟩
 · rw [bodyB_cong (W := f k (fun j => U (k * 12 + j))) (fun j hj => mapR_in hk hj)]; exact hf k hk
 · have e1 := mapR_in (f := f) (U := U) (k := k) (n := n) (j := 0) (by omega) (by omega)
   have e2 := mapR_in (f := f) (U := U) (k := k + 1) (n := n) (j := 0) hk (by omega)
   rw [Nat.add_zero] at e1 e2
   rw [e1, e2, h0 k (by omega), h0 (k + 1) hk]
   exact h.asc k hk
def pushC (C : Nat → Nat → Int) (k : Nat) (p q : Int) : Nat → Nat → Int := if C 8 k = 0 then C else setC (setC (setC C 6 k (clampZ 20000000 (C 6 k + p))) 7 k (clampZ 20000000 (C 7 k + q))) 11 k 0
theorem flatB (w : World) (V : Nat → Int) (t : TypeId) (s : Nat) (e : w.heap.size = s) : Flat (w.alloc (Obj.cells #[.int .i64 (V 0), .int .i64 (V 1), .int .i64 (V 2), .int .i64 (V 3), .int .i64 (V 4), .int .i64 (V 5), .int .i64 (V 6), .int .i64 (V 7), .int .i64 (V 8), .int .i64 (V 9), .int .i64 (V 10), .int .i64 (V 11)] t)) (some ⟨s, 0, none⟩) (1 * 12) V := by
 subst e
 intro _
 refine ⟨w.heap.size, 0, rfl, by simp, fun j hj => ?_⟩
 rw [Nat.zero_add]
 rcases (show j = 0 ∨ j = 1 ∨ j = 2 ∨ j = 3 ∨ j = 4 ∨ j = 5 ∨ j = 6 ∨ j = 7 ∨ j = 8 ∨ j = 9 ∨ j = 10 ∨ j = 11 by omega) with rfl | rfl | rfl | rfl | rfl | rfl | rfl | rfl | rfl | rfl | rfl | rfl <;> go_simp
theorem handle_0 (cb : Nat) (w : World) : Calls Tryz.prog 48 #[.pointer (some ⟨cb, 0, none⟩), .int .i64 0] w fun e w' => e = .returned (.agg #[.int .i64 0, .pointer (some ⟨cb, 0, none⟩)]) ∧ Below w.heap.size w w' := handle_any cb 0 w
theorem kOk_z {cb n : Nat} {V : Nat → Int} {G : Nat → Nat} {w : World} (h : HAt w cb n 0 V G) (b : Bool) (e : bodyB V = b) :
 Calls Tryz.prog 34 #[.agg #[.int .i64 0, .pointer (some ⟨cb, 0, none⟩)]] w fun e w' => e = .returned (.bool b) ∧ Below w.heap.size w w' := kOk_q h b e
theorem Cs.setO {w : World} {cb n b o : Nat} {C : Nat → Nat → Int} {S : Nat → Value} (h : Cs w cb n C S) (hb : b < cb) (v : Value) : Cs (w.setCell ⟨b, o, none⟩ v) cb n C S :=
 h.frame (X := fun x => x = b) (Fr.setCell (X := fun x => x = b) rfl _) (by show ¬ cb = b; omega) (fun x hx e => by have := (h.xlt hx).1; omega)
theorem handleOf_k (V : Nat → Int) (w : World) (KB : Bool) (eK : bodyB V = KB) :
 Calls Tryz.prog 27 #[bodyW V] w fun e w' => ∃ cb S, e = .returned (.tuple #[hdk cb 0, .bool KB]) ∧ w.heap.size + 1 < cb ∧ Cs w' cb 1 (fun i _ => V i) S ∧ Below w.heap.size w w' := by
 have hset := cset_map
 go_enter Tryz.func27, Tryz.ntmps27
 go_upto_region 2 with (first
  | (go_at_call 48; refine (handle_0 _ _).mono ?_; rintro e w2 ⟨rfl, hb2⟩; obtain ⟨hc2, hf2⟩ := bcell hb2; have hz2 := hb2.size; (try simp only [World.size_drew, World.size_alloc, World.size_setCell] at hc2 hf2 hz2); have hk2x0 := fun o => hc2 (w.heap.size + 1) o (by omega); have hj2x0 := fun o => hf2 (w.heap.size + 1) o (by omega); have hq2x0 : w.heap.size + 1 < w2.heap.size := (by omega); clear hc2 hf2)
  | (go_at_call 32; refine (rowsOf_any _ 1 _ V _ (flatB _ V _ _ (by simp)) (by omega)).mono ?_; rintro e w1 ⟨rfl, hb1, S, hC1⟩; obtain ⟨hc1, hf1⟩ := bcell hb1; have hz1 := hb1.size; (try simp only [World.size_drew, World.size_alloc, World.size_setCell] at hc1 hf1 hz1 hC1); have hC1 := hC1.congr (C' := fun i _ => V i) (fun i k _ hk => (by obtain rfl : k = 0 := (by omega); simp [colOf])); have hk1x0 := fun o => hc1 (w.heap.size + 1) o (by omega); have hj1x0 := fun o => hf1 (w.heap.size + 1) o (by omega); have hq1x0 : w.heap.size + 1 < w1.heap.size := (by omega); clear hc1 hf1))
 refine wp_region_held_drew (S := fun w' => w'.cell? ⟨w2.heap.size, 0, none⟩ = some (.int .i64 (0 : Int)) ∧ w'.cell? ⟨w2.heap.size, 1, none⟩ = some (.pointer (some ⟨w.heap.size + 1 + 1 + 1, 0, none⟩))) (by kernel_rfl) ?_ (fun hHeld => ?_)
 · (try dsimp only)
   (first | (go_simp; done) | (go_keep; done))
 refine tq 0 hHeld ?_
 refine tq 1 hHeld ?_
 (refine tc 2 fun K hK => ?_; go_simp; (go_at_call 34; refine (kOk_z ((hC1.below (bel_a)).hat (by omega) (by omega)) KB eK).mono ?_; rintro e w3 ⟨rfl, hb3⟩; obtain ⟨hc3, hf3⟩ := bcell hb3; have hz3 := hb3.size; (try simp only [World.size_drew, World.size_alloc, World.size_setCell] at hc3 hf3 hz3); have hk3x0 := fun o => hc3 (w.heap.size + 1) o (by omega); have hj3x0 := fun o => hf3 (w.heap.size + 1) o (by omega); have hq3x0 : w.heap.size + 1 < w3.heap.size := (by omega); have hk3x1 := fun o => hc3 (w2.heap.size) o (by omega); have hj3x1 := fun o => hf3 (w2.heap.size) o (by omega); have hq3x1 : w2.heap.size < w3.heap.size := (by omega); clear hc3 hf3); (try go_wp2_with fail); refine tr hK (fun hHeld => ?_); clear hK K)
 (refine tc 3 fun K hK => ?_; go_simp; refine tr hK (fun hHeld => ?_); clear hK K)
 refine tq 4 hHeld ?_
 refine wpAnyH_done (by kernel_rfl) ?_ _
 go_wp2_with fail
 exact bodyPost_ret (v := .tuple #[.agg #[.int .i64 0, .pointer (some ⟨w.heap.size + 1 + 1 + 1, 0, none⟩)], .bool KB]) (by simp [results, Tryz.results27, go_sem, *]) rfl ⟨w.heap.size + 1 + 1 + 1, S, rfl, by omega, ((hC1.below (w' := w3) (bel_a)).setO (by omega) _).setO (by omega) _, bel_a⟩
def setV (V : Nat → Int) (k : Nat) (a : Int) : Nat → Int := fun j => if j = k then a else V j
def pushV (V : Nat → Int) (p q : Int) : Nat → Int := if V 8 = 0 then V else setV (setV (setV V 6 (clampZ 20000000 (V 6 + p))) 7 (clampZ 20000000 (V 7 + q))) 11 0
end Go.Proofs.YtalkkjhehndaoaaGreat
