/- Texts of a proof. -/
import Derived.Test.YtmnhankcbkfhaaaGreatDoorB3
import Derived.Test.YtmnhankcbkfhaaaGreatDoorB4
import Derived.Test.YtmnhankcbkfhaaaGreatDoorB25
import Derived.Test.YtmnhankcbkfhaaaGreatDoorB19
import Derived.Test.YtmnhankcbkfhaaaGreatDoorB1
import Derived.Test.YtmnhankcbkfhaaaGreatDoorB31
import Derived.Deep.RegionHeld3
import Derived.Deep.DeepCutAuto
import Derived.Test.YtmnhankcbkfhaaaGreatDoorB15
import Derived.Test.YtmnhankcbkfhaaaGreatDoorB10
import Derived.Test.YtmnhankcbkfhaaaGreatDoorB14
import Derived.LoopNIn
import Derived.LoopIn
import Derived.OwnWalkIn
set_option maxHeartbeats 16000000
set_option maxRecDepth 20000
namespace Go.Proofs.YtmnhankcbkfhaaaGreatDoor
open Go.RowKit
set_option linter.unusedVariables false
set_option linter.unusedSimpArgs false
theorem l5Touch_q (k1 g1 h1 x y k2 g2 h2 u v X Y D : Int) (K : Bool) (w : World) (s1 : shB k1 g1 h1 = true) (s2 : shB k2 g2 h2 = true) (p1 : inB 2560000 x y = true) (p2 : inB 2560000 u v = true) (e : toT k1 g1 h1 x y k2 g2 h2 u v = ((X, Y, D), K)) :
 Calls Tryz.prog 46 #[s3 k1 g1 h1, vv x y, s3 k2 g2 h2, vv u v] w fun e w' => e = .returned (.tuple #[s3 X Y D, .bool K]) ∧ Below w.heap.size w w' := by
 have e2 : toT k1 g1 h1 x y k2 g2 h2 u v = tcT k1 g1 h1 x y k2 g2 h2 u v := by unfold toT; rw [if_pos (by simp [*])]
 rw [e2] at e
 obtain ⟨px, py⟩ := inB_of p1
 obtain ⟨pu, pv⟩ := inB_of p2
 rcases shB_kinds s1 with ⟨rfl, rfl, a1, a2⟩ | ⟨rfl, a1, a2, a3, a4⟩ <;> rcases shB_kinds s2 with ⟨rfl, rfl, b1, b2⟩ | ⟨rfl, b1, b2, b3, b4⟩
 · exact sT_rr g1 g2 x y u v X Y D K w ⟨a1, a2⟩ ⟨b1, b2⟩ px py pu pv (by simpa [tcT] using e)
 · exact sT_rb g1 g2 h2 x y u v X Y D K w ⟨a1, a2⟩ ⟨b1, b2⟩ ⟨b3, b4⟩ px py pu pv (by simpa [tcT] using e)
 · exact sT_br g1 h1 g2 x y u v X Y D K w ⟨a1, a2⟩ ⟨a3, a4⟩ ⟨b1, b2⟩ px py pu pv (by simpa [tcT] using e)
 · exact sT_bb g1 h1 g2 h2 x y u v X Y D K w ⟨a1, a2⟩ ⟨a3, a4⟩ ⟨b1, b2⟩ ⟨b3, b4⟩ px py pu pv (by simpa [tcT] using e)
theorem bods_sh {U : Nat → Int} {n k : Nat} (h : bodsB n U = true) (l : k < n) : shB (U (k * 12 + 1)) (U (k * 12 + 2)) (U (k * 12 + 3)) = true ∧ inB 2560000 (U (k * 12 + 4)) (U (k * 12 + 5)) = true := by
 unfold bodsB at h
 rw [Bool.and_eq_true] at h
 have h2 : bodyB (fun j => U (k * 12 + j)) = true := by
  have key : ∀ m, allBB U m = true → k < m → stepBB U k = true := by
   intro m
   induction m with
   | zero => intro _ l; omega
   | succ m ih =>
    intro hm l
    unfold allBB at hm
    rw [Bool.and_eq_true] at hm
    by_cases e : k = m
    · subst e; exact hm.2
    · exact ih hm.1 (by omega)
  have := key n h.2 l
  unfold stepBB at this
  rw [Bool.and_eq_true] at this
  exact this.1
 unfold bodyB at h2
 simp only [Bool.and_eq_true] at h2
 exact ⟨h2.2.1, h2.2.2.1⟩
theorem flat5 (w : World) (p q r s u : Int) (t : TypeId) : Flat (w.alloc (Obj.cells #[.int .i64 p, .int .i64 q, .int .i64 r, .int .i64 s, .int .i64 u] t)) (some ⟨w.heap.size, 0, none⟩) (1 * 5) (ofL [p, q, r, s, u]) := by
 intro _
 refine ⟨w.heap.size, 0, rfl, by simp, fun j hj => ?_⟩
 rw [Nat.zero_add]
 rcases (show j = 0 ∨ j = 1 ∨ j = 2 ∨ j = 3 ∨ j = 4 by omega) with rfl | rfl | rfl | rfl | rfl <;> (simp only [ofL]; go_simp; (try rfl))
theorem l7Contacts_any (a : Option Addr) (n c : Nat) (U : Nat → Int) (w : World) (h : Flat w a (n * 12) U) (hok : bodsB n U = true) (hn : n ≤ 12) :
 Calls Tryz.prog 23 #[.slice a n c] w fun e w' => ∃ a' m c', e = .returned (.slice a' m c') ∧ (conL (colOf U) n).length = m * 5 ∧ OutL w w' 85 5 a' m c' (ofL (conL (colOf U) n)) := by
 have hset := cset_map
 go_enter Tryz.func23, Tryz.ntmps23
 go_wp2
 go_loopw [3, 4, 5, 6, 7] (fun s3 s4 _ _ _ wr => ∃ i a' m c', i ≤ n ∧ s4 = .int .i64 (i : Int) ∧ s3 = .slice a' m c' ∧ LsV w wr 85 5 a' m c' (conOut (colOf U) n i)) (fun _ s4 _ _ _ _ => n - (intOf s4).toNat)
 case atStart => exact ⟨0, _, _, _, Nat.zero_le _, rfl, rfl, LsV.new w _ _⟩
 case round =>
  obtain ⟨i, a', m, c', hi, rfl, rfl, hL⟩ := hrel
  by_cases hlt : i < n
  · have hin : (i : Int) < (n : Int) := by omega
    obtain ⟨b, o, rfl, hbl, hc⟩ := h (by omega)
    obtain ⟨si, qi⟩ := bods_sh hok hlt
    obtain ⟨mm, hm1, hm2⟩ := conOut_len (colOf U) n i
    have hm6 : i * n ≤ 12 * 12 := Nat.mul_le_mul (by omega) hn
    go_wp2
    go_loopw [3, 5, 6, 7] (fun s3 s5 _ _ wr => ∃ k a' m c', i < k ∧ k ≤ n ∧ s5 = .int .i64 (k : Int) ∧ s3 = .slice a' m c' ∧ LsV w wr 85 5 a' m c' (conOut (colOf U) n i ++ conIn (colOf U) i k)) (fun _ s5 _ _ _ => n - (intOf s5).toNat)
    case atStart => exact ⟨i + 1, _, _, _, by omega, by omega, by go_num, rfl, by rw [conIn_ge i (i + 1) (Nat.le_refl _), List.append_nil]; exact hL⟩
    case round =>
     clear hL
     obtain ⟨k, a2, m2, c2, hik, hk, rfl, rfl, hL⟩ := hrel
     by_cases hlk : k < n
     · have hkn : (k : Int) < (n : Int) := by omega
       obtain ⟨sk, qk⟩ := bods_sh hok hlk
       obtain ⟨mk, hm3, hm4⟩ := conIn_len (colOf U) i k
       have hm5 := hL.len
       rw [List.length_append, hm1, hm3] at hm5
       have hc' : ∀ q, q < n * 12 → wr.cell? ⟨b, o + q, none⟩ = some (.int .i64 (U q)) := fun q hq => (hL.bel.cell (p := ⟨b, o + q, none⟩) hbl).trans (hc q hq)
       have hzr := hL.bel.size
       have ci1 := hc' (i * 12 + 1) (by omega)
       have ck1 := hc' (k * 12 + 1) (by omega)
       have ci2 := hc' (i * 12 + 2) (by omega)
       have ck2 := hc' (k * 12 + 2) (by omega)
       have ci3 := hc' (i * 12 + 3) (by omega)
       have ck3 := hc' (k * 12 + 3) (by omega)
       have ci4 := hc' (i * 12 + 4) (by omega)
       have ck4 := hc' (k * 12 + 4) (by omega)
       have ci5 := hc' (i * 12 + 5) (by omega)
       have ck5 := hc' (k * 12 + 5) (by omega)
       have ci8 := hc' (i * 12 + 8) (by omega)
       have ck8 := hc' (k * 12 + 8) (by omega)
       simp only [← Nat.add_assoc] at ci1 ck1 ci2 ck2 ci3 ck3 ci4 ck4 ci5 ck5 ci8 ck8
       clear hc'
       by_cases hfx : U (i * 12 + 8) = 0 ∧ U (k * 12 + 8) = 0
       · obtain ⟨f1, f2⟩ := hfx
         have hno : Shut (conOne (colOf U) i k = []) := conOne_no (by unfold conB colOf; rw [f1, f2]; simp)
         rw [f1] at ci8
         rw [f2] at ck8
         go_wp2
         go_roundw
         case rel => exact ⟨k + 1, _, _, _, by omega, by omega, by go_num, rfl, by rw [conIn, hno.out, List.append_nil]; exact hL⟩
         case measure => simp [intOf]; omega
       · obtain ⟨TX, TY, TD, TJ, hT⟩ : ∃ TX TY TD TJ, tcH (colOf U) i k = ((TX, TY, TD), TJ) := ⟨_, _, _, _, rfl⟩
         have hfx' : Shut (¬ (U (i * 12 + 8) = 0 ∧ U (k * 12 + 8) = 0)) := hfx
         have key : ∀ (g : Prop), (U (i * 12 + 8) ≠ 0 → g) → (U (i * 12 + 8) = 0 → U (k * 12 + 8) ≠ 0 → g) → g := fun g h1 h2 => by
          by_cases e : U (i * 12 + 8) = 0
          · exact h2 e (fun e2 => hfx ⟨e, e2⟩)
          · exact h1 e
         clear hfx
         go_upto_region 8 with fail
         go_cut [36] (fun s wc => s = .bool false ∧ wr = wc)
         case first =>
          refine key _ (fun e => ?_) (fun e1 e2 => ?_)
          · have e' : decide (U (i * 12 + 8) = 0) = false := decide_eq_false e
            have e3 : (U (i * 12 + 8) == 0) = false := by simp [e]
            go_wp2
            go_meet
            exact ⟨by first | rfl | simp [e3], rfl⟩
          · have e' : decide (U (k * 12 + 8) = 0) = false := decide_eq_false e2
            have e3 : (U (k * 12 + 8) == 0) = false := by simp [e2]
            rw [e1] at ci8
            go_wp2
            go_meet
            exact ⟨by first | rfl | simp [e3], rfl⟩
         case rest =>
         obtain ⟨rfl, rfl⟩ := hcut
         clear key ci8 ck8
         go_upto_region 9 with fail
         go_cut [6, 7] (fun s6 s7 wd => ∃ bh, s6 = .pointer (some ⟨bh, 0, none⟩) ∧ s7 = .bool TJ ∧ wd.cell? ⟨bh, 0, none⟩ = some (.int .i64 TX) ∧ wd.cell? ⟨bh, 1, none⟩ = some (.int .i64 TY) ∧ wd.cell? ⟨bh, 2, none⟩ = some (.int .i64 TD) ∧ bh < wd.heap.size ∧ wr.heap.size ≤ bh ∧ Below wr.heap.size wr wd)
         case first =>
          refine wp_region_held_drew (S := fun w' => w'.cell? ⟨b, o + i * 12 + 1, none⟩ = some (.int .i64 (U (i * 12 + 1))) ∧ w'.cell? ⟨b, o + i * 12 + 2, none⟩ = some (.int .i64 (U (i * 12 + 2))) ∧ w'.cell? ⟨b, o + i * 12 + 3, none⟩ = some (.int .i64 (U (i * 12 + 3))) ∧ w'.cell? ⟨b, o + i * 12 + 4, none⟩ = some (.int .i64 (U (i * 12 + 4))) ∧ w'.cell? ⟨b, o + i * 12 + 5, none⟩ = some (.int .i64 (U (i * 12 + 5))) ∧ w'.cell? ⟨b, o + k * 12 + 1, none⟩ = some (.int .i64 (U (k * 12 + 1))) ∧ w'.cell? ⟨b, o + k * 12 + 2, none⟩ = some (.int .i64 (U (k * 12 + 2))) ∧ w'.cell? ⟨b, o + k * 12 + 3, none⟩ = some (.int .i64 (U (k * 12 + 3))) ∧ w'.cell? ⟨b, o + k * 12 + 4, none⟩ = some (.int .i64 (U (k * 12 + 4))) ∧ w'.cell? ⟨b, o + k * 12 + 5, none⟩ = some (.int .i64 (U (k * 12 + 5)))) (by kernel_rfl) ?_ (fun hHeld => ?_)
          · (try dsimp only)
            (first | (go_simp; done) | (go_keep; done))
          refine tq 0 hHeld ?_
          refine tq 1 hHeld ?_
          refine tq 2 hHeld ?_
          refine tq 3 hHeld ?_
          refine tq 4 hHeld ?_
          refine tq 5 hHeld ?_
          refine tq 6 hHeld ?_
          refine tq 7 hHeld ?_
          refine tq 8 hHeld ?_
          refine tq 9 hHeld ?_
          refine tq 10 hHeld ?_
          refine tq 11 hHeld ?_
          refine tq 12 hHeld ?_
          refine tq 13 hHeld ?_
          refine tq 14 hHeld ?_
          refine tq 15 hHeld ?_
          refine tq 16 hHeld ?_
          refine tq 17 hHeld ?_
          refine tq 18 hHeld ?_
          refine tq 19 hHeld ?_
          refine wpAnyH_ready (rs := [20, 24]) (by kernel_rfl) (by simp) ?_
          refine AllReadyH.cons rfl (fun K hK => ?_) (AllReadyH.cons rfl (fun K hK => ?_) AllReadyH.nil)
          · (go_simp; (go_at_call 46; refine (l5Touch_q _ _ _ _ _ _ _ _ _ _ TX TY TD TJ _ si sk qi qk hT).mono ?_; rintro e w3 ⟨rfl, hb3⟩; have hz3 := hb3.size; (try simp only [zz] at hz3); have := kfa hb3 b; have hk3z := fun o => hb3.cell (p := ⟨wr.heap.size, o, none⟩); have hj3z := fun o => hb3.frozen (p := ⟨wr.heap.size, o, none⟩); (try simp only [World.size_drew, World.size_alloc] at hk3z hj3z)); (try go_wp2_with fail); refine tr hK (fun hHeld => ?_); clear hK K)
            refine tq 21 hHeld ?_
            refine tq 22 hHeld ?_
            refine tq 23 hHeld ?_
            refine tc 24 fun K hK => ?_
            (go_simp; refine tr hK (fun hHeld => ?_); clear hK K)
            refine tc 25 fun K hK => ?_
            (go_simp; refine tr hK (fun hHeld => ?_); clear hK K)
            refine tq 26 hHeld ?_
            refine wpAnyH_done (by kernel_rfl) ?_ _
            go_wp2_with fail
            go_meet
            exact ⟨_, rfl, rfl, by go_simp, by go_simp, by go_simp, by first | (simp; omega) | simp | omega, by first | (simp; omega) | simp | omega, bel_a⟩
          · (go_simp; refine tr hK (fun hHeld => ?_); clear hK K)
            refine tc 20 fun K hK => ?_
            (go_simp; (go_at_call 46; refine (l5Touch_q _ _ _ _ _ _ _ _ _ _ TX TY TD TJ _ si sk qi qk hT).mono ?_; rintro e w3 ⟨rfl, hb3⟩; have hz3 := hb3.size; (try simp only [zz] at hz3); have := kfa hb3 b; have hk3z := fun o => hb3.cell (p := ⟨wr.heap.size, o, none⟩); have hj3z := fun o => hb3.frozen (p := ⟨wr.heap.size, o, none⟩); (try simp only [World.size_drew, World.size_alloc] at hk3z hj3z)); (try go_wp2_with fail); refine tr hK (fun hHeld => ?_); clear hK K)
            refine tq 21 hHeld ?_
            refine tq 22 hHeld ?_
            refine tq 23 hHeld ?_
            refine tc 25 fun K hK => ?_
            (go_simp; refine tr hK (fun hHeld => ?_); clear hK K)
            refine tq 26 hHeld ?_
            refine wpAnyH_done (by kernel_rfl) ?_ _
            go_wp2_with fail
            go_meet
            exact ⟨_, rfl, rfl, by go_simp, by go_simp, by go_simp, by first | (simp; omega) | simp | omega, by first | (simp; omega) | simp | omega, bel_a⟩
         case rest =>
         obtain ⟨bh, rfl, rfl, t0, t1, t2, hbh, hbh0, hbd⟩ := hcut
         have hLd := hL.below hbd
         cases TJ with
         | false =>
          have hno : Shut (conOne (colOf U) i k = []) := conOne_no (by unfold conB; rw [hT]; simp)
          go_wp2
          go_roundw
          case rel => exact ⟨k + 1, _, _, _, by omega, by omega, by go_num, rfl, by rw [conIn, hno.out, List.append_nil]; exact hLd⟩
          case measure => simp [intOf]; omega
         | true =>
          have hyes : Shut (conOne (colOf U) i k = [(i : Int), (k : Int), TX, TY, TD]) := conOne_yes (conB_yes hik hfx'.out hT) hT
          go_wp2_with (refine wpList_app rfl _ _ _ rfl w.heap.size 85 5 40 (.agg #[.int .i64 0, .int .i64 0, .int .i64 0, .int .i64 0, .int .i64 0]) Tryz.underlying53 (by kernel_rfl) (by rfl) (by omega) (.slice a2 m2 c2) m2 (ofL (conOut (colOf U) n i ++ conIn (colOf U) i k)) rfl (hLd.below ((Below.refl _ _).alloc (Nat.le_refl _) _)).own _ 1 _ (ofL [(i : Int), (k : Int), TX, TY, TD]) rfl (flat5 _ _ _ _ _ _ _) (by unfold maxLen; omega) (by omega) (by simp only [World.size_alloc]; have := hLd.bel.size; omega) ?_; intro a1 c1 w1 ho1 hg1)
          have hP := (hLd.below ((Below.refl _ _).alloc (Nat.le_refl _) _)).push (x := [(i : Int), (k : Int), TX, TY, TD]) rfl hg1 ho1
          go_roundw
          case rel => exact ⟨k + 1, _, _, _, by omega, by omega, by go_num, rfl, by rw [conIn, hyes.out, ← List.append_assoc]; exact hP⟩
          case measure => simp [intOf]; omega
     · obtain rfl : k = n := by omega
       go_wp2
       go_roundw
       case rel => exact ⟨i + 1, _, _, _, by omega, by go_num, rfl, hL⟩
       case measure => simp [intOf]; omega
  · obtain rfl : i = n := by omega
    go_wp2
    go_ret
    exact ⟨_, _, _, rfl, hL.len, hL.bel, hL.own⟩
def rwL (C : Nat → Nat → Int) : Nat → List Int
 | 0 => []
 | k + 1 => rwL C k ++ [C 0 k, C 1 k, C 2 k, C 3 k, C 4 k, C 5 k, C 6 k, C 7 k, C 8 k, C 9 k, C 10 k, C 11 k]
theorem rwL_len (C : Nat → Nat → Int) : ∀ k, (rwL C k).length = k * 12
 | 0 => rfl
 | k + 1 => by
  rw [rwL, List.length_append, rwL_len C k]
  simp only [List.length_cons, List.length_nil]
  omega
theorem rwL_at (C : Nat → Nat → Int) : ∀ n q, q < n * 12 → ofL (rwL C n) q = C (q % 12) (q / 12)
 | 0, q, h => by omega
 | k + 1, q, h => by
  rw [rwL]
  by_cases e : q < k * 12
  · rw [ofL_app _ _ _ (by rw [rwL_len]; exact e)]; exact rwL_at C k q e
  · rw [ofL_app' _ _ _ (by rw [rwL_len]; omega), rwL_len]
    have h1 : q / 12 = k := by omega
    have h2 : q % 12 = q - k * 12 := by omega
    rw [h1, h2]
    have h3 : q - k * 12 < 12 := by omega
    generalize q - k * 12 = j at h3 ⊢
    rcases (show j = 0 ∨ j = 1 ∨ j = 2 ∨ j = 3 ∨ j = 4 ∨ j = 5 ∨ j = 6 ∨ j = 7 ∨ j = 8 ∨ j = 9 ∨ j = 10 ∨ j = 11 by omega) with rfl | rfl | rfl | rfl | rfl | rfl | rfl | rfl | rfl | rfl | rfl | rfl <;> rfl
theorem cells12 (w : World) (V : Nat → Int) (t : TypeId) : ∀ j, j < 12 → (w.alloc (Obj.cells #[.int .i64 (V 0), .int .i64 (V 1), .int .i64 (V 2), .int .i64 (V 3), .int .i64 (V 4), .int .i64 (V 5), .int .i64 (V 6), .int .i64 (V 7), .int .i64 (V 8), .int .i64 (V 9), .int .i64 (V 10), .int .i64 (V 11)] t)).cell? ⟨w.heap.size, j, none⟩ = some (.int .i64 (ofL [V 0, V 1, V 2, V 3, V 4, V 5, V 6, V 7, V 8, V 9, V 10, V 11] j)) := by
 intro j hj
 rcases (show j = 0 ∨ j = 1 ∨ j = 2 ∨ j = 3 ∨ j = 4 ∨ j = 5 ∨ j = 6 ∨ j = 7 ∨ j = 8 ∨ j = 9 ∨ j = 10 ∨ j = 11 by omega) with rfl | rfl | rfl | rfl | rfl | rfl | rfl | rfl | rfl | rfl | rfl | rfl <;> (simp only [ofL]; go_simp; (try rfl))
theorem list_any (cb n : Nat) (C : Nat → Nat → Int) (S : Nat → Value) (w : World) (hC : Cs w cb n C S) (hn : n ≤ 12) :
 Calls Tryz.prog 41 #[.pointer (some ⟨cb, 0, none⟩)] w fun e w' => ∃ a c, e = .returned (.slice a n c) ∧ OutL w w' 39 12 a n c (fun q => C (q % 12) (q / 12)) := by
 have hset := cset_map
 refine calls_of_wp_marks Tryz.func41 rfl ?_
 simp only [Tryz.ntmps41, List.size_toArray, List.length_cons, List.length_nil, Nat.reduceAdd, Nat.reduceSub, Array.replicate_succ, Array.replicate_zero, List.push_toArray, List.append_toArray, List.nil_append, List.cons_append]
 go_wp2
 have hE : Below w.heap.size w (w.alloc (Obj.cells #[.slice none 0 0] 24)) := (Below.refl _ _).alloc (Nat.le_refl _) _
 have hC2 := hC.below hE
 have hA : LsAt (w.alloc (Obj.cells #[.slice none 0 0] 24)) (w.alloc (Obj.cells #[.slice none 0 0] 24)) w.heap.size 39 12 none 0 0 [] := LsAt.start (by go_simp) (by go_simp)
 have hz2 : (w.alloc (Obj.cells #[.slice none 0 0] 24)).heap.size = w.heap.size + 1 := by simp
 generalize (w.alloc (Obj.cells #[.slice none 0 0] 24)) = w2 at hE hC2 hA hz2 ⊢
 have hXl : ∀ b, Xc S b → b < w.heap.size := fun b hb => (hC.xlt hb).2
 have hcl0 := hC.lt
 have hlb : w.heap.size < w2.heap.size := by omega
 obtain ⟨ad, cc, hS0⟩ := (hC2.own 0 (by omega)).is
 have hd0 := hC2.hd 0 (by omega)
 rw [hS0] at hd0
 have hlw : w.heap.size ≤ w.heap.size := Nat.le_refl _
 have hcl1 : cb < w.heap.size := hcl0
 generalize hlbe : w.heap.size = lb at hA hlb hXl hcl1 hlw ⊢
 refine wp_range_out (gf := 59) (bound := #[.pointer (some ⟨cb, 0, none⟩)]) rfl each_enters (each_it cb n _ _ w2 hC2.lt hd0 (by omega)) (fun _ => rfl) (fun k W => ∃ a m c, LsAt w2 W lb 39 12 a m c (rwL C k)) (fun _ _ => False) ?_ (fun _ _ _ h _ => h) ⟨_, _, _, hA⟩ ?round ?done (fun _ _ _ _ h _ => h.elim)
 · rintro k A B ⟨a, m, c, h1⟩ hs
   exact ⟨a, m, c, h1.sm hs (Nat.le_refl _)⟩
 case done =>
  rintro D W hD ⟨a, m, c, hL⟩ hK
  have hbx := hL.box
  have hm : m = n := by have := hL.len; rw [rwL_len] at this; omega
  subst hm
  go_wp2
  refine marks_ret (B := w2.heap.size) hD rfl hK fun W' hS => ⟨.slice a m c, ?_, a, c, rfl, ?_, ?_⟩
  · simp [results, Tryz.results41, go_sem, *]
  · rw [hlbe]
    rw [hlbe] at hE
    exact (hE.trans (hL.fr.below (by omega) (fun b e => by omega))).trans (hS.below.mono (by omega))
  · rw [hlbe]
    exact ((hL.own.sm hS).base (by omega)).congr fun q hq => rwL_at C m q hq
 case round =>
  rintro l0 k X hl0 ⟨a, m, c, hL⟩ hk
  have hm12 : m ≤ 12 := by have := hL.len; rw [rwL_len] at this; omega
  simp only [List.zip_toArray, List.zip_cons_cons, List.zip_nil_left, List.foldl_toArray, List.foldl_cons, List.foldl_nil, List.setIfInBounds_toArray, List.set_cons_succ, List.set_cons_zero]
  refine wpIn_region_plain (by rintro ⟨_, _, h⟩; exact h) (by kernel_rfl) ?_
  go_wp2
  refine ⟨(KeepsOthers.alloc _ _).from _, fun X2 hS hr => ?_⟩
  clear hr
  have hL2 : LsAt w2 X2 lb 39 12 a m c (rwL C k) := (hL.below ((Below.refl _ _).alloc (Nat.le_refl _) _)).sm hS (Nat.le_refl _)
  have b0 : X2.cell? ⟨X.heap.size, 0, none⟩ = some (.int .i64 (k : Int)) := hS.cell (by go_simp)
  have b1 : X2.cell? ⟨X.heap.size, 1, none⟩ = some (.pointer (some ⟨cb, 0, none⟩)) := hS.cell (by go_simp)
  have hbl : X.heap.size < X2.heap.size := by have := hS.size; simp at this; omega
  have hown : ∀ b, (Value.slice a m c).ownBlock = some b → b < X.heap.size := fun b hb => (hL.own.lt b hb).2
  have hzX := hL.fr.size
  clear hS hL
  generalize X.heap.size = bb at b0 b1 hbl hown hzX ⊢
  have hCX := hC2.frame hL2.fr (by omega) (fun b hb => by have := hXl b hb; omega)
  have x0 := hL2.box
  have e0 := b0
  have e1 := b1
  refine wpIn_block ?_
  refine wpIn_region_held_drew (S := fun w' => w'.cell? ⟨bb, 0, none⟩ = some (.int .i64 (k : Int)) ∧ w'.cell? ⟨bb, 1, none⟩ = some (.pointer (some ⟨cb, 0, none⟩))) (by kernel_rfl) (by rintro ⟨_, _, h⟩; exact h) (by kernel_rfl) ?_ (fun hHeld => ?_)
  · (try dsimp only)
    (first | (go_simp; done) | (go_keep; done))
  refine tq 1 hHeld ?_
  refine wpAnyH_ready (rs := [0, 2]) (by kernel_rfl) (by simp) ?_
  refine AllReadyH.cons rfl (fun K hK => ?_) (AllReadyH.cons rfl (fun K hK => ?_) AllReadyH.nil)
  · (go_simp
     refine tr hK (fun hHeld => ?_)
     clear hK K)
    refine tc 2 fun K hK => ?_
    (go_simp
     (go_at_call 60; refine (kBody (Cs.hat (hCX.below (Below.drew (Below.refl _ _))) hk (by omega))).mono ?_; rintro e w31 ⟨rfl, hx⟩)
     have hx1 : Below X2.heap.size X2 w31 := (Below.drew (Below.refl _ _)).trans hx
     have hL3 := hL2.below hx1
     clear x0 e0 e1 hx
     have x0 := hL3.box
     have e0 := (hx1.cell (p := ⟨bb, 0, none⟩) hbl).trans b0
     have e1 := (hx1.cell (p := ⟨bb, 1, none⟩) hbl).trans b1
     have hbl3 : bb < w31.heap.size := Nat.lt_of_lt_of_le hbl hx1.size
     (try go_wp2_with fail)
     refine tr hK (fun hHeld => ?_)
     clear hK K)
    refine tc 3 fun K hK => ?_
    (go_simp
     have hE3 : Below w31.heap.size w31 (w31.alloc (Obj.cells #[.int .i64 (C 0 k), .int .i64 (C 1 k), .int .i64 (C 2 k), .int .i64 (C 3 k), .int .i64 (C 4 k), .int .i64 (C 5 k), .int .i64 (C 6 k), .int .i64 (C 7 k), .int .i64 (C 8 k), .int .i64 (C 9 k), .int .i64 (C 10 k), .int .i64 (C 11 k)] 39)) := (Below.refl _ _).alloc (Nat.le_refl _) _
     have q12 := cells12 w31 (fun j => C j k) 39
     have hz32 : (w31.alloc (Obj.cells #[.int .i64 (C 0 k), .int .i64 (C 1 k), .int .i64 (C 2 k), .int .i64 (C 3 k), .int .i64 (C 4 k), .int .i64 (C 5 k), .int .i64 (C 6 k), .int .i64 (C 7 k), .int .i64 (C 8 k), .int .i64 (C 9 k), .int .i64 (C 10 k), .int .i64 (C 11 k)] 39)).heap.size = w31.heap.size + 1 := by simp
     clear x0 e0 e1
     generalize w31.alloc (Obj.cells #[.int .i64 (C 0 k), .int .i64 (C 1 k), .int .i64 (C 2 k), .int .i64 (C 3 k), .int .i64 (C 4 k), .int .i64 (C 5 k), .int .i64 (C 6 k), .int .i64 (C 7 k), .int .i64 (C 8 k), .int .i64 (C 9 k), .int .i64 (C 10 k), .int .i64 (C 11 k)] 39) = w32 at hE3 q12 hz32 ⊢
     have hL4 := hL3.below hE3
     have x0 := hL4.box
     have e0 := (hE3.cell (p := ⟨bb, 0, none⟩) hbl3).trans ((hx1.cell (p := ⟨bb, 0, none⟩) hbl).trans b0)
     have e1 := (hE3.cell (p := ⟨bb, 1, none⟩) hbl3).trans ((hx1.cell (p := ⟨bb, 1, none⟩) hbl).trans b1)
     refine tr hK (fun hHeld => ?_)
     clear hK K)
    refine tc 4 fun K hK => ?_
    (refine step_appk (by rfl) _ _ _ (by rfl) w2.heap.size 39 12 96 zcBody Tryz.underlying24 infoItBody (by rfl) (by omega) (.slice a m c) m (ofL (rwL C k)) (by rfl) hL4.own w31.heap.size _ (ofL [C 0 k, C 1 k, C 2 k, C 3 k, C 4 k, C 5 k, C 6 k, C 7 k, C 8 k, C 9 k, C 10 k, C 11 k]) (by rfl) q12 (by unfold maxLen; omega) (by omega) (by have := hL4.fr.size; omega) _ rfl ?_
     intro g6 c6 w33 ho6 hg6 hor6 hlt6
     have hP := hL4.push hlb (x := [C 0 k, C 1 k, C 2 k, C 3 k, C 4 k, C 5 k, C 6 k, C 7 k, C 8 k, C 9 k, C 10 k, C 11 k]) rfl hg6 ho6
     have hKP := (Fr.of_below (hx1.trans (hE3.mono hx1.size))).trans (hL4.keeps (a' := some ⟨g6, 0, none⟩) (m' := m + 1) (c' := c6) hlb hg6)
     have hnb : ∀ b, (Value.slice a m c).ownBlock = some b → b ≠ bb := fun b e => by have := hown b e; omega
     have y0 := (hg6.cell_far ⟨bb, 0, none⟩ (by show bb < w32.heap.size; omega) (fun e => hnb bb e.symm rfl)).trans e0
     have y1 := (hg6.cell_far ⟨bb, 1, none⟩ (by show bb < w32.heap.size; omega) (fun e => hnb bb e.symm rfl)).trans e1
     have n0 := (hg6.cell_far ⟨lb, 0, none⟩ (by show lb < w32.heap.size; have := hL4.fr.size; omega) (fun e => by have := (hL4.own.lt lb e.symm).1; omega)).trans hL4.box
     have nf := (hg6.frozen_far ⟨lb, 0, none⟩ (by show lb < w32.heap.size; have := hL4.fr.size; omega) (fun e => by have := (hL4.own.lt lb e.symm).1; omega)).trans hL4.nf
     clear x0 e0 e1
     refine tr hK (fun hHeld => ?_)
     clear hK K)
    refine tc 5 fun K hK => ?_
    (have z0 : (w33.setCell ⟨lb, 0, none⟩ (.slice (some ⟨g6, 0, none⟩) (m + 1) c6)).cell? ⟨bb, 0, none⟩ = some (.int .i64 (k : Int)) := by rw [cset_far (by simp; omega)]; exact y0
     have z1 : (w33.setCell ⟨lb, 0, none⟩ (.slice (some ⟨g6, 0, none⟩) (m + 1) c6)).cell? ⟨bb, 1, none⟩ = some (.pointer (some ⟨cb, 0, none⟩)) := by rw [cset_far (by simp; omega)]; exact y1
     go_simp
     refine tr hK (fun hHeld => ?_)
     clear hK K)
    refine wpAnyH_done (by kernel_rfl) ?_ _
    go_wp2_with fail
    exact ⟨hKP.keeps _, _, _, _, by rw [rwL]; exact hP⟩
  · (go_simp
     (go_at_call 60; refine (kBody (Cs.hat (hCX.below (Below.drew (Below.refl _ _))) hk (by omega))).mono ?_; rintro e w31 ⟨rfl, hx⟩)
     have hx1 : Below X2.heap.size X2 w31 := (Below.drew (Below.refl _ _)).trans hx
     have hL3 := hL2.below hx1
     clear x0 e0 e1 hx
     have x0 := hL3.box
     have e0 := (hx1.cell (p := ⟨bb, 0, none⟩) hbl).trans b0
     have e1 := (hx1.cell (p := ⟨bb, 1, none⟩) hbl).trans b1
     have hbl3 : bb < w31.heap.size := Nat.lt_of_lt_of_le hbl hx1.size
     (try go_wp2_with fail)
     refine tr hK (fun hHeld => ?_)
     clear hK K)
    refine wpAnyH_ready (rs := [0, 3]) (by kernel_rfl) (by simp) ?_
    refine AllReadyH.cons rfl (fun K hK => ?_) (AllReadyH.cons rfl (fun K hK => ?_) AllReadyH.nil)
    · (go_simp
       refine tr hK (fun hHeld => ?_)
       clear hK K)
      refine tc 3 fun K hK => ?_
      (go_simp
       have hE3 : Below w31.heap.size w31 (w31.alloc (Obj.cells #[.int .i64 (C 0 k), .int .i64 (C 1 k), .int .i64 (C 2 k), .int .i64 (C 3 k), .int .i64 (C 4 k), .int .i64 (C 5 k), .int .i64 (C 6 k), .int .i64 (C 7 k), .int .i64 (C 8 k), .int .i64 (C 9 k), .int .i64 (C 10 k), .int .i64 (C 11 k)] 39)) := (Below.refl _ _).alloc (Nat.le_refl _) _
       have q12 := cells12 w31 (fun j => C j k) 39
       have hz32 : (w31.alloc (Obj.cells #[.int .i64 (C 0 k), .int .i64 (C 1 k), .int .i64 (C 2 k), .int .i64 (C 3 k), .int .i64 (C 4 k), .int .i64 (C 5 k), .int .i64 (C 6 k), .int .i64 (C 7 k), .int .i64 (C 8 k), .int .i64 (C 9 k), .int .i64 (C 10 k), .int .i64 (C 11 k)] 39)).heap.size = w31.heap.size + 1 := by simp
       clear x0 e0 e1
       generalize w31.alloc (Obj.cells #[.int .i64 (C 0 k), .int .i64 (C 1 k), .int .i64 (C 2 k), .int .i64 (C 3 k), .int .i64 (C 4 k), .int .i64 (C 5 k), .int .i64 (C 6 k), .int .i64 (C 7 k), .int .i64 (C 8 k), .int .i64 (C 9 k), .int .i64 (C 10 k), .int .i64 (C 11 k)] 39) = w32 at hE3 q12 hz32 ⊢
       have hL4 := hL3.below hE3
       have x0 := hL4.box
       have e0 := (hE3.cell (p := ⟨bb, 0, none⟩) hbl3).trans ((hx1.cell (p := ⟨bb, 0, none⟩) hbl).trans b0)
       have e1 := (hE3.cell (p := ⟨bb, 1, none⟩) hbl3).trans ((hx1.cell (p := ⟨bb, 1, none⟩) hbl).trans b1)
       refine tr hK (fun hHeld => ?_)
       clear hK K)
      refine tc 4 fun K hK => ?_
      (refine step_appk (by rfl) _ _ _ (by rfl) w2.heap.size 39 12 96 zcBody Tryz.underlying24 infoItBody (by rfl) (by omega) (.slice a m c) m (ofL (rwL C k)) (by rfl) hL4.own w31.heap.size _ (ofL [C 0 k, C 1 k, C 2 k, C 3 k, C 4 k, C 5 k, C 6 k, C 7 k, C 8 k, C 9 k, C 10 k, C 11 k]) (by rfl) q12 (by unfold maxLen; omega) (by omega) (by have := hL4.fr.size; omega) _ rfl ?_
       intro g6 c6 w33 ho6 hg6 hor6 hlt6
       have hP := hL4.push hlb (x := [C 0 k, C 1 k, C 2 k, C 3 k, C 4 k, C 5 k, C 6 k, C 7 k, C 8 k, C 9 k, C 10 k, C 11 k]) rfl hg6 ho6
       have hKP := (Fr.of_below (hx1.trans (hE3.mono hx1.size))).trans (hL4.keeps (a' := some ⟨g6, 0, none⟩) (m' := m + 1) (c' := c6) hlb hg6)
       have hnb : ∀ b, (Value.slice a m c).ownBlock = some b → b ≠ bb := fun b e => by have := hown b e; omega
       have y0 := (hg6.cell_far ⟨bb, 0, none⟩ (by show bb < w32.heap.size; omega) (fun e => hnb bb e.symm rfl)).trans e0
       have y1 := (hg6.cell_far ⟨bb, 1, none⟩ (by show bb < w32.heap.size; omega) (fun e => hnb bb e.symm rfl)).trans e1
       have n0 := (hg6.cell_far ⟨lb, 0, none⟩ (by show lb < w32.heap.size; have := hL4.fr.size; omega) (fun e => by have := (hL4.own.lt lb e.symm).1; omega)).trans hL4.box
       have nf := (hg6.frozen_far ⟨lb, 0, none⟩ (by show lb < w32.heap.size; have := hL4.fr.size; omega) (fun e => by have := (hL4.own.lt lb e.symm).1; omega)).trans hL4.nf
       clear x0 e0 e1
       refine tr hK (fun hHeld => ?_)
       clear hK K)
      refine tc 5 fun K hK => ?_
      (have z0 : (w33.setCell ⟨lb, 0, none⟩ (.slice (some ⟨g6, 0, none⟩) (m + 1) c6)).cell? ⟨bb, 0, none⟩ = some (.int .i64 (k : Int)) := by rw [cset_far (by simp; omega)]; exact y0
       have z1 : (w33.setCell ⟨lb, 0, none⟩ (.slice (some ⟨g6, 0, none⟩) (m + 1) c6)).cell? ⟨bb, 1, none⟩ = some (.pointer (some ⟨cb, 0, none⟩)) := by rw [cset_far (by simp; omega)]; exact y1
       go_simp
       refine tr hK (fun hHeld => ?_)
       clear hK K)
      refine wpAnyH_done (by kernel_rfl) ?_ _
      go_wp2_with fail
      exact ⟨hKP.keeps _, _, _, _, by rw [rwL]; exact hP⟩
    · (go_simp
       have hE3 : Below w31.heap.size w31 (w31.alloc (Obj.cells #[.int .i64 (C 0 k), .int .i64 (C 1 k), .int .i64 (C 2 k), .int .i64 (C 3 k), .int .i64 (C 4 k), .int .i64 (C 5 k), .int .i64 (C 6 k), .int .i64 (C 7 k), .int .i64 (C 8 k), .int .i64 (C 9 k), .int .i64 (C 10 k), .int .i64 (C 11 k)] 39)) := (Below.refl _ _).alloc (Nat.le_refl _) _
       have q12 := cells12 w31 (fun j => C j k) 39
       have hz32 : (w31.alloc (Obj.cells #[.int .i64 (C 0 k), .int .i64 (C 1 k), .int .i64 (C 2 k), .int .i64 (C 3 k), .int .i64 (C 4 k), .int .i64 (C 5 k), .int .i64 (C 6 k), .int .i64 (C 7 k), .int .i64 (C 8 k), .int .i64 (C 9 k), .int .i64 (C 10 k), .int .i64 (C 11 k)] 39)).heap.size = w31.heap.size + 1 := by simp
       clear x0 e0 e1
       generalize w31.alloc (Obj.cells #[.int .i64 (C 0 k), .int .i64 (C 1 k), .int .i64 (C 2 k), .int .i64 (C 3 k), .int .i64 (C 4 k), .int .i64 (C 5 k), .int .i64 (C 6 k), .int .i64 (C 7 k), .int .i64 (C 8 k), .int .i64 (C 9 k), .int .i64 (C 10 k), .int .i64 (C 11 k)] 39) = w32 at hE3 q12 hz32 ⊢
       have hL4 := hL3.below hE3
       have x0 := hL4.box
       have e0 := (hE3.cell (p := ⟨bb, 0, none⟩) hbl3).trans ((hx1.cell (p := ⟨bb, 0, none⟩) hbl).trans b0)
       have e1 := (hE3.cell (p := ⟨bb, 1, none⟩) hbl3).trans ((hx1.cell (p := ⟨bb, 1, none⟩) hbl).trans b1)
       refine tr hK (fun hHeld => ?_)
       clear hK K)
      refine tc 0 fun K hK => ?_
      (go_simp
       refine tr hK (fun hHeld => ?_)
       clear hK K)
      refine tc 4 fun K hK => ?_
      (refine step_appk (by rfl) _ _ _ (by rfl) w2.heap.size 39 12 96 zcBody Tryz.underlying24 infoItBody (by rfl) (by omega) (.slice a m c) m (ofL (rwL C k)) (by rfl) hL4.own w31.heap.size _ (ofL [C 0 k, C 1 k, C 2 k, C 3 k, C 4 k, C 5 k, C 6 k, C 7 k, C 8 k, C 9 k, C 10 k, C 11 k]) (by rfl) q12 (by unfold maxLen; omega) (by omega) (by have := hL4.fr.size; omega) _ rfl ?_
       intro g6 c6 w33 ho6 hg6 hor6 hlt6
       have hP := hL4.push hlb (x := [C 0 k, C 1 k, C 2 k, C 3 k, C 4 k, C 5 k, C 6 k, C 7 k, C 8 k, C 9 k, C 10 k, C 11 k]) rfl hg6 ho6
       have hKP := (Fr.of_below (hx1.trans (hE3.mono hx1.size))).trans (hL4.keeps (a' := some ⟨g6, 0, none⟩) (m' := m + 1) (c' := c6) hlb hg6)
       have hnb : ∀ b, (Value.slice a m c).ownBlock = some b → b ≠ bb := fun b e => by have := hown b e; omega
       have y0 := (hg6.cell_far ⟨bb, 0, none⟩ (by show bb < w32.heap.size; omega) (fun e => hnb bb e.symm rfl)).trans e0
       have y1 := (hg6.cell_far ⟨bb, 1, none⟩ (by show bb < w32.heap.size; omega) (fun e => hnb bb e.symm rfl)).trans e1
       have n0 := (hg6.cell_far ⟨lb, 0, none⟩ (by show lb < w32.heap.size; have := hL4.fr.size; omega) (fun e => by have := (hL4.own.lt lb e.symm).1; omega)).trans hL4.box
       have nf := (hg6.frozen_far ⟨lb, 0, none⟩ (by show lb < w32.heap.size; have := hL4.fr.size; omega) (fun e => by have := (hL4.own.lt lb e.symm).1; omega)).trans hL4.nf
       clear x0 e0 e1
       refine tr hK (fun hHeld => ?_)
       clear hK K)
      refine tc 5 fun K hK => ?_
      (have z0 : (w33.setCell ⟨lb, 0, none⟩ (.slice (some ⟨g6, 0, none⟩) (m + 1) c6)).cell? ⟨bb, 0, none⟩ = some (.int .i64 (k : Int)) := by rw [cset_far (by simp; omega)]; exact y0
       have z1 : (w33.setCell ⟨lb, 0, none⟩ (.slice (some ⟨g6, 0, none⟩) (m + 1) c6)).cell? ⟨bb, 1, none⟩ = some (.pointer (some ⟨cb, 0, none⟩)) := by rw [cset_far (by simp; omega)]; exact y1
       go_simp
       refine tr hK (fun hHeld => ?_)
       clear hK K)
      refine wpAnyH_done (by kernel_rfl) ?_ _
      go_wp2_with fail
      exact ⟨hKP.keeps _, _, _, _, by rw [rwL]; exact hP⟩
end Go.Proofs.YtmnhankcbkfhaaaGreatDoor
