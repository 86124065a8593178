/- Texts of a proof. -/
import Derived.Test.YtfiaokkolcodgaaGreatB4
import Derived.Test.YtfiaokkolcodgaaGreatB24
import Derived.Test.YtfiaokkolcodgaaGreatB22
import Derived.Test.YtfiaokkolcodgaaGreatB1
import Derived.Deep.RegionHeld3
import Derived.Deep.DeepCutAuto
set_option maxHeartbeats 16000000
set_option maxRecDepth 20000
namespace Go.Proofs.YtfiaokkolcodgaaGreat
open Go.RowKit
set_option linter.unusedVariables false
set_option linter.unusedSimpArgs false
theorem l5Touch_q (k1 g1 h1 x y k2 g2 h2 u v X Y D : Int) (K : Bool) (w : World) (s1 : shB k1 g1 h1 = true) (s2 : shB k2 g2 h2 = true) (p1 : inB 2560000 x y = true) (p2 : inB 2560000 u v = true) (e : toT k1 g1 h1 x y k2 g2 h2 u v = ((X, Y, D), K)) :
 Calls Tryz.prog 58 #[s3 k1 g1 h1, vv x y, s3 k2 g2 h2, vv u v] w fun e w' => e = .returned (.tuple #[s3 X Y D, .bool K]) ∧ Below w.heap.size w w' := by
 have e2 : toT k1 g1 h1 x y k2 g2 h2 u v = tcT k1 g1 h1 x y k2 g2 h2 u v := by unfold toT; rw [if_pos (by simp [*])]
 rw [e2] at e
 obtain ⟨px, py⟩ := inB_of p1
 obtain ⟨pu, pv⟩ := inB_of p2
 rcases shB_kinds s1 with ⟨rfl, rfl, a1, a2⟩ | ⟨rfl, a1, a2, a3, a4⟩ <;> rcases shB_kinds s2 with ⟨rfl, rfl, b1, b2⟩ | ⟨rfl, b1, b2, b3, b4⟩
 · exact sT_rr g1 g2 x y u v X Y D K w ⟨a1, a2⟩ ⟨b1, b2⟩ px py pu pv (by simpa [tcT] using e)
 · exact sT_rb g1 g2 h2 x y u v X Y D K w ⟨a1, a2⟩ ⟨b1, b2⟩ ⟨b3, b4⟩ px py pu pv (by simpa [tcT] using e)
 · exact sT_br g1 h1 g2 x y u v X Y D K w ⟨a1, a2⟩ ⟨a3, a4⟩ ⟨b1, b2⟩ px py pu pv (by simpa [tcT] using e)
 · exact sT_bb g1 h1 g2 h2 x y u v X Y D K w ⟨a1, a2⟩ ⟨a3, a4⟩ ⟨b1, b2⟩ ⟨b3, b4⟩ px py pu pv (by simpa [tcT] using e)
theorem bods_sh {U : Nat → Int} {n k : Nat} (h : bodsB n U = true) (l : k < n) : shB (U (k * 12 + 1)) (U (k * 12 + 2)) (U (k * 12 + 3)) = true ∧ inB 2560000 (U (k * 12 + 4)) (U (k * 12 + 5)) = true := by
 unfold bodsB at h
 rw [Bool.and_eq_true] at h
 have h2 : bodyB (fun j => U (k * 12 + j)) = true := by
  have key : ∀ m, allBB U m = true → k < m → stepBB U k = true := by
   intro m
   induction m with
   | zero => intro _ l; omega
   | succ m ih =>
    intro hm l
    unfold allBB at hm
    rw [Bool.and_eq_true] at hm
    by_cases e : k = m
    · subst e; exact hm.2
    · exact ih hm.1 (by omega)
  have := key n h.2 l
  unfold stepBB at this
  rw [Bool.and_eq_true] at this
  exact this.1
 unfold bodyB at h2
 simp only [Bool.and_eq_true] at h2
 exact ⟨h2.2.1, h2.2.2.1⟩
theorem flat5 (w : World) (p q r s u : Int) (t : TypeId) : Flat (w.alloc (Obj.cells #[.int .i64 p, .int .i64 q, .int .i64 r, .int .i64 s, .int .i64 u] t)) (some ⟨w.heap.size, 0, none⟩) (1 * 5) (ofL [p, q, r, s, u]) := by
 intro _
 refine ⟨w.heap.size, 0, rfl, by simp, fun j hj => ?_⟩
 rw [Nat.zero_add]
 rcases (show j = 0 ∨ j = 1 ∨ j = 2 ∨ j = 3 ∨ j = 4 by omega) with rfl | rfl | rfl | rfl | rfl <;> (simp only [ofL]; go_simp; (try rfl))
theorem l7Contacts_any (a : Option Addr) (n c : Nat) (U : Nat → Int) (w : World) (h : Flat w a (n * 12) U) (hok : bodsB n U = true) (hn : n ≤ 12) :
 Calls Tryz.prog 34 #[.slice a n c] w fun e w' => ∃ a' m c', e = .returned (.slice a' m c') ∧ (conL (colOf U) n).length = m * 5 ∧ OutL w w' 39 5 a' m c' (ofL (conL (colOf U) n)) := by
 have hset := cset_map
 go_enter Tryz.func34, Tryz.ntmps34
 go_wp2
 go_loopw [3, 4, 5, 6, 7] (fun s3 s4 _ _ _ wr => ∃ i a' m c', i ≤ n ∧ s4 = .int .i64 (i : Int) ∧ s3 = .slice a' m c' ∧ LsV w wr 39 5 a' m c' (conOut (colOf U) n i)) (fun _ s4 _ _ _ _ => n - (intOf s4).toNat)
 case atStart => exact ⟨0, _, _, _, Nat.zero_le _, rfl, rfl, LsV.new w _ _⟩
 case round =>
  obtain ⟨i, a', m, c', hi, rfl, rfl, hL⟩ := hrel
  by_cases hlt : i < n
  · have hin : (i : Int) < (n : Int) := by omega
    obtain ⟨b, o, rfl, hbl, hc⟩ := h (by omega)
    obtain ⟨si, qi⟩ := bods_sh hok hlt
    obtain ⟨mm, hm1, hm2⟩ := conOut_len (colOf U) n i
    have hm6 : i * n ≤ 12 * 12 := Nat.mul_le_mul (by omega) hn
    go_wp2
    go_loopw [3, 5, 6, 7] (fun s3 s5 _ _ wr => ∃ k a' m c', i < k ∧ k ≤ n ∧ s5 = .int .i64 (k : Int) ∧ s3 = .slice a' m c' ∧ LsV w wr 39 5 a' m c' (conOut (colOf U) n i ++ conIn (colOf U) i k)) (fun _ s5 _ _ _ => n - (intOf s5).toNat)
    case atStart => exact ⟨i + 1, _, _, _, by omega, by omega, by go_num, rfl, by rw [conIn_ge i (i + 1) (Nat.le_refl _), List.append_nil]; exact hL⟩
    case round =>
     clear hL
     obtain ⟨k, a2, m2, c2, hik, hk, rfl, rfl, hL⟩ := hrel
     by_cases hlk : k < n
     · have hkn : (k : Int) < (n : Int) := by omega
       obtain ⟨sk, qk⟩ := bods_sh hok hlk
       obtain ⟨mk, hm3, hm4⟩ := conIn_len (colOf U) i k
       have hm5 := hL.len
       rw [List.length_append, hm1, hm3] at hm5
       have hc' : ∀ q, q < n * 12 → wr.cell? ⟨b, o + q, none⟩ = some (.int .i64 (U q)) := fun q hq => (hL.bel.cell (p := ⟨b, o + q, none⟩) hbl).trans (hc q hq)
       have hzr := hL.bel.size
       have ci1 := hc' (i * 12 + 1) (by omega)
       have ck1 := hc' (k * 12 + 1) (by omega)
       have ci2 := hc' (i * 12 + 2) (by omega)
       have ck2 := hc' (k * 12 + 2) (by omega)
       have ci3 := hc' (i * 12 + 3) (by omega)
       have ck3 := hc' (k * 12 + 3) (by omega)
       have ci4 := hc' (i * 12 + 4) (by omega)
       have ck4 := hc' (k * 12 + 4) (by omega)
       have ci5 := hc' (i * 12 + 5) (by omega)
       have ck5 := hc' (k * 12 + 5) (by omega)
       have ci8 := hc' (i * 12 + 8) (by omega)
       have ck8 := hc' (k * 12 + 8) (by omega)
       simp only [← Nat.add_assoc] at ci1 ck1 ci2 ck2 ci3 ck3 ci4 ck4 ci5 ck5 ci8 ck8
       clear hc'
       by_cases hfx : U (i * 12 + 8) = 0 ∧ U (k * 12 + 8) = 0
       · obtain ⟨f1, f2⟩ := hfx
         have hno : Shut (conOne (colOf U) i k = []) := conOne_no (by unfold conB colOf; rw [f1, f2]; simp)
         rw [f1] at ci8
         rw [f2] at ck8
         go_wp2
         go_roundw
         case rel => exact ⟨k + 1, _, _, _, by omega, by omega, by go_num, rfl, by rw [conIn, hno.out, List.append_nil]; exact hL⟩
         case measure => simp [intOf]; omega
       · obtain ⟨TX, TY, TD, TJ, hT⟩ : ∃ TX TY TD TJ, tcH (colOf U) i k = ((TX, TY, TD), TJ) := ⟨_, _, _, _, rfl⟩
         have hfx' : Shut (¬ (U (i * 12 + 8) = 0 ∧ U (k * 12 + 8) = 0)) := hfx
         have key : ∀ (g : Prop), (U (i * 12 + 8) ≠ 0 → g) → (U (i * 12 + 8) = 0 → U (k * 12 + 8) ≠ 0 → g) → g := fun g h1 h2 => by
          by_cases e : U (i * 12 + 8) = 0
          · exact h2 e (fun e2 => hfx ⟨e, e2⟩)
          · exact h1 e
         clear hfx
         go_upto_region 8 with fail
         go_cut [36] (fun s wc => s = .bool false ∧ wr = wc)
         case first =>
          refine key _ (fun e => ?_) (fun e1 e2 => ?_)
          · have e' : decide (U (i * 12 + 8) = 0) = false := decide_eq_false e
            have e3 : (U (i * 12 + 8) == 0) = false := by simp [e]
            go_wp2
            go_meet
            exact ⟨by first | rfl | simp [e3], rfl⟩
          · have e' : decide (U (k * 12 + 8) = 0) = false := decide_eq_false e2
            have e3 : (U (k * 12 + 8) == 0) = false := by simp [e2]
            rw [e1] at ci8
            go_wp2
            go_meet
            exact ⟨by first | rfl | simp [e3], rfl⟩
         case rest =>
         obtain ⟨rfl, rfl⟩ := hcut
         clear key ci8 ck8
         go_upto_region 9 with fail
         go_cut [6, 7] (fun s6 s7 wd => ∃ bh, s6 = .pointer (some ⟨bh, 0, none⟩) ∧ s7 = .bool TJ ∧ wd.cell? ⟨bh, 0, none⟩ = some (.int .i64 TX) ∧ wd.cell? ⟨bh, 1, none⟩ = some (.int .i64 TY) ∧ wd.cell? ⟨bh, 2, none⟩ = some (.int .i64 TD) ∧ bh < wd.heap.size ∧ wr.heap.size ≤ bh ∧ Below wr.heap.size wr wd)
         case first =>
          refine wp_region_held_drew (S := fun w' => w'.cell? ⟨b, o + i * 12 + 1, none⟩ = some (.int .i64 (U (i * 12 + 1))) ∧ w'.cell? ⟨b, o + i * 12 + 2, none⟩ = some (.int .i64 (U (i * 12 + 2))) ∧ w'.cell? ⟨b, o + i * 12 + 3, none⟩ = some (.int .i64 (U (i * 12 + 3))) ∧ w'.cell? ⟨b, o + i * 12 + 4, none⟩ = some (.int .i64 (U (i * 12 + 4))) ∧ w'.cell? ⟨b, o + i * 12 + 5, none⟩ = some (.int .i64 (U (i * 12 + 5))) ∧ w'.cell? ⟨b, o + k * 12 + 1, none⟩ = some (.int .i64 (U (k * 12 + 1))) ∧ w'.cell? ⟨b, o + k * 12 + 2, none⟩ = some (.int .i64 (U (k * 12 + 2))) ∧ w'.cell? ⟨b, o + k * 12 + 3, none⟩ = some (.int .i64 (U (k * 12 + 3))) ∧ w'.cell? ⟨b, o + k * 12 + 4, none⟩ = some (.int .i64 (U (k * 12 + 4))) ∧ w'.cell? ⟨b, o + k * 12 + 5, none⟩ = some (.int .i64 (U (k * 12 + 5)))) (by kernel_rfl) ?_ (fun hHeld => ?_)
          · (try dsimp only)
            (first | (go_simp; done) | (go_keep; done))
          refine tq 0 hHeld ?_
          refine tq 1 hHeld ?_
          refine tq 2 hHeld ?_
          refine tq 3 hHeld ?_
          refine tq 4 hHeld ?_
          refine tq 5 hHeld ?_
          refine tq 6 hHeld ?_
          refine tq 7 hHeld ?_
          refine tq 8 hHeld ?_
          refine tq 9 hHeld ?_
          refine tq 10 hHeld ?_
          refine tq 11 hHeld ?_
          refine tq 12 hHeld ?_
          refine tq 13 hHeld ?_
          refine tq 14 hHeld ?_
          refine tq 15 hHeld ?_
          refine tq 16 hHeld ?_
          refine tq 17 hHeld ?_
          refine tq 18 hHeld ?_
          refine tq 19 hHeld ?_
          refine wpAnyH_ready (rs := [20, 24]) (by kernel_rfl) (by simp) ?_
          refine AllReadyH.cons rfl (fun K hK => ?_) (AllReadyH.cons rfl (fun K hK => ?_) AllReadyH.nil)
          · (go_simp; (go_at_call 58; refine (l5Touch_q _ _ _ _ _ _ _ _ _ _ TX TY TD TJ _ si sk qi qk hT).mono ?_; rintro e w3 ⟨rfl, hb3⟩; have hz3 := hb3.size; (try simp only [zz] at hz3); have := kfa hb3 b; have hk3z := fun o => hb3.cell (p := ⟨wr.heap.size, o, none⟩); have hj3z := fun o => hb3.frozen (p := ⟨wr.heap.size, o, none⟩); (try simp only [World.size_drew, World.size_alloc] at hk3z hj3z)); (try go_wp2_with fail); refine tr hK (fun hHeld => ?_); clear hK K)
            refine tq 21 hHeld ?_
            refine tq 22 hHeld ?_
            refine tq 23 hHeld ?_
            refine tc 24 fun K hK => ?_
            (go_simp; refine tr hK (fun hHeld => ?_); clear hK K)
            refine tc 25 fun K hK => ?_
            (go_simp; refine tr hK (fun hHeld => ?_); clear hK K)
            refine tq 26 hHeld ?_
            refine wpAnyH_done (by kernel_rfl) ?_ _
            go_wp2_with fail
            go_meet
            exact ⟨_, rfl, rfl, by go_simp, by go_simp, by go_simp, by first | (simp; omega) | simp | omega, by first | (simp; omega) | simp | omega, bel_a⟩
          · (go_simp; refine tr hK (fun hHeld => ?_); clear hK K)
            refine tc 20 fun K hK => ?_
            (go_simp; (go_at_call 58; refine (l5Touch_q _ _ _ _ _ _ _ _ _ _ TX TY TD TJ _ si sk qi qk hT).mono ?_; rintro e w3 ⟨rfl, hb3⟩; have hz3 := hb3.size; (try simp only [zz] at hz3); have := kfa hb3 b; have hk3z := fun o => hb3.cell (p := ⟨wr.heap.size, o, none⟩); have hj3z := fun o => hb3.frozen (p := ⟨wr.heap.size, o, none⟩); (try simp only [World.size_drew, World.size_alloc] at hk3z hj3z)); (try go_wp2_with fail); refine tr hK (fun hHeld => ?_); clear hK K)
            refine tq 21 hHeld ?_
            refine tq 22 hHeld ?_
            refine tq 23 hHeld ?_
            refine tc 25 fun K hK => ?_
            (go_simp; refine tr hK (fun hHeld => ?_); clear hK K)
            refine tq 26 hHeld ?_
            refine wpAnyH_done (by kernel_rfl) ?_ _
            go_wp2_with fail
            go_meet
            exact ⟨_, rfl, rfl, by go_simp, by go_simp, by go_simp, by first | (simp; omega) | simp | omega, by first | (simp; omega) | simp | omega, bel_a⟩
         case rest =>
         obtain ⟨bh, rfl, rfl, t0, t1, t2, hbh, hbh0, hbd⟩ := hcut
         have hLd := hL.below hbd
         cases TJ with
         | false =>
          have hno : Shut (conOne (colOf U) i k = []) := conOne_no (by unfold conB; rw [hT]; simp)
          go_wp2
          go_roundw
          case rel => exact ⟨k + 1, _, _, _, by omega, by omega, by go_num, rfl, by rw [conIn, hno.out, List.append_nil]; exact hLd⟩
          case measure => simp [intOf]; omega
         | true =>
          have hyes : Shut (conOne (colOf U) i k = [(i : Int), (k : Int), TX, TY, TD]) := conOne_yes (conB_yes hik hfx'.out hT) hT
          go_wp2_with (refine wpList_app rfl _ _ _ rfl w.heap.size 39 5 40 (.agg #[.int .i64 0, .int .i64 0, .int .i64 0, .int .i64 0, .int .i64 0]) Tryz.underlying24 (by kernel_rfl) (by rfl) (by omega) (.slice a2 m2 c2) m2 (ofL (conOut (colOf U) n i ++ conIn (colOf U) i k)) rfl (hLd.below ((Below.refl _ _).alloc (Nat.le_refl _) _)).own _ 1 _ (ofL [(i : Int), (k : Int), TX, TY, TD]) rfl (flat5 _ _ _ _ _ _ _) (by unfold maxLen; omega) (by omega) (by simp only [World.size_alloc]; have := hLd.bel.size; omega) ?_; intro a1 c1 w1 ho1 hg1)
          have hP := (hLd.below ((Below.refl _ _).alloc (Nat.le_refl _) _)).push (x := [(i : Int), (k : Int), TX, TY, TD]) rfl hg1 ho1
          go_roundw
          case rel => exact ⟨k + 1, _, _, _, by omega, by omega, by go_num, rfl, by rw [conIn, hyes.out, ← List.append_assoc]; exact hP⟩
          case measure => simp [intOf]; omega
     · obtain rfl : k = n := by omega
       go_wp2
       go_roundw
       case rel => exact ⟨i + 1, _, _, _, by omega, by go_num, rfl, hL⟩
       case measure => simp [intOf]; omega
  · obtain rfl : i = n := by omega
    go_wp2
    go_ret
    exact ⟨_, _, _, rfl, hL.len, hL.bel, hL.own⟩
def sumD (U : Nat → Int) (j : Nat) : Nat → Int
 | 0 => 0
 | k + 1 => sumD U j k + U (k * 12 + j)
theorem allBB_at {U : Nat → Int} : ∀ {n k : Nat}, allBB U n = true → k < n → stepBB U k = true
 | 0, k, _, l => absurd l (Nat.not_lt_zero _)
 | n + 1, k, h, l => by
  unfold allBB at h
  rw [Bool.and_eq_true] at h
  rcases Nat.lt_succ_iff_lt_or_eq.1 l with l | rfl
  · exact allBB_at h.1 l
  · exact h.2
theorem bodsB_at {U : Nat → Int} {n k : Nat} (h : bodsB n U = true) (l : k < n) : bodyB (fun j => U (k * 12 + j)) = true := by
 unfold bodsB at h
 rw [Bool.and_eq_true] at h
 have := allBB_at h.2 l
 unfold stepBB at this
 rw [Bool.and_eq_true] at this
 exact this.1
theorem bodsB_le {U : Nat → Int} {n : Nat} (h : bodsB n U = true) : n ≤ 12 := by
 unfold bodsB at h
 rw [Bool.and_eq_true, decide_eq_true_eq] at h
 exact h.1
theorem drv_bd {U : Nat → Int} {n k : Nat} (h : bodsB n U = true) (l : k < n) : (-20000000 ≤ U (k * 12 + 6) ∧ U (k * 12 + 6) ≤ 20000000) ∧ (-20000000 ≤ U (k * 12 + 7) ∧ U (k * 12 + 7) ≤ 20000000) := by
 obtain ⟨_, _, _, _, q1, q2, _⟩ := bodyB_bd (bodsB_at h l)
 exact ⟨q1, q2⟩
theorem sumD_bd {U : Nat → Int} {n : Nat} (h : bodsB n U = true) : ∀ k, k ≤ n → (-(20000000 * (k : Int)) ≤ sumD U 6 k ∧ sumD U 6 k ≤ 20000000 * (k : Int)) ∧ (-(20000000 * (k : Int)) ≤ sumD U 7 k ∧ sumD U 7 k ≤ 20000000 * (k : Int))
 | 0, _ => by simp [sumD]
 | k + 1, hk => by
  obtain ⟨q1, q2⟩ := sumD_bd h k (by omega)
  obtain ⟨p1, p2⟩ := drv_bd h (k := k) (by omega)
  simp only [sumD]
  omega
structure SumAt (w2 W : World) (ab : Nat) (x y : Int) : Prop where
 fr : Fr (fun b => b = ab) w2 W
 cx : W.cell? ⟨ab, 0, none⟩ = some (.int .i64 x)
 cy : W.cell? ⟨ab, 1, none⟩ = some (.int .i64 y)
 fx : W.frozen? ⟨ab, 0, none⟩ = false
 fy : W.frozen? ⟨ab, 1, none⟩ = false
theorem SumAt.sm {B ab : Nat} {w2 W W' : World} {x y : Int} (h : SumAt w2 W ab x y) (hs : Sm B W W') (hB : w2.heap.size ≤ B) : SumAt w2 W' ab x y :=
 ⟨⟨hs.below.os.trans h.fr.os, hs.below.tape.trans h.fr.tape, hs.below.output.trans h.fr.output, Nat.le_trans h.fr.size hs.size, fun k hk hn => (hs.below.block k (by omega)).trans (h.fr.block k hk hn), fun k o hk ho => (hs.below.block k (by have := (Array.getElem?_eq_some_iff.1 hk).1; omega)).trans (h.fr.kind k o hk ho)⟩,
  hs.cell h.cx, hs.cell h.cy, hs.frozen h.cx h.fx, hs.frozen h.cy h.fy⟩
theorem SumAt.below {ab : Nat} {w2 W W' : World} {x y : Int} (h : SumAt w2 W ab x y) (hs : Below W.heap.size W W') : SumAt w2 W' ab x y :=
 h.sm (Sm.of_below hs (Nat.le_refl _)) h.fr.size
theorem SumAt.set {ab : Nat} {w2 W : World} {x y : Int} (h : SumAt w2 W ab x y) (x' y' : Int) : SumAt w2 ((W.setCell ⟨ab, 0, none⟩ (.int .i64 x')).setCell ⟨ab, 1, none⟩ (.int .i64 y')) ab x' y' := by
 have hx := h.cx
 have hy := h.cy
 have fx := h.fx
 have fy := h.fy
 have hset := cset_map
 exact ⟨(h.fr.trans (Fr.setCell (X := fun b => b = ab) rfl _)).trans (Fr.setCell (X := fun b => b = ab) rfl _), by go_simp, by go_simp, by go_simp, by go_simp⟩
theorem drives_ok (a : Option Addr) (n c : Nat) (U : Nat → Int) (w : World) (h : Flat w a (n * 12) U) (hn : n ≤ 1048576) (hok : bodsB n U = true) :
 Calls Tryz.prog 11 #[.slice a n c] w fun e w' => e = .returned (vv (sumD U 6 n) (sumD U 7 n)) ∧ Below w.heap.size w w' := by
 have hset := cset_map
 have hn12 := bodsB_le hok
 refine calls_of_wp_marks Tryz.func11 rfl ?_
 simp only [Tryz.ntmps11, List.size_toArray, List.length_cons, List.length_nil, Nat.reduceAdd, Nat.reduceSub, Array.replicate_succ, Array.replicate_zero, List.push_toArray, List.append_toArray, List.nil_append, List.cons_append]
 go_wp2_with (go_at_call 25; refine (columnsOf_ok a n c U _ (h.below (bel_a)) hn hok).mono ?_; rintro e w1 ⟨cb, S, rfl, hcb, hC, hb1⟩)
 have hz1 := hb1.size
 simp only [World.size_alloc] at hz1 hcb
 have hcl1 := hC.lt
 have hw1 : Below w1.heap.size w1 (w1.alloc (Obj.cells #[.int .i64 0, .int .i64 0] 60)) := (Below.refl _ _).alloc (Nat.le_refl _) _
 have hB : Below w.heap.size w (w1.alloc (Obj.cells #[.int .i64 0, .int .i64 0] 60)) := (bel_a : Below w.heap.size w w1).trans (hw1.mono (by omega))
 have hC2 := hC.below hw1
 have r2 : (w1.alloc (Obj.cells #[.int .i64 0, .int .i64 0] 60)).cell? ⟨w.heap.size, 0, none⟩ = some (.int .i64 0) := (hw1.cell (p := ⟨w.heap.size, 0, none⟩) (by simp; omega)).trans ((hb1.cell (p := ⟨w.heap.size, 0, none⟩) (by simp)).trans (by go_simp))
 have r3 : (w1.alloc (Obj.cells #[.int .i64 0, .int .i64 0] 60)).cell? ⟨w.heap.size, 1, none⟩ = some (.int .i64 0) := (hw1.cell (p := ⟨w.heap.size, 1, none⟩) (by simp; omega)).trans ((hb1.cell (p := ⟨w.heap.size, 1, none⟩) (by simp)).trans (by go_simp))
 have f2 : (w1.alloc (Obj.cells #[.int .i64 0, .int .i64 0] 60)).frozen? ⟨w.heap.size, 0, none⟩ = false := (hw1.frozen (p := ⟨w.heap.size, 0, none⟩) (by simp; omega)).trans ((hb1.frozen (p := ⟨w.heap.size, 0, none⟩) (by simp)).trans (by go_simp))
 have f3 : (w1.alloc (Obj.cells #[.int .i64 0, .int .i64 0] 60)).frozen? ⟨w.heap.size, 1, none⟩ = false := (hw1.frozen (p := ⟨w.heap.size, 1, none⟩) (by simp; omega)).trans ((hb1.frozen (p := ⟨w.heap.size, 1, none⟩) (by simp)).trans (by go_simp))
 have hA : SumAt (w1.alloc (Obj.cells #[.int .i64 0, .int .i64 0] 60)) (w1.alloc (Obj.cells #[.int .i64 0, .int .i64 0] 60)) w1.heap.size 0 0 := ⟨Fr.refl _ _, by go_simp, by go_simp, by go_simp, by go_simp⟩
 have hz2 : w1.heap.size < (w1.alloc (Obj.cells #[.int .i64 0, .int .i64 0] 60)).heap.size := by simp
 have hXl : ∀ b, Xc S b → b < w1.heap.size := fun b hb => (hC.xlt hb).2
 generalize (w1.alloc (Obj.cells #[.int .i64 0, .int .i64 0] 60)) = w2 at hB hC2 r2 r3 f2 f3 hA hz2 ⊢
 clear hw1 hC hb1
 have hcl := hC2.lt
 generalize hbv : w1.heap.size = ab at hz1 hz2 hA hXl hcl1 ⊢
 clear hbv
 obtain ⟨ad, cc, hS0⟩ := (hC2.own 0 (by omega)).is
 have hd0 := hC2.hd 0 (by omega)
 rw [hS0] at hd0
 refine wp_range_out (gf := 26) (bound := #[.pointer (some ⟨cb, 0, none⟩)]) rfl each_enters (each_it cb n _ _ w2 hcl hd0 hn) (fun _ => rfl) (fun k W => SumAt w2 W ab (sumD U 6 k) (sumD U 7 k)) (fun _ _ => False) ?_ (fun _ _ _ h _ => h) hA ?round ?done (fun _ _ _ _ h _ => h.elim)
 · intro k A B h1 hs
   exact h1.sm hs (Nat.le_refl _)
 case round =>
  intro l k W hl hF hk
  simp only [List.zip_toArray, List.zip_cons_cons, List.zip_nil_left, List.foldl_toArray, List.foldl_cons, List.foldl_nil, List.setIfInBounds_toArray, List.set_cons_succ, List.set_cons_zero]
  refine wpIn_region_plain (by rintro ⟨_, _, h⟩; exact h) (by kernel_rfl) ?_
  go_wp2
  refine ⟨(KeepsOthers.alloc _ _).from _, fun W2 hS hr => ?_⟩
  have hF2 : SumAt w2 W2 ab (sumD U 6 k) (sumD U 7 k) := (hF.below ((Below.refl _ _).alloc (Nat.le_refl _) _)).sm hS (Nat.le_refl _)
  have hzW := hF.fr.size
  have v0 : W2.cell? ⟨W.heap.size, 0, none⟩ = some (.int .i64 (k : Int)) := hS.cell (by go_simp)
  have v1 : W2.cell? ⟨W.heap.size, 1, none⟩ = some (.pointer (some ⟨cb, 0, none⟩)) := hS.cell (by go_simp)
  have hC3 := hC2.frame hF2.fr (by omega) (fun b hb => by have := hXl b hb; omega)
  have hz3 : W.heap.size < W2.heap.size := by have := hS.size; simp at this; omega
  have hh := hC3.hat hk (by omega)
  obtain ⟨b1, b2⟩ := sumD_bd hok k (by omega)
  obtain ⟨b3, b4⟩ : (-20000000 ≤ colOf U 6 k ∧ colOf U 6 k ≤ 20000000) ∧ (-20000000 ≤ colOf U 7 k ∧ colOf U 7 k ≤ 20000000) := drv_bd hok hk
  have a1 := hF2.cx
  have a2 := hF2.cy
  have a3 := hF2.fx
  have a4 := hF2.fy
  have hab : ab < W2.heap.size := by omega
  have onD : ∀ (X Y : World), SumAt w2 X ab (sumD U 6 k) (sumD U 7 k) → Below X.heap.size X Y → KeepsFrom w2.heap.size X ((Y.setCell ⟨ab, 0, none⟩ (.int .i64 (sumD U 6 k + colOf U 6 k))).setCell ⟨ab, 1, none⟩ (.int .i64 (sumD U 7 k + colOf U 7 k))) ∧ SumAt w2 ((Y.setCell ⟨ab, 0, none⟩ (.int .i64 (sumD U 6 k + colOf U 6 k))).setCell ⟨ab, 1, none⟩ (.int .i64 (sumD U 7 k + colOf U 7 k))) ab (sumD U 6 (k + 1)) (sumD U 7 (k + 1)) := fun X Y hX hXY =>
   ⟨(KeepsFrom.of_below hXY).trans (((KeepsOthers.setCell _ _ _).trans (KeepsOthers.setCell _ _ _)).from _), (hX.below hXY).set _ _⟩
  clear hS hr hF
  refine wpIn_block ?_
  refine wpIn_region_held_drew (S := fun w' => w'.cell? ⟨W.heap.size, 0, none⟩ = some (.int .i64 (k : Int)) ∧ w'.cell? ⟨W.heap.size, 1, none⟩ = some (.pointer (some ⟨cb, 0, none⟩))) (by kernel_rfl) (by rintro ⟨_, _, h⟩; exact h) (by kernel_rfl) ?_ (fun hHeld => ?_)
  · (try dsimp only)
    (first | (go_simp; done) | (go_keep; done))
  refine tq 1 hHeld ?_
  refine wpAnyH_ready (rs := [0, 2]) (by kernel_rfl) (by simp) ?_
  refine AllReadyH.cons (o := { dst := some 18, op := Go.Op.load 60 (Go.Operand.tmp 5), type := 60, pos := "l6_body.go:296", after := #[], guard := none }) rfl (fun K hK => ?_) (AllReadyH.cons (o := { dst := some 20, op := Go.Op.call { callee := Go.Callee.value (Go.Operand.func 28), args := #[Go.Operand.tmp 19], argTypes := #[64] }, type := 60, pos := "l6_body.go:296", after := #[{ on := 1, ground := Go.Ground.data }], guard := none }) rfl (fun K hK => ?_) AllReadyH.nil)
  · (go_simp; refine hK.out _ _ ?_ (fun hHeld => ?_); (focus ((try dsimp only); (first | (go_simp; done) | (go_keep; done)))); clear hK K; (try simp only [Act.put, List.setIfInBounds_toArray, List.set_cons_zero, List.set_cons_succ]))
    (refine tc 2 fun K hK => ?_; go_simp; (go_at_call 28; refine (kDrive (HAt.below hh (Below.drew (Below.refl _ _)))).mono ?_; rintro e w5 ⟨rfl, hb5⟩; obtain ⟨hc5, hf5⟩ := bcell hb5; have hz5 := hb5.size; (try simp only [zz] at hc5 hf5 hz5); have hk5x0 := fun o => hc5 W.heap.size o (by omega); have hj5x0 := fun o => hf5 W.heap.size o (by omega); have hk5x1 := fun o => hc5 ab o (by omega); have hj5x1 := fun o => hf5 ab o (by omega); clear hc5 hf5); (try go_wp2_with fail); refine tr hK (fun hHeld => ?_); clear hK K)
    (refine tc 3 fun K hK => ?_; go_simp; (go_at_call 27; refine (plus_any _ _ _ _ _ (by omega) (by omega) (by omega) (by omega)).mono ?_; rintro e w6 ⟨rfl, hb6⟩; obtain ⟨hc6, hf6⟩ := bcell hb6; have hz6 := hb6.size; (try simp only [zz] at hc6 hf6 hz6); have hk6x0 := fun o => hc6 W.heap.size o (by omega); have hj6x0 := fun o => hf6 W.heap.size o (by omega); have hk6x1 := fun o => hc6 ab o (by omega); have hj6x1 := fun o => hf6 ab o (by omega); clear hc6 hf6); (try go_wp2_with fail); refine tr hK (fun hHeld => ?_); clear hK K)
    (refine tc 4 fun K hK => ?_; go_simp; refine tr hK (fun hHeld => ?_); clear hK K)
    refine wpAnyH_done (by kernel_rfl) ?_ _
    have hb56 : Below W2.heap.size W2 w6 := hb5.ofDr.trans (hb6.mono hb5.size)
    exact onD W2 w6 hF2 hb56
  · (go_simp; (go_at_call 28; refine (kDrive (HAt.below hh (Below.drew (Below.refl _ _)))).mono ?_; rintro e w5 ⟨rfl, hb5⟩; obtain ⟨hc5, hf5⟩ := bcell hb5; have hz5 := hb5.size; (try simp only [zz] at hc5 hf5 hz5); have hk5x0 := fun o => hc5 W.heap.size o (by omega); have hj5x0 := fun o => hf5 W.heap.size o (by omega); have hk5x1 := fun o => hc5 ab o (by omega); have hj5x1 := fun o => hf5 ab o (by omega); clear hc5 hf5); (try go_wp2_with fail); refine hK.out _ _ ?_ (fun hHeld => ?_); (focus ((try dsimp only); (first | (go_simp; done) | (go_keep; done)))); clear hK K; (try simp only [Act.put, List.setIfInBounds_toArray, List.set_cons_zero, List.set_cons_succ]))
    (refine tc 0 fun K hK => ?_; go_simp; refine tr hK (fun hHeld => ?_); clear hK K)
    (refine tc 3 fun K hK => ?_; go_simp; (go_at_call 27; refine (plus_any _ _ _ _ _ (by omega) (by omega) (by omega) (by omega)).mono ?_; rintro e w6 ⟨rfl, hb6⟩; obtain ⟨hc6, hf6⟩ := bcell hb6; have hz6 := hb6.size; (try simp only [zz] at hc6 hf6 hz6); have hk6x0 := fun o => hc6 W.heap.size o (by omega); have hj6x0 := fun o => hf6 W.heap.size o (by omega); have hk6x1 := fun o => hc6 ab o (by omega); have hj6x1 := fun o => hf6 ab o (by omega); clear hc6 hf6); (try go_wp2_with fail); refine tr hK (fun hHeld => ?_); clear hK K)
    (refine tc 4 fun K hK => ?_; go_simp; refine tr hK (fun hHeld => ?_); clear hK K)
    refine wpAnyH_done (by kernel_rfl) ?_ _
    have hb56 : Below W2.heap.size W2 w6 := hb5.ofDr.trans (hb6.mono hb5.size)
    exact onD W2 w6 hF2 hb56
 case done =>
  intro D W hD hF hK
  have hzW := hF.fr.size
  have q2 := (hF.fr.cell (p := ⟨w.heap.size, 0, none⟩) (by simp; omega) (by simp; omega)).trans r2
  have q3 := (hF.fr.cell (p := ⟨w.heap.size, 1, none⟩) (by simp; omega) (by simp; omega)).trans r3
  have p2 := (hF.fr.frozen (p := ⟨w.heap.size, 0, none⟩) (by simp; omega) (by simp; omega)).trans f2
  have p3 := (hF.fr.frozen (p := ⟨w.heap.size, 1, none⟩) (by simp; omega) (by simp; omega)).trans f3
  have a1 := hF.cx
  have a2 := hF.cy
  have hBW : Below w.heap.size w W := hB.trans (hF.fr.below (by omega) (fun k e => by omega))
  go_wp2_with (go_at_call 29; refine (vec_any _ _ _).mono ?_; rintro e w7 ⟨rfl, hb7⟩; obtain ⟨hc7, hf7⟩ := bcell hb7; have hz7 := hb7.size; (try simp only [zz] at hc7 hf7 hz7); have hk7x0 := fun o => hc7 w.heap.size o (by omega); have hj7x0 := fun o => hf7 w.heap.size o (by omega); clear hc7 hf7)
  have hK7 := (hb7.block D (Array.getElem?_eq_some_iff.1 hK).1).trans hK
  have hF8 : Fr (fun b => b = w.heap.size) w7 ((w7.setCell ⟨w.heap.size, 0, none⟩ (.int .i64 (sumD U 6 n))).setCell ⟨w.heap.size, 1, none⟩ (.int .i64 (sumD U 7 n))) := (Fr.setCell (X := fun b => b = w.heap.size) rfl _).trans (Fr.setCell (X := fun b => b = w.heap.size) rfl _)
  refine marks_ret (B := w2.heap.size) hD rfl (hF8.kind _ _ hK7 rfl) fun W' hS => ⟨vv (sumD U 6 n) (sumD U 7 n), ?_, rfl, ?_⟩
  · have x2 : W'.cell? ⟨w.heap.size, 0, none⟩ = some (.int .i64 (sumD U 6 n)) := hS.cell (by go_simp)
    have x3 : W'.cell? ⟨w.heap.size, 1, none⟩ = some (.int .i64 (sumD U 7 n)) := hS.cell (by go_simp)
    simp [results, Tryz.results11, go_sem, *]
  · exact (((hBW.trans (hb7.mono (by omega))).setCell (by simp) _).setCell (by simp) _).trans (hS.below.mono (by omega))
theorem drives_no (a : Option Addr) (n c : Nat) (U : Nat → Int) (w : World) (h : Flat w a (n * 12) U) (hn : n ≤ 1048576) (hok : bodsB n U = false) :
 Calls Tryz.prog 11 #[.slice a n c] w fun e w' => e = .returned (vv 0 0) ∧ Below w.heap.size w w' := by
 have hset := cset_map
 refine calls_of_wp_marks Tryz.func11 rfl ?_
 simp only [Tryz.ntmps11, List.size_toArray, List.length_cons, List.length_nil, Nat.reduceAdd, Nat.reduceSub, Array.replicate_succ, Array.replicate_zero, List.push_toArray, List.append_toArray, List.nil_append, List.cons_append]
 go_wp2_with (go_at_call 25; refine (columnsOf_no a n c U _ (h.below (bel_a)) hn hok).mono ?_; rintro e w1 ⟨rfl, hb1⟩; obtain ⟨hc1, hf1⟩ := bcell hb1; have hz1 := hb1.size; (try simp only [zz] at hc1 hf1 hz1); have hk1x0 := fun o => hc1 w.heap.size o (by omega); have hj1x0 := fun o => hf1 w.heap.size o (by omega); clear hc1 hf1; have hq1 : w.heap.size < w1.heap.size := (by omega))
 refine marks_ret0 (v := vv 0 0) rfl (by simp [results, Tryz.results11, go_sem, *]) ⟨rfl, bel_a⟩
end Go.Proofs.YtfiaokkolcodgaaGreat
