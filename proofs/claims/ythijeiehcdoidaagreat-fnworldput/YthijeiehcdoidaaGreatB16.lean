/- Texts of a proof. -/
import Derived.Test.YthijeiehcdoidaaGreatB3
import Derived.Test.YthijeiehcdoidaaGreatB4
import Derived.Test.YthijeiehcdoidaaGreatB14
import Derived.Test.YthijeiehcdoidaaGreatB13
import Derived.Test.YthijeiehcdoidaaGreatB1
import Derived.Deep.RegionHeld3
import Derived.Deep.DeepCutAuto
import Derived.Test.YthijeiehcdoidaaGreatB15
set_option maxHeartbeats 16000000
set_option maxRecDepth 20000
namespace Go.Proofs.YthijeiehcdoidaaGreat
open Go.RowKit
set_option linter.unusedVariables false
set_option linter.unusedSimpArgs false
theorem l5Touch_q (k1 g1 h1 x y k2 g2 h2 u v X Y D : Int) (K : Bool) (w : World) (s1 : shB k1 g1 h1 = true) (s2 : shB k2 g2 h2 = true) (p1 : inB 2560000 x y = true) (p2 : inB 2560000 u v = true) (e : toT k1 g1 h1 x y k2 g2 h2 u v = ((X, Y, D), K)) :
 Calls Tryz.prog 158 #[s3 k1 g1 h1, vv x y, s3 k2 g2 h2, vv u v] w fun e w' => e = .returned (.tuple #[s3 X Y D, .bool K]) ∧ Below w.heap.size w w' := by
 have e2 : toT k1 g1 h1 x y k2 g2 h2 u v = tcT k1 g1 h1 x y k2 g2 h2 u v := by unfold toT; rw [if_pos (by simp [*])]
 rw [e2] at e
 obtain ⟨px, py⟩ := inB_of p1
 obtain ⟨pu, pv⟩ := inB_of p2
 rcases shB_kinds s1 with ⟨rfl, rfl, a1, a2⟩ | ⟨rfl, a1, a2, a3, a4⟩ <;> rcases shB_kinds s2 with ⟨rfl, rfl, b1, b2⟩ | ⟨rfl, b1, b2, b3, b4⟩
 · exact sT_rr g1 g2 x y u v X Y D K w ⟨a1, a2⟩ ⟨b1, b2⟩ px py pu pv (by simpa [tcT] using e)
 · exact sT_rb g1 g2 h2 x y u v X Y D K w ⟨a1, a2⟩ ⟨b1, b2⟩ ⟨b3, b4⟩ px py pu pv (by simpa [tcT] using e)
 · exact sT_br g1 h1 g2 x y u v X Y D K w ⟨a1, a2⟩ ⟨a3, a4⟩ ⟨b1, b2⟩ px py pu pv (by simpa [tcT] using e)
 · exact sT_bb g1 h1 g2 h2 x y u v X Y D K w ⟨a1, a2⟩ ⟨a3, a4⟩ ⟨b1, b2⟩ ⟨b3, b4⟩ px py pu pv (by simpa [tcT] using e)
theorem bods_sh {U : Nat → Int} {n k : Nat} (h : bodsB n U = true) (l : k < n) : shB (U (k * 12 + 1)) (U (k * 12 + 2)) (U (k * 12 + 3)) = true ∧ inB 2560000 (U (k * 12 + 4)) (U (k * 12 + 5)) = true := by
 unfold bodsB at h
 rw [Bool.and_eq_true] at h
 have h2 : bodyB (fun j => U (k * 12 + j)) = true := by
  have key : ∀ m, allBB U m = true → k < m → stepBB U k = true := by
   intro m
   induction m with
   | zero => intro _ l; omega
   | succ m ih =>
    intro hm l
    unfold allBB at hm
    rw [Bool.and_eq_true] at hm
    by_cases e : k = m
    · subst e; exact hm.2
    · exact ih hm.1 (by omega)
  have := key n h.2 l
  unfold stepBB at this
  rw [Bool.and_eq_true] at this
  exact this.1
 unfold bodyB at h2
 simp only [Bool.and_eq_true] at h2
 exact ⟨h2.2.1, h2.2.2.1⟩
theorem flat5 (w : World) (p q r s u : Int) (t : TypeId) : Flat (w.alloc (Obj.cells #[.int .i64 p, .int .i64 q, .int .i64 r, .int .i64 s, .int .i64 u] t)) (some ⟨w.heap.size, 0, none⟩) (1 * 5) (ofL [p, q, r, s, u]) := by
 intro _
 refine ⟨w.heap.size, 0, rfl, by simp, fun j hj => ?_⟩
 rw [Nat.zero_add]
 rcases (show j = 0 ∨ j = 1 ∨ j = 2 ∨ j = 3 ∨ j = 4 by omega) with rfl | rfl | rfl | rfl | rfl <;> (simp only [ofL]; go_simp; (try rfl))
theorem l7Contacts_any (a : Option Addr) (n c : Nat) (U : Nat → Int) (w : World) (h : Flat w a (n * 12) U) (hok : bodsB n U = true) (hn : n ≤ 12) :
 Calls Tryz.prog 139 #[.slice a n c] w fun e w' => ∃ a' m c', e = .returned (.slice a' m c') ∧ (conL (colOf U) n).length = m * 5 ∧ OutL w w' 195 5 a' m c' (ofL (conL (colOf U) n)) := by
 have hset := cset_map
 go_enter Tryz.func139, Tryz.ntmps139
 go_wp2
 go_loopw [3, 4, 5, 6, 7] (fun s3 s4 _ _ _ wr => ∃ i a' m c', i ≤ n ∧ s4 = .int .i64 (i : Int) ∧ s3 = .slice a' m c' ∧ LsV w wr 195 5 a' m c' (conOut (colOf U) n i)) (fun _ s4 _ _ _ _ => n - (intOf s4).toNat)
 case atStart => exact ⟨0, _, _, _, Nat.zero_le _, rfl, rfl, LsV.new w _ _⟩
 case round =>
  obtain ⟨i, a', m, c', hi, rfl, rfl, hL⟩ := hrel
  by_cases hlt : i < n
  · have hin : (i : Int) < (n : Int) := by omega
    obtain ⟨b, o, rfl, hbl, hc⟩ := h (by omega)
    obtain ⟨si, qi⟩ := bods_sh hok hlt
    obtain ⟨mm, hm1, hm2⟩ := conOut_len (colOf U) n i
    have hm6 : i * n ≤ 12 * 12 := Nat.mul_le_mul (by omega) hn
    go_wp2
    go_loopw [3, 5, 6, 7] (fun s3 s5 _ _ wr => ∃ k a' m c', i < k ∧ k ≤ n ∧ s5 = .int .i64 (k : Int) ∧ s3 = .slice a' m c' ∧ LsV w wr 195 5 a' m c' (conOut (colOf U) n i ++ conIn (colOf U) i k)) (fun _ s5 _ _ _ => n - (intOf s5).toNat)
    case atStart => exact ⟨i + 1, _, _, _, by omega, by omega, by go_num, rfl, by rw [conIn_ge i (i + 1) (Nat.le_refl _), List.append_nil]; exact hL⟩
    case round =>
     clear hL
     obtain ⟨k, a2, m2, c2, hik, hk, rfl, rfl, hL⟩ := hrel
     by_cases hlk : k < n
     · have hkn : (k : Int) < (n : Int) := by omega
       obtain ⟨sk, qk⟩ := bods_sh hok hlk
       obtain ⟨mk, hm3, hm4⟩ := conIn_len (colOf U) i k
       have hm5 := hL.len
       rw [List.length_append, hm1, hm3] at hm5
       have hc' : ∀ q, q < n * 12 → wr.cell? ⟨b, o + q, none⟩ = some (.int .i64 (U q)) := fun q hq => (hL.bel.cell (p := ⟨b, o + q, none⟩) hbl).trans (hc q hq)
       have hzr := hL.bel.size
       have ci1 := hc' (i * 12 + 1) (by omega)
       have ck1 := hc' (k * 12 + 1) (by omega)
       have ci2 := hc' (i * 12 + 2) (by omega)
       have ck2 := hc' (k * 12 + 2) (by omega)
       have ci3 := hc' (i * 12 + 3) (by omega)
       have ck3 := hc' (k * 12 + 3) (by omega)
       have ci4 := hc' (i * 12 + 4) (by omega)
       have ck4 := hc' (k * 12 + 4) (by omega)
       have ci5 := hc' (i * 12 + 5) (by omega)
       have ck5 := hc' (k * 12 + 5) (by omega)
       have ci8 := hc' (i * 12 + 8) (by omega)
       have ck8 := hc' (k * 12 + 8) (by omega)
       simp only [← Nat.add_assoc] at ci1 ck1 ci2 ck2 ci3 ck3 ci4 ck4 ci5 ck5 ci8 ck8
       clear hc'
       by_cases hfx : U (i * 12 + 8) = 0 ∧ U (k * 12 + 8) = 0
       · obtain ⟨f1, f2⟩ := hfx
         have hno : Shut (conOne (colOf U) i k = []) := conOne_no (by unfold conB colOf; rw [f1, f2]; simp)
         rw [f1] at ci8
         rw [f2] at ck8
         go_wp2
         go_roundw
         case rel => exact ⟨k + 1, _, _, _, by omega, by omega, by go_num, rfl, by rw [conIn, hno.out, List.append_nil]; exact hL⟩
         case measure => simp [intOf]; omega
       · obtain ⟨TX, TY, TD, TJ, hT⟩ : ∃ TX TY TD TJ, tcH (colOf U) i k = ((TX, TY, TD), TJ) := ⟨_, _, _, _, rfl⟩
         have hfx' : Shut (¬ (U (i * 12 + 8) = 0 ∧ U (k * 12 + 8) = 0)) := hfx
         have key : ∀ (g : Prop), (U (i * 12 + 8) ≠ 0 → g) → (U (i * 12 + 8) = 0 → U (k * 12 + 8) ≠ 0 → g) → g := fun g h1 h2 => by
          by_cases e : U (i * 12 + 8) = 0
          · exact h2 e (fun e2 => hfx ⟨e, e2⟩)
          · exact h1 e
         clear hfx
         go_upto_region 8 with fail
         go_cut [36] (fun s wc => s = .bool false ∧ wr = wc)
         case first =>
          refine key _ (fun e => ?_) (fun e1 e2 => ?_)
          · have e' : decide (U (i * 12 + 8) = 0) = false := decide_eq_false e
            have e3 : (U (i * 12 + 8) == 0) = false := by simp [e]
            go_wp2
            go_meet
            exact ⟨by first | rfl | simp [e3], rfl⟩
          · have e' : decide (U (k * 12 + 8) = 0) = false := decide_eq_false e2
            have e3 : (U (k * 12 + 8) == 0) = false := by simp [e2]
            rw [e1] at ci8
            go_wp2
            go_meet
            exact ⟨by first | rfl | simp [e3], rfl⟩
         case rest =>
         obtain ⟨rfl, rfl⟩ := hcut
         clear key ci8 ck8
         go_upto_region 9 with fail
         go_cut [6, 7] (fun s6 s7 wd => ∃ bh, s6 = .pointer (some ⟨bh, 0, none⟩) ∧ s7 = .bool TJ ∧ wd.cell? ⟨bh, 0, none⟩ = some (.int .i64 TX) ∧ wd.cell? ⟨bh, 1, none⟩ = some (.int .i64 TY) ∧ wd.cell? ⟨bh, 2, none⟩ = some (.int .i64 TD) ∧ bh < wd.heap.size ∧ wr.heap.size ≤ bh ∧ Below wr.heap.size wr wd)
         case first =>
          refine wp_region_held_drew (S := fun w' => w'.cell? ⟨b, o + i * 12 + 1, none⟩ = some (.int .i64 (U (i * 12 + 1))) ∧ w'.cell? ⟨b, o + i * 12 + 2, none⟩ = some (.int .i64 (U (i * 12 + 2))) ∧ w'.cell? ⟨b, o + i * 12 + 3, none⟩ = some (.int .i64 (U (i * 12 + 3))) ∧ w'.cell? ⟨b, o + i * 12 + 4, none⟩ = some (.int .i64 (U (i * 12 + 4))) ∧ w'.cell? ⟨b, o + i * 12 + 5, none⟩ = some (.int .i64 (U (i * 12 + 5))) ∧ w'.cell? ⟨b, o + k * 12 + 1, none⟩ = some (.int .i64 (U (k * 12 + 1))) ∧ w'.cell? ⟨b, o + k * 12 + 2, none⟩ = some (.int .i64 (U (k * 12 + 2))) ∧ w'.cell? ⟨b, o + k * 12 + 3, none⟩ = some (.int .i64 (U (k * 12 + 3))) ∧ w'.cell? ⟨b, o + k * 12 + 4, none⟩ = some (.int .i64 (U (k * 12 + 4))) ∧ w'.cell? ⟨b, o + k * 12 + 5, none⟩ = some (.int .i64 (U (k * 12 + 5)))) (by kernel_rfl) ?_ (fun hHeld => ?_)
          · (try dsimp only)
            (first | (go_simp; done) | (go_keep; done))
          refine tq 0 hHeld ?_
          refine tq 1 hHeld ?_
          refine tq 2 hHeld ?_
          refine tq 3 hHeld ?_
          refine tq 4 hHeld ?_
          refine tq 5 hHeld ?_
          refine tq 6 hHeld ?_
          refine tq 7 hHeld ?_
          refine tq 8 hHeld ?_
          refine tq 9 hHeld ?_
          refine tq 10 hHeld ?_
          refine tq 11 hHeld ?_
          refine tq 12 hHeld ?_
          refine tq 13 hHeld ?_
          refine tq 14 hHeld ?_
          refine tq 15 hHeld ?_
          refine tq 16 hHeld ?_
          refine tq 17 hHeld ?_
          refine tq 18 hHeld ?_
          refine tq 19 hHeld ?_
          refine wpAnyH_ready (rs := [20, 24]) (by kernel_rfl) (by simp) ?_
          refine AllReadyH.cons rfl (fun K hK => ?_) (AllReadyH.cons rfl (fun K hK => ?_) AllReadyH.nil)
          · (go_simp; (go_at_call 158; refine (l5Touch_q _ _ _ _ _ _ _ _ _ _ TX TY TD TJ _ si sk qi qk hT).mono ?_; rintro e w3 ⟨rfl, hb3⟩; have hz3 := hb3.size; (try simp only [zz] at hz3); have := kfa hb3 b; have hk3z := fun o => hb3.cell (p := ⟨wr.heap.size, o, none⟩); have hj3z := fun o => hb3.frozen (p := ⟨wr.heap.size, o, none⟩); (try simp only [World.size_drew, World.size_alloc] at hk3z hj3z)); (try go_wp2_with fail); refine tr hK (fun hHeld => ?_); clear hK K)
            refine tq 21 hHeld ?_
            refine tq 22 hHeld ?_
            refine tq 23 hHeld ?_
            refine tc 24 fun K hK => ?_
            (go_simp; refine tr hK (fun hHeld => ?_); clear hK K)
            refine tc 25 fun K hK => ?_
            (go_simp; refine tr hK (fun hHeld => ?_); clear hK K)
            refine tq 26 hHeld ?_
            refine wpAnyH_done (by kernel_rfl) ?_ _
            go_wp2_with fail
            go_meet
            exact ⟨_, rfl, rfl, by go_simp, by go_simp, by go_simp, by first | (simp; omega) | simp | omega, by first | (simp; omega) | simp | omega, bel_a⟩
          · (go_simp; refine tr hK (fun hHeld => ?_); clear hK K)
            refine tc 20 fun K hK => ?_
            (go_simp; (go_at_call 158; refine (l5Touch_q _ _ _ _ _ _ _ _ _ _ TX TY TD TJ _ si sk qi qk hT).mono ?_; rintro e w3 ⟨rfl, hb3⟩; have hz3 := hb3.size; (try simp only [zz] at hz3); have := kfa hb3 b; have hk3z := fun o => hb3.cell (p := ⟨wr.heap.size, o, none⟩); have hj3z := fun o => hb3.frozen (p := ⟨wr.heap.size, o, none⟩); (try simp only [World.size_drew, World.size_alloc] at hk3z hj3z)); (try go_wp2_with fail); refine tr hK (fun hHeld => ?_); clear hK K)
            refine tq 21 hHeld ?_
            refine tq 22 hHeld ?_
            refine tq 23 hHeld ?_
            refine tc 25 fun K hK => ?_
            (go_simp; refine tr hK (fun hHeld => ?_); clear hK K)
            refine tq 26 hHeld ?_
            refine wpAnyH_done (by kernel_rfl) ?_ _
            go_wp2_with fail
            go_meet
            exact ⟨_, rfl, rfl, by go_simp, by go_simp, by go_simp, by first | (simp; omega) | simp | omega, by first | (simp; omega) | simp | omega, bel_a⟩
         case rest =>
         obtain ⟨bh, rfl, rfl, t0, t1, t2, hbh, hbh0, hbd⟩ := hcut
         have hLd := hL.below hbd
         cases TJ with
         | false =>
          have hno : Shut (conOne (colOf U) i k = []) := conOne_no (by unfold conB; rw [hT]; simp)
          go_wp2
          go_roundw
          case rel => exact ⟨k + 1, _, _, _, by omega, by omega, by go_num, rfl, by rw [conIn, hno.out, List.append_nil]; exact hLd⟩
          case measure => simp [intOf]; omega
         | true =>
          have hyes : Shut (conOne (colOf U) i k = [(i : Int), (k : Int), TX, TY, TD]) := conOne_yes (conB_yes hik hfx'.out hT) hT
          go_wp2_with (refine wpList_app rfl _ _ _ rfl w.heap.size 195 5 40 (.agg #[.int .i64 0, .int .i64 0, .int .i64 0, .int .i64 0, .int .i64 0]) Tryz.underlying185 (by kernel_rfl) (by rfl) (by omega) (.slice a2 m2 c2) m2 (ofL (conOut (colOf U) n i ++ conIn (colOf U) i k)) rfl (hLd.below ((Below.refl _ _).alloc (Nat.le_refl _) _)).own _ 1 _ (ofL [(i : Int), (k : Int), TX, TY, TD]) rfl (flat5 _ _ _ _ _ _ _) (by unfold maxLen; omega) (by omega) (by simp only [World.size_alloc]; have := hLd.bel.size; omega) ?_; intro a1 c1 w1 ho1 hg1)
          have hP := (hLd.below ((Below.refl _ _).alloc (Nat.le_refl _) _)).push (x := [(i : Int), (k : Int), TX, TY, TD]) rfl hg1 ho1
          go_roundw
          case rel => exact ⟨k + 1, _, _, _, by omega, by omega, by go_num, rfl, by rw [conIn, hyes.out, ← List.append_assoc]; exact hP⟩
          case measure => simp [intOf]; omega
     · obtain rfl : k = n := by omega
       go_wp2
       go_roundw
       case rel => exact ⟨i + 1, _, _, _, by omega, by go_num, rfl, hL⟩
       case measure => simp [intOf]; omega
  · obtain rfl : i = n := by omega
    go_wp2
    go_ret
    exact ⟨_, _, _, rfl, hL.len, hL.bel, hL.own⟩
def rowU (U : Nat → Int) (z : Int) : Nat → Int := fun j => U (z.toNat * 12 + j)
def liveC (U C : Nat → Int) (k : Nat) : Bool := liveV (rowU U (C (k * 5))) || liveV (rowU U (C (k * 5 + 1)))
def liveL (U C : Nat → Int) : Nat → List Int
 | 0 => []
 | k + 1 => liveL U C k ++ (if liveC U C k = true then [C (k * 5), C (k * 5 + 1), C (k * 5 + 2), C (k * 5 + 3), C (k * 5 + 4)] else [])
theorem liveL_yes {U C : Nat → Int} {k : Nat} (h : liveC U C k = true) : liveL U C (k + 1) = liveL U C k ++ [C (k * 5), C (k * 5 + 1), C (k * 5 + 2), C (k * 5 + 3), C (k * 5 + 4)] := by rw [liveL, if_pos h]
theorem liveL_no {U C : Nat → Int} {k : Nat} (h : liveC U C k = false) : liveL U C (k + 1) = liveL U C k := by rw [liveL, if_neg (by rw [h]; decide), List.append_nil]
theorem liveL_len (U C : Nat → Int) : ∀ k, (liveL U C k).length ≤ k * 5
 | 0 => by simp [liveL]
 | k + 1 => by
  have := liveL_len U C k
  cases h : liveC U C k with
  | true => rw [liveL_yes h, List.length_append]; simp; omega
  | false => rw [liveL_no h]; omega
abbrev zcCon : Value := .agg #[.int .i64 0, .int .i64 0, .int .i64 0, .int .i64 0, .int .i64 0]
theorem infoCon : (Tryz.prog.info? 195).map (fun i => (i.zero, i.size, i.bytes)) = some (some zcCon, 5, 40) := by kernel_rfl
theorem flatC (w : World) (p q r s u : Int) (t : TypeId) : Flat (w.alloc (Obj.cells #[.int .i64 p, .int .i64 q, .int .i64 r, .int .i64 s, .int .i64 u] t)) (some ⟨w.heap.size, 0, none⟩) (1 * 5) (ofL [p, q, r, s, u]) := by
 intro _
 refine ⟨w.heap.size, 0, rfl, by simp, fun j hj => ?_⟩
 rw [Nat.zero_add]
 rcases (show j = 0 ∨ j = 1 ∨ j = 2 ∨ j = 3 ∨ j = 4 by omega) with rfl | rfl | rfl | rfl | rfl <;> (simp only [ofL]; go_simp; (try rfl))
theorem l9Live_any (a : Option Addr) (n c : Nat) (U : Nat → Int) (ac : Option Addr) (m cc : Nat) (C : Nat → Int) (w : World) (h : Flat w a (n * 12) U) (hn : n ≤ 1048576) (hm : m ≤ 1048576) (h2 : Flat w ac (m * 5) C) (hC : ∀ k, k < m → (0 ≤ C (k * 5) ∧ C (k * 5) < (n : Int)) ∧ (0 ≤ C (k * 5 + 1) ∧ C (k * 5 + 1) < (n : Int))) :
 Calls Tryz.prog 143 #[.slice a n c, .slice ac m cc] w fun e w' => ∃ a1 m1 c1, e = .returned (.slice a1 m1 c1) ∧ (liveL U C m).length = m1 * 5 ∧ OutL w w' 195 5 a1 m1 c1 (ofL (liveL U C m)) := by
 have hset := cset_map
 go_enter Tryz.func143, Tryz.ntmps143
 go_wp2_with fail
 go_loopw [5, 6, 7, 8] (fun s5 s6 _ _ wr => ∃ (k : Nat) (a1 : Option Addr) (m1 c1 : Nat), k ≤ m ∧ s6 = .int .i64 (k : Int) ∧ s5 = .slice a1 m1 c1 ∧ LsV w wr 195 5 a1 m1 c1 (liveL U C k)) (fun _ s6 _ _ _ => m - (intOf s6).toNat)
 case atStart => exact ⟨0, _, _, _, Nat.zero_le _, rfl, rfl, LsV.new w _ _⟩
 case round =>
  obtain ⟨k, a1, m1, c1, hk, rfl, rfl, hL⟩ := hrel
  by_cases hlt : k < m
  · have hkm : (k : Int) < (m : Int) := by omega
    obtain ⟨⟨cA0, cA1⟩, ⟨cB0, cB1⟩⟩ := hC k hlt
    obtain ⟨b2, o2, e2, hbl2, hc2⟩ := (h2.below hL.bel) (by omega)
    have r0 := hc2 (k * 5) (by omega)
    have r1 := hc2 (k * 5 + 1) (by omega)
    have r2 := hc2 (k * 5 + 2) (by omega)
    have r3 := hc2 (k * 5 + 3) (by omega)
    have r4 := hc2 (k * 5 + 4) (by omega)
    simp only [← Nat.add_assoc] at r0 r1 r2 r3 r4
    clear hc2
    subst e2
    obtain ⟨LV, hLVe⟩ : ∃ b, liveC U C k = b := ⟨_, rfl⟩
    have hLV : Shut (liveC U C k = LV) := hLVe
    clear hLVe
    obtain ⟨zA, hzAe⟩ : ∃ z, C (k * 5) = z := ⟨_, rfl⟩
    obtain ⟨zB, hzBe⟩ : ∃ z, C (k * 5 + 1) = z := ⟨_, rfl⟩
    rw [hzAe] at r0 cA0 cA1
    rw [hzBe] at r1 cB0 cB1
    have hzA : Shut (C (k * 5) = zA) := hzAe
    have hzB : Shut (C (k * 5 + 1) = zB) := hzBe
    clear hzAe hzBe
    obtain ⟨b, o, e1, hbl, hc⟩ := (h.below hL.bel) (by omega)
    have p0 := hc (zA.toNat * 12) (by omega)
    have p1 := hc (zA.toNat * 12 + 1) (by omega)
    have p2 := hc (zA.toNat * 12 + 2) (by omega)
    have p3 := hc (zA.toNat * 12 + 3) (by omega)
    have p4 := hc (zA.toNat * 12 + 4) (by omega)
    have p5 := hc (zA.toNat * 12 + 5) (by omega)
    have p6 := hc (zA.toNat * 12 + 6) (by omega)
    have p7 := hc (zA.toNat * 12 + 7) (by omega)
    have p8 := hc (zA.toNat * 12 + 8) (by omega)
    have p9 := hc (zA.toNat * 12 + 9) (by omega)
    have p10 := hc (zA.toNat * 12 + 10) (by omega)
    have p11 := hc (zA.toNat * 12 + 11) (by omega)
    have q0 := hc (zB.toNat * 12) (by omega)
    have q1 := hc (zB.toNat * 12 + 1) (by omega)
    have q2 := hc (zB.toNat * 12 + 2) (by omega)
    have q3 := hc (zB.toNat * 12 + 3) (by omega)
    have q4 := hc (zB.toNat * 12 + 4) (by omega)
    have q5 := hc (zB.toNat * 12 + 5) (by omega)
    have q6 := hc (zB.toNat * 12 + 6) (by omega)
    have q7 := hc (zB.toNat * 12 + 7) (by omega)
    have q8 := hc (zB.toNat * 12 + 8) (by omega)
    have q9 := hc (zB.toNat * 12 + 9) (by omega)
    have q10 := hc (zB.toNat * 12 + 10) (by omega)
    have q11 := hc (zB.toNat * 12 + 11) (by omega)
    simp only [← Nat.add_assoc] at p0 q0 p1 q1 p2 q2 p3 q3 p4 q4 p5 q5 p6 q6 p7 q7 p8 q8 p9 q9 p10 q10 p11 q11
    clear hc
    subst e1
    go_upto_region 7 with fail
    obtain ⟨wa, hwa⟩ : ∃ x, (wr.alloc (Obj.cells #[.int .i64 (U (zA.toNat * 12)), .int .i64 (U (zA.toNat * 12 + 1)), .int .i64 (U (zA.toNat * 12 + 2)), .int .i64 (U (zA.toNat * 12 + 3)), .int .i64 (U (zA.toNat * 12 + 4)), .int .i64 (U (zA.toNat * 12 + 5)), .int .i64 (U (zA.toNat * 12 + 6)), .int .i64 (U (zA.toNat * 12 + 7)), .int .i64 (U (zA.toNat * 12 + 8)), .int .i64 (U (zA.toNat * 12 + 9)), .int .i64 (U (zA.toNat * 12 + 10)), .int .i64 (U (zA.toNat * 12 + 11))] 41)) = x := ⟨_, rfl⟩
    obtain ⟨wx, hwx⟩ : ∃ x, wa.alloc (Obj.cells #[.int .i64 (U (zB.toNat * 12)), .int .i64 (U (zB.toNat * 12 + 1)), .int .i64 (U (zB.toNat * 12 + 2)), .int .i64 (U (zB.toNat * 12 + 3)), .int .i64 (U (zB.toNat * 12 + 4)), .int .i64 (U (zB.toNat * 12 + 5)), .int .i64 (U (zB.toNat * 12 + 6)), .int .i64 (U (zB.toNat * 12 + 7)), .int .i64 (U (zB.toNat * 12 + 8)), .int .i64 (U (zB.toNat * 12 + 9)), .int .i64 (U (zB.toNat * 12 + 10)), .int .i64 (U (zB.toNat * 12 + 11))] 41) = x := ⟨_, rfl⟩
    have hE1 : Below wr.heap.size wr wa := by rw [← hwa]; exact (Below.refl _ _).alloc (Nat.le_refl _) _
    have hE2 : Below wa.heap.size wa wx := by rw [← hwx]; exact (Below.refl _ _).alloc (Nat.le_refl _) _
    have hL2 := (hL.below hE1).below hE2
    have x0A : wx.cell? ⟨wr.heap.size, 0, none⟩ = some (.int .i64 (U (zA.toNat * 12))) := by subst hwx hwa; go_simp
    have x1A : wx.cell? ⟨wr.heap.size, 1, none⟩ = some (.int .i64 (U (zA.toNat * 12 + 1))) := by subst hwx hwa; go_simp
    have x2A : wx.cell? ⟨wr.heap.size, 2, none⟩ = some (.int .i64 (U (zA.toNat * 12 + 2))) := by subst hwx hwa; go_simp
    have x3A : wx.cell? ⟨wr.heap.size, 3, none⟩ = some (.int .i64 (U (zA.toNat * 12 + 3))) := by subst hwx hwa; go_simp
    have x4A : wx.cell? ⟨wr.heap.size, 4, none⟩ = some (.int .i64 (U (zA.toNat * 12 + 4))) := by subst hwx hwa; go_simp
    have x5A : wx.cell? ⟨wr.heap.size, 5, none⟩ = some (.int .i64 (U (zA.toNat * 12 + 5))) := by subst hwx hwa; go_simp
    have x6A : wx.cell? ⟨wr.heap.size, 6, none⟩ = some (.int .i64 (U (zA.toNat * 12 + 6))) := by subst hwx hwa; go_simp
    have x7A : wx.cell? ⟨wr.heap.size, 7, none⟩ = some (.int .i64 (U (zA.toNat * 12 + 7))) := by subst hwx hwa; go_simp
    have x8A : wx.cell? ⟨wr.heap.size, 8, none⟩ = some (.int .i64 (U (zA.toNat * 12 + 8))) := by subst hwx hwa; go_simp
    have x9A : wx.cell? ⟨wr.heap.size, 9, none⟩ = some (.int .i64 (U (zA.toNat * 12 + 9))) := by subst hwx hwa; go_simp
    have x10A : wx.cell? ⟨wr.heap.size, 10, none⟩ = some (.int .i64 (U (zA.toNat * 12 + 10))) := by subst hwx hwa; go_simp
    have x11A : wx.cell? ⟨wr.heap.size, 11, none⟩ = some (.int .i64 (U (zA.toNat * 12 + 11))) := by subst hwx hwa; go_simp
    have x0B : wx.cell? ⟨wr.heap.size + 1, 0, none⟩ = some (.int .i64 (U (zB.toNat * 12))) := by subst hwx hwa; go_simp
    have x1B : wx.cell? ⟨wr.heap.size + 1, 1, none⟩ = some (.int .i64 (U (zB.toNat * 12 + 1))) := by subst hwx hwa; go_simp
    have x2B : wx.cell? ⟨wr.heap.size + 1, 2, none⟩ = some (.int .i64 (U (zB.toNat * 12 + 2))) := by subst hwx hwa; go_simp
    have x3B : wx.cell? ⟨wr.heap.size + 1, 3, none⟩ = some (.int .i64 (U (zB.toNat * 12 + 3))) := by subst hwx hwa; go_simp
    have x4B : wx.cell? ⟨wr.heap.size + 1, 4, none⟩ = some (.int .i64 (U (zB.toNat * 12 + 4))) := by subst hwx hwa; go_simp
    have x5B : wx.cell? ⟨wr.heap.size + 1, 5, none⟩ = some (.int .i64 (U (zB.toNat * 12 + 5))) := by subst hwx hwa; go_simp
    have x6B : wx.cell? ⟨wr.heap.size + 1, 6, none⟩ = some (.int .i64 (U (zB.toNat * 12 + 6))) := by subst hwx hwa; go_simp
    have x7B : wx.cell? ⟨wr.heap.size + 1, 7, none⟩ = some (.int .i64 (U (zB.toNat * 12 + 7))) := by subst hwx hwa; go_simp
    have x8B : wx.cell? ⟨wr.heap.size + 1, 8, none⟩ = some (.int .i64 (U (zB.toNat * 12 + 8))) := by subst hwx hwa; go_simp
    have x9B : wx.cell? ⟨wr.heap.size + 1, 9, none⟩ = some (.int .i64 (U (zB.toNat * 12 + 9))) := by subst hwx hwa; go_simp
    have x10B : wx.cell? ⟨wr.heap.size + 1, 10, none⟩ = some (.int .i64 (U (zB.toNat * 12 + 10))) := by subst hwx hwa; go_simp
    have x11B : wx.cell? ⟨wr.heap.size + 1, 11, none⟩ = some (.int .i64 (U (zB.toNat * 12 + 11))) := by subst hwx hwa; go_simp
    have hla : wr.heap.size < wx.heap.size := by subst hwx hwa; simp; omega
    have hlb : wr.heap.size + 1 < wx.heap.size := by subst hwx hwa; simp
    have hrk : ∀ j, j < 5 → wx.cell? ⟨b2, o2 + (k * 5 + j), none⟩ = wr.cell? ⟨b2, o2 + (k * 5 + j), none⟩ := fun j hj => by subst hwx hwa; go_simp
    rw [hwa, hwx]
    clear hwx hwa
    generalize wr.heap.size + 1 = bb at hlb x0B x1B x2B x3B x4B x5B x6B x7B x8B x9B x10B x11B ⊢
    clear hL p0 q0 p1 q1 p2 q2 p3 q3 p4 q4 p5 q5 p6 q6 p7 q7 p8 q8 p9 q9 p10 q10 p11 q11 r0 r1 r2 r3 r4 hrk hE2
    generalize wr.heap.size = ba at hla hE1 x0A x1A x2A x3A x4A x5A x6A x7A x8A x9A x10A x11A ⊢
    clear hE1
    obtain ⟨SA, hSA⟩ : ∃ b, decide (8 ≤ (rowU U zA) 11) = b := ⟨_, rfl⟩
    obtain ⟨SB, hSB⟩ : ∃ b, decide (8 ≤ (rowU U zB) 11) = b := ⟨_, rfl⟩
    go_cut [49] (fun s wc => s = .bool LV ∧ LsV w wc 195 5 a1 m1 c1 (liveL U C k))
    case first =>
     by_cases hmA : 0 < U (zA.toNat * 12 + 8)
     · cases SA with
       | false =>
        have LA : Shut (liveV (rowU U zA) = true) := live_t (V := rowU U zA) hmA hSA
        go_wp2_with (go_at_call 160; refine (l6Sleeps_k (rowU U zA) _ false hSA).mono ?_; rintro e w7 ⟨rfl, hb7⟩)
        go_meet
        exact ⟨by rw [← hLV.out]; unfold liveC; rw [hzA.out, hzB.out, LA.out]; rfl, (hL2.below hb7)⟩
       | true =>
        have LA : Shut (liveV (rowU U zA) = false) := live_s hSA
        by_cases hmB : 0 < U (zB.toNat * 12 + 8)
        · cases SB with
          | true =>
           have LB : Shut (liveV (rowU U zB) = false) := live_s hSB
           go_wp2_with (first
            | (have _ := hb7; go_at_call 160; refine (l6Sleeps_k (rowU U zB) _ true hSB).mono ?_; rintro e w8 ⟨rfl, hb8⟩)
            | (go_at_call 160; refine (l6Sleeps_k (rowU U zA) _ true hSA).mono ?_; rintro e w7 ⟨rfl, hb7⟩; obtain ⟨hc7, hf7⟩ := bcell hb7; have y0 := (hc7 bb 0 hlb).trans x0B; have y1 := (hc7 bb 1 hlb).trans x1B; have y2 := (hc7 bb 2 hlb).trans x2B; have y3 := (hc7 bb 3 hlb).trans x3B; have y4 := (hc7 bb 4 hlb).trans x4B; have y5 := (hc7 bb 5 hlb).trans x5B; have y6 := (hc7 bb 6 hlb).trans x6B; have y7 := (hc7 bb 7 hlb).trans x7B; have y8 := (hc7 bb 8 hlb).trans x8B; have y9 := (hc7 bb 9 hlb).trans x9B; have y10 := (hc7 bb 10 hlb).trans x10B; have y11 := (hc7 bb 11 hlb).trans x11B; clear hc7 hf7))
           go_meet
           exact ⟨by rw [← hLV.out]; unfold liveC; rw [hzA.out, hzB.out, LA.out, LB.out]; rfl, ((hL2.below hb7).below hb8)⟩
          | false =>
           have LB : Shut (liveV (rowU U zB) = true) := live_t (V := rowU U zB) hmB hSB
           go_wp2_with (first
            | (have _ := hb7; go_at_call 160; refine (l6Sleeps_k (rowU U zB) _ false hSB).mono ?_; rintro e w8 ⟨rfl, hb8⟩)
            | (go_at_call 160; refine (l6Sleeps_k (rowU U zA) _ true hSA).mono ?_; rintro e w7 ⟨rfl, hb7⟩; obtain ⟨hc7, hf7⟩ := bcell hb7; have y0 := (hc7 bb 0 hlb).trans x0B; have y1 := (hc7 bb 1 hlb).trans x1B; have y2 := (hc7 bb 2 hlb).trans x2B; have y3 := (hc7 bb 3 hlb).trans x3B; have y4 := (hc7 bb 4 hlb).trans x4B; have y5 := (hc7 bb 5 hlb).trans x5B; have y6 := (hc7 bb 6 hlb).trans x6B; have y7 := (hc7 bb 7 hlb).trans x7B; have y8 := (hc7 bb 8 hlb).trans x8B; have y9 := (hc7 bb 9 hlb).trans x9B; have y10 := (hc7 bb 10 hlb).trans x10B; have y11 := (hc7 bb 11 hlb).trans x11B; clear hc7 hf7))
           go_meet
           exact ⟨by rw [← hLV.out]; unfold liveC; rw [hzA.out, hzB.out, LA.out, LB.out]; rfl, ((hL2.below hb7).below hb8)⟩
        · have LB : Shut (liveV (rowU U zB) = false) := live_m (V := rowU U zB) hmB
          go_wp2_with (go_at_call 160; refine (l6Sleeps_k (rowU U zA) _ true hSA).mono ?_; rintro e w7 ⟨rfl, hb7⟩; obtain ⟨hc7, hf7⟩ := bcell hb7; have y0 := (hc7 bb 0 hlb).trans x0B; have y1 := (hc7 bb 1 hlb).trans x1B; have y2 := (hc7 bb 2 hlb).trans x2B; have y3 := (hc7 bb 3 hlb).trans x3B; have y4 := (hc7 bb 4 hlb).trans x4B; have y5 := (hc7 bb 5 hlb).trans x5B; have y6 := (hc7 bb 6 hlb).trans x6B; have y7 := (hc7 bb 7 hlb).trans x7B; have y8 := (hc7 bb 8 hlb).trans x8B; have y9 := (hc7 bb 9 hlb).trans x9B; have y10 := (hc7 bb 10 hlb).trans x10B; have y11 := (hc7 bb 11 hlb).trans x11B; clear hc7 hf7)
          go_meet
          exact ⟨by rw [← hLV.out]; unfold liveC; rw [hzA.out, hzB.out, LA.out, LB.out]; rfl, (hL2.below hb7)⟩
     · have LA : Shut (liveV (rowU U zA) = false) := live_m (V := rowU U zA) hmA
       by_cases hmB : 0 < U (zB.toNat * 12 + 8)
       · cases SB with
         | true =>
          have LB : Shut (liveV (rowU U zB) = false) := live_s hSB
          go_wp2_with (go_at_call 160; refine (l6Sleeps_k (rowU U zB) _ true hSB).mono ?_; rintro e w8 ⟨rfl, hb8⟩)
          go_meet
          exact ⟨by rw [← hLV.out]; unfold liveC; rw [hzA.out, hzB.out, LA.out, LB.out]; rfl, (hL2.below hb8)⟩
         | false =>
          have LB : Shut (liveV (rowU U zB) = true) := live_t (V := rowU U zB) hmB hSB
          go_wp2_with (go_at_call 160; refine (l6Sleeps_k (rowU U zB) _ false hSB).mono ?_; rintro e w8 ⟨rfl, hb8⟩)
          go_meet
          exact ⟨by rw [← hLV.out]; unfold liveC; rw [hzA.out, hzB.out, LA.out, LB.out]; rfl, (hL2.below hb8)⟩
       · have LB : Shut (liveV (rowU U zB) = false) := live_m (V := rowU U zB) hmB
         go_wp2_with fail
         go_meet
         exact ⟨by rw [← hLV.out]; unfold liveC; rw [hzA.out, hzB.out, LA.out, LB.out]; rfl, hL2⟩
    case rest =>
    clear hL2 hla hlb hSA hSB x0A x0B x1A x1B x2A x2B x3A x3B x4A x4B x5A x5B x6A x6B x7A x7B x8A x8B x9A x9B x10A x10B x11A x11B
    obtain ⟨rfl, hL⟩ := hcut
    cases LV with
    | false =>
     have HNO : Shut (liveL U C (k + 1) = liveL U C k) := liveL_no hLV.out
     go_wp2_with fail
     go_roundw
     case rel => exact ⟨k + 1, _, _, _, by omega, by go_num, rfl, by rw [HNO.out]; exact hL⟩
     case measure => simp [intOf]; omega
    | true =>
     have HYE : Shut (liveL U C (k + 1) = liveL U C k ++ [zA, zB, C (k * 5 + 2), C (k * 5 + 3), C (k * 5 + 4)]) := by show _ = _; rw [liveL_yes hLV.out, hzA.out, hzB.out]
     obtain ⟨b2', o2', e2, hbl2', hc2⟩ := (h2.below hL.bel) (by omega)
     simp only [Option.some.injEq, Addr.mk.injEq, and_true] at e2
     obtain ⟨rfl, rfl⟩ := e2
     have r0 := hc2 (k * 5) (by omega)
     have r1 := hc2 (k * 5 + 1) (by omega)
     have r2 := hc2 (k * 5 + 2) (by omega)
     have r3 := hc2 (k * 5 + 3) (by omega)
     have r4 := hc2 (k * 5 + 4) (by omega)
     simp only [← Nat.add_assoc] at r0 r1 r2 r3 r4
     rw [hzA.out] at r0
     rw [hzB.out] at r1
     clear hc2
     have hle := liveL_len U C k
     have hlen := hL.len
     have hwz := hL.bel.size
     go_wp2_with (refine wpList_app rfl _ _ _ rfl w.heap.size 195 5 40 zcCon Tryz.underlying185 infoCon rfl (by decide) (.slice a1 m1 c1) m1 (ofL (liveL U C k)) rfl (hL.below ((Below.refl _ _).alloc (Nat.le_refl _) _)).own _ 1 _ (ofL [zA, zB, C (k * 5 + 2), C (k * 5 + 3), C (k * 5 + 4)]) rfl (flatC _ _ _ _ _ _ _) (by unfold maxLen; omega) (by omega) (by simp only [World.size_alloc]; omega) ?_; intro a3 c3 w3 ho3 hg3)
     have hP := (hL.below ((Below.refl _ _).alloc (Nat.le_refl _) _)).push (x := [zA, zB, C (k * 5 + 2), C (k * 5 + 3), C (k * 5 + 4)]) rfl hg3 ho3
     go_roundw
     case rel => exact ⟨k + 1, _, _, _, by omega, by go_num, rfl, by rw [HYE.out]; exact hP⟩
     case measure => simp [intOf]; omega
  · obtain rfl : k = m := by omega
    go_wp2_with fail
    go_ret
    exact ⟨_, _, _, rfl, hL.len, hL.out (Below.refl _ _)⟩
end Go.Proofs.YthijeiehcdoidaaGreat
