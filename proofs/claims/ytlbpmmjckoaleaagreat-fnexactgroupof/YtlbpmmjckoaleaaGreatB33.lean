/- Texts of a proof. -/
import Derived.Test.YtlbpmmjckoaleaaGreatB15
import Derived.Test.YtlbpmmjckoaleaaGreatB32
import Derived.Test.YtlbpmmjckoaleaaGreatB3
import Derived.Test.YtlbpmmjckoaleaaGreatB28
import Derived.Deep.RegionHeld3
import Derived.Deep.DeepCutAuto
import Derived.Test.YtlbpmmjckoaleaaGreatB29
set_option maxHeartbeats 16000000
set_option maxRecDepth 20000
namespace Go.Proofs.YtlbpmmjckoaleaaGreat
open Go.RowKit
set_option linter.unusedVariables false
set_option linter.unusedSimpArgs false
theorem l5Touch_q (k1 g1 h1 x y k2 g2 h2 u v X Y D : Int) (K : Bool) (w : World) (s1 : shB k1 g1 h1 = true) (s2 : shB k2 g2 h2 = true) (p1 : inB 2560000 x y = true) (p2 : inB 2560000 u v = true) (e : toT k1 g1 h1 x y k2 g2 h2 u v = ((X, Y, D), K)) :
    Calls Tryz.prog 38 #[s3 k1 g1 h1, vv x y, s3 k2 g2 h2, vv u v] w fun e w' => e = .returned (.tuple #[s3 X Y D, .bool K]) ∧ Below w.heap.size w w' := by
  have e2 : toT k1 g1 h1 x y k2 g2 h2 u v = tcT k1 g1 h1 x y k2 g2 h2 u v := by unfold toT; rw [if_pos (by simp [*])]
  rw [e2] at e
  obtain ⟨px, py⟩ := inB_of p1
  obtain ⟨pu, pv⟩ := inB_of p2
  rcases shB_kinds s1 with ⟨rfl, rfl, a1, a2⟩ | ⟨rfl, a1, a2, a3, a4⟩ <;> rcases shB_kinds s2 with ⟨rfl, rfl, b1, b2⟩ | ⟨rfl, b1, b2, b3, b4⟩
  · exact sT_rr g1 g2 x y u v X Y D K w ⟨a1, a2⟩ ⟨b1, b2⟩ px py pu pv (by simpa [tcT] using e)
  · exact sT_rb g1 g2 h2 x y u v X Y D K w ⟨a1, a2⟩ ⟨b1, b2⟩ ⟨b3, b4⟩ px py pu pv (by simpa [tcT] using e)
  · exact sT_br g1 h1 g2 x y u v X Y D K w ⟨a1, a2⟩ ⟨a3, a4⟩ ⟨b1, b2⟩ px py pu pv (by simpa [tcT] using e)
  · exact sT_bb g1 h1 g2 h2 x y u v X Y D K w ⟨a1, a2⟩ ⟨a3, a4⟩ ⟨b1, b2⟩ ⟨b3, b4⟩ px py pu pv (by simpa [tcT] using e)
theorem bods_sh {U : Nat → Int} {n k : Nat} (h : bodsB n U = true) (l : k < n) : shB (U (k * 12 + 1)) (U (k * 12 + 2)) (U (k * 12 + 3)) = true ∧ inB 2560000 (U (k * 12 + 4)) (U (k * 12 + 5)) = true := by
  unfold bodsB at h
  rw [Bool.and_eq_true] at h
  have h2 : bodyB (fun j => U (k * 12 + j)) = true := by
    have key : ∀ m, allBB U m = true → k < m → stepBB U k = true := by
      intro m
      induction m with
      | zero => intro _ l; omega
      | succ m ih =>
        intro hm l
        unfold allBB at hm
        rw [Bool.and_eq_true] at hm
        by_cases e : k = m
        · subst e; exact hm.2
        · exact ih hm.1 (by omega)
    have := key n h.2 l
    unfold stepBB at this
    rw [Bool.and_eq_true] at this
    exact this.1
  unfold bodyB at h2
  simp only [Bool.and_eq_true] at h2
  exact ⟨h2.2.1, h2.2.2.1⟩
theorem flat5 (w : World) (p q r s u : Int) (t : TypeId) : Flat (w.alloc (Obj.cells #[.int .i64 p, .int .i64 q, .int .i64 r, .int .i64 s, .int .i64 u] t)) (some ⟨w.heap.size, 0, none⟩) (1 * 5) (ofL [p, q, r, s, u]) := by
  intro _
  refine ⟨w.heap.size, 0, rfl, by simp, fun j hj => ?_⟩
  rw [Nat.zero_add]
  rcases (show j = 0 ∨ j = 1 ∨ j = 2 ∨ j = 3 ∨ j = 4 by omega) with rfl | rfl | rfl | rfl | rfl <;> (simp only [ofL]; go_simp; (try rfl))
theorem l7Contacts_any (a : Option Addr) (n c : Nat) (U : Nat → Int) (w : World) (h : Flat w a (n * 12) U) (hok : bodsB n U = true) (hn : n ≤ 12) :
    Calls Tryz.prog 25 #[.slice a n c] w fun e w' => ∃ a' m c', e = .returned (.slice a' m c') ∧ (conL (colOf U) n).length = m * 5 ∧ OutL w w' 69 5 a' m c' (ofL (conL (colOf U) n)) := by
  have hset := cset_map
  go_enter Tryz.func25, Tryz.ntmps25
  go_wp2
  go_loopw [3, 4, 5, 6, 7] (fun s3 s4 _ _ _ wr => ∃ i a' m c', i ≤ n ∧ s4 = .int .i64 (i : Int) ∧ s3 = .slice a' m c' ∧ LsV w wr 69 5 a' m c' (conOut (colOf U) n i)) (fun _ s4 _ _ _ _ => n - (intOf s4).toNat)
  case atStart => exact ⟨0, _, _, _, Nat.zero_le _, rfl, rfl, LsV.new w _ _⟩
  case round =>
    obtain ⟨i, a', m, c', hi, rfl, rfl, hL⟩ := hrel
    by_cases hlt : i < n
    · have hin : (i : Int) < (n : Int) := by omega
      obtain ⟨b, o, rfl, hbl, hc⟩ := h (by omega)
      obtain ⟨si, qi⟩ := bods_sh hok hlt
      obtain ⟨mm, hm1, hm2⟩ := conOut_len (colOf U) n i
      have hm6 : i * n ≤ 12 * 12 := Nat.mul_le_mul (by omega) hn
      go_wp2
      go_loopw [3, 5, 6, 7] (fun s3 s5 _ _ wr => ∃ k a' m c', i < k ∧ k ≤ n ∧ s5 = .int .i64 (k : Int) ∧ s3 = .slice a' m c' ∧ LsV w wr 69 5 a' m c' (conOut (colOf U) n i ++ conIn (colOf U) i k)) (fun _ s5 _ _ _ => n - (intOf s5).toNat)
      case atStart => exact ⟨i + 1, _, _, _, by omega, by omega, by go_num, rfl, by rw [conIn_ge i (i + 1) (Nat.le_refl _), List.append_nil]; exact hL⟩
      case round =>
        clear hL
        obtain ⟨k, a2, m2, c2, hik, hk, rfl, rfl, hL⟩ := hrel
        by_cases hlk : k < n
        · have hkn : (k : Int) < (n : Int) := by omega
          obtain ⟨sk, qk⟩ := bods_sh hok hlk
          obtain ⟨mk, hm3, hm4⟩ := conIn_len (colOf U) i k
          have hm5 := hL.len
          rw [List.length_append, hm1, hm3] at hm5
          have hc' : ∀ q, q < n * 12 → wr.cell? ⟨b, o + q, none⟩ = some (.int .i64 (U q)) := fun q hq => (hL.bel.cell (p := ⟨b, o + q, none⟩) hbl).trans (hc q hq)
          have hzr := hL.bel.size
          have ci1 := hc' (i * 12 + 1) (by omega)
          have ck1 := hc' (k * 12 + 1) (by omega)
          have ci2 := hc' (i * 12 + 2) (by omega)
          have ck2 := hc' (k * 12 + 2) (by omega)
          have ci3 := hc' (i * 12 + 3) (by omega)
          have ck3 := hc' (k * 12 + 3) (by omega)
          have ci4 := hc' (i * 12 + 4) (by omega)
          have ck4 := hc' (k * 12 + 4) (by omega)
          have ci5 := hc' (i * 12 + 5) (by omega)
          have ck5 := hc' (k * 12 + 5) (by omega)
          have ci8 := hc' (i * 12 + 8) (by omega)
          have ck8 := hc' (k * 12 + 8) (by omega)
          simp only [← Nat.add_assoc] at ci1 ck1 ci2 ck2 ci3 ck3 ci4 ck4 ci5 ck5 ci8 ck8
          clear hc'
          by_cases hfx : U (i * 12 + 8) = 0 ∧ U (k * 12 + 8) = 0
          · obtain ⟨f1, f2⟩ := hfx
            have hno : Shut (conOne (colOf U) i k = []) := conOne_no (by unfold conB colOf; rw [f1, f2]; simp)
            rw [f1] at ci8
            rw [f2] at ck8
            go_wp2
            go_roundw
            case rel => exact ⟨k + 1, _, _, _, by omega, by omega, by go_num, rfl, by rw [conIn, hno.out, List.append_nil]; exact hL⟩
            case measure => simp [intOf]; omega
          · obtain ⟨TX, TY, TD, TJ, hT⟩ : ∃ TX TY TD TJ, tcH (colOf U) i k = ((TX, TY, TD), TJ) := ⟨_, _, _, _, rfl⟩
            have hfx' : Shut (¬ (U (i * 12 + 8) = 0 ∧ U (k * 12 + 8) = 0)) := hfx
            have key : ∀ (g : Prop), (U (i * 12 + 8) ≠ 0 → g) → (U (i * 12 + 8) = 0 → U (k * 12 + 8) ≠ 0 → g) → g := fun g h1 h2 => by
              by_cases e : U (i * 12 + 8) = 0
              · exact h2 e (fun e2 => hfx ⟨e, e2⟩)
              · exact h1 e
            clear hfx
            go_upto_region 8 with fail
            go_cut [36] (fun s wc => s = .bool false ∧ wr = wc)
            case first =>
              refine key _ (fun e => ?_) (fun e1 e2 => ?_)
              · have e' : decide (U (i * 12 + 8) = 0) = false := decide_eq_false e
                have e3 : (U (i * 12 + 8) == 0) = false := by simp [e]
                go_wp2
                go_meet
                exact ⟨by first | rfl | simp [e3], rfl⟩
              · have e' : decide (U (k * 12 + 8) = 0) = false := decide_eq_false e2
                have e3 : (U (k * 12 + 8) == 0) = false := by simp [e2]
                rw [e1] at ci8
                go_wp2
                go_meet
                exact ⟨by first | rfl | simp [e3], rfl⟩
            case rest =>
            obtain ⟨rfl, rfl⟩ := hcut
            clear key ci8 ck8
            go_upto_region 9 with fail
            go_cut [6, 7] (fun s6 s7 wd => ∃ bh, s6 = .pointer (some ⟨bh, 0, none⟩) ∧ s7 = .bool TJ ∧ wd.cell? ⟨bh, 0, none⟩ = some (.int .i64 TX) ∧ wd.cell? ⟨bh, 1, none⟩ = some (.int .i64 TY) ∧ wd.cell? ⟨bh, 2, none⟩ = some (.int .i64 TD) ∧ bh < wd.heap.size ∧ wr.heap.size ≤ bh ∧ Below wr.heap.size wr wd)
            case first =>
              refine wp_region_held_drew (S := fun w' => w'.cell? ⟨b, o + i * 12 + 1, none⟩ = some (.int .i64 (U (i * 12 + 1))) ∧ w'.cell? ⟨b, o + i * 12 + 2, none⟩ = some (.int .i64 (U (i * 12 + 2))) ∧ w'.cell? ⟨b, o + i * 12 + 3, none⟩ = some (.int .i64 (U (i * 12 + 3))) ∧ w'.cell? ⟨b, o + i * 12 + 4, none⟩ = some (.int .i64 (U (i * 12 + 4))) ∧ w'.cell? ⟨b, o + i * 12 + 5, none⟩ = some (.int .i64 (U (i * 12 + 5))) ∧ w'.cell? ⟨b, o + k * 12 + 1, none⟩ = some (.int .i64 (U (k * 12 + 1))) ∧ w'.cell? ⟨b, o + k * 12 + 2, none⟩ = some (.int .i64 (U (k * 12 + 2))) ∧ w'.cell? ⟨b, o + k * 12 + 3, none⟩ = some (.int .i64 (U (k * 12 + 3))) ∧ w'.cell? ⟨b, o + k * 12 + 4, none⟩ = some (.int .i64 (U (k * 12 + 4))) ∧ w'.cell? ⟨b, o + k * 12 + 5, none⟩ = some (.int .i64 (U (k * 12 + 5)))) (by kernel_rfl) ?_ (fun hHeld => ?_)
              · (try dsimp only)
                (first | (go_simp; done) | (go_keep; done))
              refine tq 0 hHeld ?_
              refine tq 1 hHeld ?_
              refine tq 2 hHeld ?_
              refine tq 3 hHeld ?_
              refine tq 4 hHeld ?_
              refine tq 5 hHeld ?_
              refine tq 6 hHeld ?_
              refine tq 7 hHeld ?_
              refine tq 8 hHeld ?_
              refine tq 9 hHeld ?_
              refine tq 10 hHeld ?_
              refine tq 11 hHeld ?_
              refine tq 12 hHeld ?_
              refine tq 13 hHeld ?_
              refine tq 14 hHeld ?_
              refine tq 15 hHeld ?_
              refine tq 16 hHeld ?_
              refine tq 17 hHeld ?_
              refine tq 18 hHeld ?_
              refine tq 19 hHeld ?_
              refine wpAnyH_ready (rs := [20, 24]) (by kernel_rfl) (by simp) ?_
              refine AllReadyH.cons rfl (fun K hK => ?_) (AllReadyH.cons rfl (fun K hK => ?_) AllReadyH.nil)
              · (go_simp; (go_at_call 38; refine (l5Touch_q _ _ _ _ _ _ _ _ _ _ TX TY TD TJ _ si sk qi qk hT).mono ?_; rintro e w3 ⟨rfl, hb3⟩; obtain ⟨hc3, hf3⟩ := bcell hb3; have hz3 := hb3.size; (try simp only [World.size_drew, World.size_alloc, World.size_setCell] at hc3 hf3 hz3); have hk3x0 := fun o => hc3 (b) o (by omega); have hj3x0 := fun o => hf3 (b) o (by omega); have hq3x0 : b < w3.heap.size := (by omega); clear hc3 hf3; have hk3z := fun o => hb3.cell (p := ⟨wr.heap.size, o, none⟩); have hj3z := fun o => hb3.frozen (p := ⟨wr.heap.size, o, none⟩); (try simp only [World.size_drew, World.size_alloc] at hk3z hj3z)); (try go_wp2_with fail); refine tr hK (fun hHeld => ?_); clear hK K)
                refine tq 21 hHeld ?_
                refine tq 22 hHeld ?_
                refine tq 23 hHeld ?_
                refine tc 24 fun K hK => ?_
                (go_simp; refine tr hK (fun hHeld => ?_); clear hK K)
                refine tc 25 fun K hK => ?_
                (go_simp; refine tr hK (fun hHeld => ?_); clear hK K)
                refine tq 26 hHeld ?_
                refine wpAnyH_done (by kernel_rfl) ?_ _
                go_wp2_with fail
                go_meet
                exact ⟨_, rfl, rfl, by go_simp, by go_simp, by go_simp, by first | (simp; omega) | simp | omega, by first | (simp; omega) | simp | omega, bel_a⟩
              · (go_simp; refine tr hK (fun hHeld => ?_); clear hK K)
                refine tc 20 fun K hK => ?_
                (go_simp; (go_at_call 38; refine (l5Touch_q _ _ _ _ _ _ _ _ _ _ TX TY TD TJ _ si sk qi qk hT).mono ?_; rintro e w3 ⟨rfl, hb3⟩; obtain ⟨hc3, hf3⟩ := bcell hb3; have hz3 := hb3.size; (try simp only [World.size_drew, World.size_alloc, World.size_setCell] at hc3 hf3 hz3); have hk3x0 := fun o => hc3 (b) o (by omega); have hj3x0 := fun o => hf3 (b) o (by omega); have hq3x0 : b < w3.heap.size := (by omega); clear hc3 hf3; have hk3z := fun o => hb3.cell (p := ⟨wr.heap.size, o, none⟩); have hj3z := fun o => hb3.frozen (p := ⟨wr.heap.size, o, none⟩); (try simp only [World.size_drew, World.size_alloc] at hk3z hj3z)); (try go_wp2_with fail); refine tr hK (fun hHeld => ?_); clear hK K)
                refine tq 21 hHeld ?_
                refine tq 22 hHeld ?_
                refine tq 23 hHeld ?_
                refine tc 25 fun K hK => ?_
                (go_simp; refine tr hK (fun hHeld => ?_); clear hK K)
                refine tq 26 hHeld ?_
                refine wpAnyH_done (by kernel_rfl) ?_ _
                go_wp2_with fail
                go_meet
                exact ⟨_, rfl, rfl, by go_simp, by go_simp, by go_simp, by first | (simp; omega) | simp | omega, by first | (simp; omega) | simp | omega, bel_a⟩
            case rest =>
            obtain ⟨bh, rfl, rfl, t0, t1, t2, hbh, hbh0, hbd⟩ := hcut
            have hLd := hL.below hbd
            cases TJ with
            | false =>
              have hno : Shut (conOne (colOf U) i k = []) := conOne_no (by unfold conB; rw [hT]; simp)
              go_wp2
              go_roundw
              case rel => exact ⟨k + 1, _, _, _, by omega, by omega, by go_num, rfl, by rw [conIn, hno.out, List.append_nil]; exact hLd⟩
              case measure => simp [intOf]; omega
            | true =>
              have hyes : Shut (conOne (colOf U) i k = [(i : Int), (k : Int), TX, TY, TD]) := conOne_yes (conB_yes hik hfx'.out hT) hT
              go_wp2_with (refine wpList_app rfl _ _ _ rfl w.heap.size 69 5 40 (.agg #[.int .i64 0, .int .i64 0, .int .i64 0, .int .i64 0, .int .i64 0]) Tryz.underlying41 (by kernel_rfl) (by rfl) (by omega) (.slice a2 m2 c2) m2 (ofL (conOut (colOf U) n i ++ conIn (colOf U) i k)) rfl (hLd.below ((Below.refl _ _).alloc (Nat.le_refl _) _)).own _ 1 _ (ofL [(i : Int), (k : Int), TX, TY, TD]) rfl (flat5 _ _ _ _ _ _ _) (by unfold maxLen; omega) (by omega) (by simp only [World.size_alloc]; have := hLd.bel.size; omega) ?_; intro a1 c1 w1 ho1 hg1)
              have hP := (hLd.below ((Below.refl _ _).alloc (Nat.le_refl _) _)).push (x := [(i : Int), (k : Int), TX, TY, TD]) rfl hg1 ho1
              go_roundw
              case rel => exact ⟨k + 1, _, _, _, by omega, by omega, by go_num, rfl, by rw [conIn, hyes.out, ← List.append_assoc]; exact hP⟩
              case measure => simp [intOf]; omega
        · obtain rfl : k = n := by omega
          go_wp2
          go_roundw
          case rel => exact ⟨i + 1, _, _, _, by omega, by go_num, rfl, hL⟩
          case measure => simp [intOf]; omega
    · obtain rfl : i = n := by omega
      go_wp2
      go_ret
      exact ⟨_, _, _, rfl, hL.len, hL.bel, hL.own⟩
theorem IV_num {l : List Int} {n : Nat} (h : l.length = n) : IV l = numL (n * 1) (ofL l) := by
  apply List.ext_getElem?
  intro j
  by_cases e : j < n
  · rw [IV_get (by omega), numL_get (by omega)]
  · rw [List.getElem?_eq_none (by rw [IV_len]; omega), List.getElem?_eq_none (by rw [numL_len]; omega)]
theorem LV.out {w wr : World} {t g cap n : Nat} {l : List Int} (h : LV w wr t g cap n (IV l)) : OutL w wr t 1 (some ⟨g, 0, none⟩) n cap (ofL l) := by
  refine ⟨h.bel, ?_⟩
  have hl := h.len
  rw [IV_len] at hl
  have ho := h.own
  rw [IV_num hl] at ho
  exact ho
def conN (n : Nat) (U : Nat → Int) : Nat := (conL (colOf U) n).length / 5
theorem conN_eq {n : Nat} (U : Nat → Int) (hn : n ≤ 12) : (conL (colOf U) n).length = conN n U * 5 ∧ conN n U ≤ 144 := by
  obtain ⟨m, h1, h2⟩ := conOut_len (colOf U) n n
  have e : (conL (colOf U) n).length = m * 5 := h1
  have := Nat.mul_le_mul hn hn
  unfold conN
  rw [e]
  omega
def grpU (n : Nat) (U : Nat → Int) : List Int := grpL U (ofL (conL (colOf U) n)) (conN n U) n
def grpO (n : Nat) (U : Nat → Int) : List Int := bif bodsB n U then grpU n U else []
theorem bods_n {n : Nat} {U : Nat → Int} (h : bodsB n U = true) : n ≤ 12 := by unfold bodsB at h; rw [Bool.and_eq_true, decide_eq_true_eq] at h; exact h.1
theorem grpU_eq {n : Nat} {U : Nat → Int} (h12 : n ≤ 12) : ∀ j, j < n → ofL (grpU n U) j = gnum (fxU U) (lab (edg U (ofL (conL (colOf U) n))) (conN n U)) j := grpL_eq (con_ct (colOf U) (conN_eq U h12).1)
end Go.Proofs.YtlbpmmjckoaleaaGreat
