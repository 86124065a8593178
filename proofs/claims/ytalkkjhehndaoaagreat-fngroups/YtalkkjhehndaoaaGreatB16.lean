/- Texts of a proof. -/
import Derived.Test.YtalkkjhehndaoaaGreatB13
import Derived.Test.YtalkkjhehndaoaaGreatB15
import Derived.Deep.RegionHeld3
import Derived.Deep.DeepCutAuto
import Derived.Test.YtalkkjhehndaoaaGreatB9
import Derived.Test.YtalkkjhehndaoaaGreatB12
import Derived.Test.YtalkkjhehndaoaaGreatB10
set_option maxHeartbeats 16000000
set_option maxRecDepth 20000
namespace Go.Proofs.YtalkkjhehndaoaaGreat
open Go.RowKit
set_option linter.unusedVariables false
set_option linter.unusedSimpArgs false
def BV (l : List Bool) : List Value := l.map Value.bool
theorem BV_app (l : List Bool) (x : Bool) : BV l ++ [.bool x] = BV (l ++ [x]) := by unfold BV; rw [List.map_append]; rfl
theorem BV_set (l : List Bool) (j : Nat) (x : Bool) : (BV l).set j (.bool x) = BV (l.set j x) := by unfold BV; rw [List.map_set]
theorem BV_len (l : List Bool) : (BV l).length = l.length := by unfold BV; rw [List.length_map]
theorem BV_get {l : List Bool} {j : Nat} (h : j < l.length) : (BV l)[j]? = some (.bool (l.getD j false)) := by
 unfold BV
 rw [List.getElem?_map, List.getElem?_eq_getElem h, List.getD_eq_getElem?_getD, List.getElem?_eq_getElem h]
 rfl
theorem LV.bc {w wr : World} {t g cap n : Nat} {l : List Bool} (h : LV w wr t g cap n (BV l)) {j : Nat} (hj : j < n) : wr.cell? ⟨g, j, none⟩ = some (.bool (l.getD j false)) := by
 have hl := h.len
 rw [BV_len] at hl
 exact h.cell (BV_get (by omega))
theorem LV.flatB {w wr : World} {t g cap n : Nat} {l : List Bool} (h : LV w wr t g cap n (BV l)) : FlatB wr (some ⟨g, 0, none⟩) n (fun j => l.getD j false) := by
 intro h0
 exact ⟨g, 0, rfl, h.lt.2, fun j hj => by rw [Nat.zero_add]; exact h.bc hj⟩
abbrev zcBool : Value := .bool false
theorem infoBool : (Tryz.prog.info? 4).map (fun i => (i.zero, i.size, i.bytes)) = some (some zcBool, 1, 1) := by kernel_rfl
def awP (l : List Bool) (g : Int) (s : Bool) : List Bool :=
 let l1 := bif decide (g = (l.length : Int)) then l ++ [false] else l
 bif decide (0 ≤ g) then l1.set g.toNat (l1.getD g.toNat false || s) else l1
def awL (U G : Nat → Int) : Nat → List Bool
 | 0 => []
 | i + 1 => awP (awL U G i) (G i) (!decide (8 ≤ U (i * 12 + 11)))
theorem awP_m (l : List Bool) (g : Int) (s : Bool) (h : g < 0) : awP l g s = l := by
 unfold awP
 rw [decide_eq_false (by omega : ¬ g = (l.length : Int)), decide_eq_false (by omega : ¬ 0 ≤ g)]
 rfl
theorem awP_n (l : List Bool) (s : Bool) : awP l (l.length : Int) s = (l ++ [false]).set l.length s := by
 unfold awP
 rw [decide_eq_true rfl, decide_eq_true (by omega : (0 : Int) ≤ (l.length : Int))]
 simp
theorem awP_o (l : List Bool) (q : Nat) (s : Bool) (h : q < l.length) : awP l (q : Int) s = l.set q (l.getD q false || s) := by
 unfold awP
 rw [decide_eq_false (by omega : ¬ (q : Int) = (l.length : Int)), decide_eq_true (by omega : (0 : Int) ≤ (q : Int))]
 simp
theorem awP_len (l : List Bool) (g : Int) (s : Bool) : l.length ≤ (awP l g s).length ∧ (awP l g s).length ≤ l.length + 1 := by
 unfold awP
 cases decide (g = (l.length : Int)) <;> cases decide (0 ≤ g) <;> simp
theorem awL_len (U G : Nat → Int) : ∀ i, (awL U G i).length ≤ i
 | 0 => Nat.le_refl _
 | i + 1 => by
  have := awL_len U G i
  have := (awP_len (awL U G i) (G i) (!decide (8 ≤ U (i * 12 + 11)))).2
  rw [awL]; omega
theorem l7Awake_any (a : Option Addr) (n c : Nat) (U : Nat → Int) (ag : Option Addr) (cg : Nat) (G : Nat → Int) (w : World) (h : Flat w a (n * 12) U) (hn : n ≤ 1000) (hG2 : Flat w ag (n * 1) G) (hGb : ∀ i, i < n → -1 ≤ G i ∧ G i ≤ ((awL U G i).length : Int)) :
 Calls Tryz.prog 26 #[.slice a n c, .slice ag n cg] w fun e w' => ∃ g1 c1 na, e = .returned (.slice (some ⟨g1, 0, none⟩) na c1) ∧ na = (awL U G n).length ∧ LV w w' 4 g1 c1 na (BV (awL U G n)) := by
 have hset := cset_map
 have L1 := LV.new (w := w) 4 (Below.refl _ w) rfl
 go_enter Tryz.func26, Tryz.ntmps26
 go_upto_region 3 with fail
 go_loopw [5, 6] (fun s5 s6 wr => ∃ (i g1 c1 na : Nat), i ≤ n ∧ s6 = .int .i64 (i : Int) ∧ s5 = .slice (some ⟨g1, 0, none⟩) na c1 ∧ na = (awL U G i).length ∧ LV w wr 4 g1 c1 na (BV (awL U G i))) (fun _ s6 _ => n - (intOf s6).toNat)
 case atStart => exact ⟨0, _, _, _, Nat.zero_le _, rfl, rfl, rfl, L1⟩
 case round =>
  clear L1
  obtain ⟨i, g1, c1, na, hi, rfl, rfl, hna, H1⟩ := hrel
  by_cases hlt : i < n
  · have hin : (i : Int) < (n : Int) := by omega
    have gb := hGb i hlt
    have hal := awL_len U G i
    obtain ⟨SL, hSL⟩ : ∃ b, decide (8 ≤ (fun j => U (i * 12 + j)) 11) = b := ⟨_, rfl⟩
    have HAW : Shut (awL U G (i + 1) = awP (awL U G i) (G i) (!SL)) := by show _ = _; rw [awL, ← hSL]
    generalize awL U G i = l at H1 HAW gb hna hal
    have hl : l.length = na := hna.symm
    rw [hl] at gb hal
    clear hna
    obtain ⟨b0, o0, e0, hbl0, hc0⟩ := (h.below H1.bel) (by omega)
    obtain ⟨b2, o2, e2, hbl2, hc2⟩ := (hG2.below H1.bel) (by omega)
    have rG := hc2 i (by omega)
    subst e0 e2
    have r0 : wr.cell? ⟨b0, o0 + i * 12, none⟩ = some (.int .i64 (U (i * 12))) := by have q := hc0 (i * 12 + 0) (by omega); simpa [Nat.add_assoc] using q
    have r1 : wr.cell? ⟨b0, o0 + i * 12 + 1, none⟩ = some (.int .i64 (U (i * 12 + 1))) := by have q := hc0 (i * 12 + 1) (by omega); simpa [Nat.add_assoc] using q
    have r2 : wr.cell? ⟨b0, o0 + i * 12 + 2, none⟩ = some (.int .i64 (U (i * 12 + 2))) := by have q := hc0 (i * 12 + 2) (by omega); simpa [Nat.add_assoc] using q
    have r3 : wr.cell? ⟨b0, o0 + i * 12 + 3, none⟩ = some (.int .i64 (U (i * 12 + 3))) := by have q := hc0 (i * 12 + 3) (by omega); simpa [Nat.add_assoc] using q
    have r4 : wr.cell? ⟨b0, o0 + i * 12 + 4, none⟩ = some (.int .i64 (U (i * 12 + 4))) := by have q := hc0 (i * 12 + 4) (by omega); simpa [Nat.add_assoc] using q
    have r5 : wr.cell? ⟨b0, o0 + i * 12 + 5, none⟩ = some (.int .i64 (U (i * 12 + 5))) := by have q := hc0 (i * 12 + 5) (by omega); simpa [Nat.add_assoc] using q
    have r6 : wr.cell? ⟨b0, o0 + i * 12 + 6, none⟩ = some (.int .i64 (U (i * 12 + 6))) := by have q := hc0 (i * 12 + 6) (by omega); simpa [Nat.add_assoc] using q
    have r7 : wr.cell? ⟨b0, o0 + i * 12 + 7, none⟩ = some (.int .i64 (U (i * 12 + 7))) := by have q := hc0 (i * 12 + 7) (by omega); simpa [Nat.add_assoc] using q
    have r8 : wr.cell? ⟨b0, o0 + i * 12 + 8, none⟩ = some (.int .i64 (U (i * 12 + 8))) := by have q := hc0 (i * 12 + 8) (by omega); simpa [Nat.add_assoc] using q
    have r9 : wr.cell? ⟨b0, o0 + i * 12 + 9, none⟩ = some (.int .i64 (U (i * 12 + 9))) := by have q := hc0 (i * 12 + 9) (by omega); simpa [Nat.add_assoc] using q
    have r10 : wr.cell? ⟨b0, o0 + i * 12 + 10, none⟩ = some (.int .i64 (U (i * 12 + 10))) := by have q := hc0 (i * 12 + 10) (by omega); simpa [Nat.add_assoc] using q
    have r11 : wr.cell? ⟨b0, o0 + i * 12 + 11, none⟩ = some (.int .i64 (U (i * 12 + 11))) := by have q := hc0 (i * 12 + 11) (by omega); simpa [Nat.add_assoc] using q
    have hll := H1.lt
    have yf := H1.fro
    clear hc0 hc2
    by_cases hgm : G i < 0
    · have hq : G i = -1 := by omega
      have HA : Shut (awL U G (i + 1) = l) := by show _ = _; rw [HAW.out]; exact awP_m l _ _ hgm
      rw [hq] at rG
      have e1 : ((-1 : Int) == (na : Int)) = false := by first | (simp; done) | (simp; omega)
      clear gb hgm
      go_wp2_with fail
      go_roundw
      case rel => exact ⟨i + 1, g1, c1, na, by omega, by go_num, rfl, by rw [HA.out]; exact hl.symm, by rw [HA.out]; exact H1⟩
      case measure => simp [intOf]; omega
    · obtain ⟨q, hq⟩ : ∃ q : Nat, G i = (q : Int) := ⟨(G i).toNat, by omega⟩
      rw [hq] at rG gb
      have hq0 : (0 : Int) ≤ (q : Int) := by omega
      by_cases hqn : q < na
      · have hqi : (q : Int) < (na : Int) := by omega
        have e1 : ((q : Int) == (na : Int)) = false := by first | (simp; done) | (simp; omega)
        cases hold : l.getD q false with
        | true =>
         have yo : wr.cell? ⟨g1, q, none⟩ = some (.bool true) := by have := H1.bc hqn; rw [hold] at this; exact this
         have HA : Shut (awL U G (i + 1) = l.set q true) := by show _ = _; rw [HAW.out, hq, awP_o l q _ (by omega), hold]; rfl
         clear HAW
         go_upto_region 8 with fail
         refine wp_region_held_drew (S := fun w' => w'.cell? ⟨b2, o2 + i, none⟩ = some (.int .i64 (q : Int)) ∧ w'.cell? ⟨b0, o0 + i * 12, none⟩ = some (.int .i64 (U (i * 12))) ∧ w'.cell? ⟨b0, o0 + i * 12 + 1, none⟩ = some (.int .i64 (U (i * 12 + 1))) ∧ w'.cell? ⟨b0, o0 + i * 12 + 2, none⟩ = some (.int .i64 (U (i * 12 + 2))) ∧ w'.cell? ⟨b0, o0 + i * 12 + 3, none⟩ = some (.int .i64 (U (i * 12 + 3))) ∧ w'.cell? ⟨b0, o0 + i * 12 + 4, none⟩ = some (.int .i64 (U (i * 12 + 4))) ∧ w'.cell? ⟨b0, o0 + i * 12 + 5, none⟩ = some (.int .i64 (U (i * 12 + 5))) ∧ w'.cell? ⟨b0, o0 + i * 12 + 6, none⟩ = some (.int .i64 (U (i * 12 + 6))) ∧ w'.cell? ⟨b0, o0 + i * 12 + 7, none⟩ = some (.int .i64 (U (i * 12 + 7))) ∧ w'.cell? ⟨b0, o0 + i * 12 + 8, none⟩ = some (.int .i64 (U (i * 12 + 8))) ∧ w'.cell? ⟨b0, o0 + i * 12 + 9, none⟩ = some (.int .i64 (U (i * 12 + 9))) ∧ w'.cell? ⟨b0, o0 + i * 12 + 10, none⟩ = some (.int .i64 (U (i * 12 + 10))) ∧ w'.cell? ⟨b0, o0 + i * 12 + 11, none⟩ = some (.int .i64 (U (i * 12 + 11)))) (by kernel_rfl) ?_ (fun hHeld => ?_)
         · (try dsimp only)
           (first | (go_simp; done) | (go_keep; done))
         refine tq 0 hHeld ?_
         refine tq 1 hHeld ?_
         refine tq 2 hHeld ?_
         refine tq 3 hHeld ?_
         refine tq 4 hHeld ?_
         refine tq 5 hHeld ?_
         refine tq 6 hHeld ?_
         refine tq 7 hHeld ?_
         refine tq 8 hHeld ?_
         refine tq 9 hHeld ?_
         refine tq 10 hHeld ?_
         refine tc 11 fun K hK => ?_
         (go_simp
          refine tr hK (fun hHeld => ?_)
          clear hK K)
         refine tq 12 hHeld ?_
         refine tn 13 hHeld ?_
         refine tn 14 hHeld ?_
         refine tn 15 hHeld ?_
         refine tn 16 hHeld ?_
         refine tn 17 hHeld ?_
         refine tn 18 hHeld ?_
         refine tq 19 hHeld ?_
         refine tq 20 hHeld ?_
         refine tc 21 fun K hK => ?_
         (go_simp
          have H2 := H1.set q (.bool true)
          rw [BV_set] at H2
          have H2 := H2.dr
          have hh := h.below H2.bel
          have hg := hG2.below H2.bel
          clear rG r0 r1 r2 r3 r4 r5 r6 r7 r8 r9 r10 r11 yo yf H1
          generalize (wr.setCell ⟨g1, q, none⟩ (.bool true)).drew = w7 at H2 hh hg ⊢
          obtain ⟨b0', o0', e0', _, hc0⟩ := hh (by omega)
          cases e0'
          obtain ⟨b2', o2', e2', _, hc2⟩ := hg (by omega)
          cases e2'
          have rG := hc2 i (by omega)
          rw [hq] at rG
          have r0 : w7.cell? ⟨b0, o0 + i * 12, none⟩ = some (.int .i64 (U (i * 12))) := by have q := hc0 (i * 12 + 0) (by omega); simpa [Nat.add_assoc] using q
          have r1 : w7.cell? ⟨b0, o0 + i * 12 + 1, none⟩ = some (.int .i64 (U (i * 12 + 1))) := by have q := hc0 (i * 12 + 1) (by omega); simpa [Nat.add_assoc] using q
          have r2 : w7.cell? ⟨b0, o0 + i * 12 + 2, none⟩ = some (.int .i64 (U (i * 12 + 2))) := by have q := hc0 (i * 12 + 2) (by omega); simpa [Nat.add_assoc] using q
          have r3 : w7.cell? ⟨b0, o0 + i * 12 + 3, none⟩ = some (.int .i64 (U (i * 12 + 3))) := by have q := hc0 (i * 12 + 3) (by omega); simpa [Nat.add_assoc] using q
          have r4 : w7.cell? ⟨b0, o0 + i * 12 + 4, none⟩ = some (.int .i64 (U (i * 12 + 4))) := by have q := hc0 (i * 12 + 4) (by omega); simpa [Nat.add_assoc] using q
          have r5 : w7.cell? ⟨b0, o0 + i * 12 + 5, none⟩ = some (.int .i64 (U (i * 12 + 5))) := by have q := hc0 (i * 12 + 5) (by omega); simpa [Nat.add_assoc] using q
          have r6 : w7.cell? ⟨b0, o0 + i * 12 + 6, none⟩ = some (.int .i64 (U (i * 12 + 6))) := by have q := hc0 (i * 12 + 6) (by omega); simpa [Nat.add_assoc] using q
          have r7 : w7.cell? ⟨b0, o0 + i * 12 + 7, none⟩ = some (.int .i64 (U (i * 12 + 7))) := by have q := hc0 (i * 12 + 7) (by omega); simpa [Nat.add_assoc] using q
          have r8 : w7.cell? ⟨b0, o0 + i * 12 + 8, none⟩ = some (.int .i64 (U (i * 12 + 8))) := by have q := hc0 (i * 12 + 8) (by omega); simpa [Nat.add_assoc] using q
          have r9 : w7.cell? ⟨b0, o0 + i * 12 + 9, none⟩ = some (.int .i64 (U (i * 12 + 9))) := by have q := hc0 (i * 12 + 9) (by omega); simpa [Nat.add_assoc] using q
          have r10 : w7.cell? ⟨b0, o0 + i * 12 + 10, none⟩ = some (.int .i64 (U (i * 12 + 10))) := by have q := hc0 (i * 12 + 10) (by omega); simpa [Nat.add_assoc] using q
          have r11 : w7.cell? ⟨b0, o0 + i * 12 + 11, none⟩ = some (.int .i64 (U (i * 12 + 11))) := by have q := hc0 (i * 12 + 11) (by omega); simpa [Nat.add_assoc] using q
          clear hc0 hc2
          refine tr hK (fun hHeld => ?_)
          clear hK K)
         refine wpAnyH_done (by kernel_rfl) ?_ _
         go_wp2_with fail
         go_roundw
         case rel => exact ⟨i + 1, g1, c1, na, by omega, by go_num, rfl, by rw [HA.out]; rw [List.length_set]; exact hl.symm, by rw [HA.out]; exact H2⟩
         case measure => simp [intOf]; omega
        | false =>
         have yo : wr.cell? ⟨g1, q, none⟩ = some (.bool false) := by have := H1.bc hqn; rw [hold] at this; exact this
         have HA : Shut (awL U G (i + 1) = l.set q (!SL)) := by show _ = _; rw [HAW.out, hq, awP_o l q _ (by omega), hold]; rfl
         clear HAW
         go_upto_region 8 with fail
         refine wp_region_held_drew (S := fun w' => w'.cell? ⟨b2, o2 + i, none⟩ = some (.int .i64 (q : Int)) ∧ w'.cell? ⟨b0, o0 + i * 12, none⟩ = some (.int .i64 (U (i * 12))) ∧ w'.cell? ⟨b0, o0 + i * 12 + 1, none⟩ = some (.int .i64 (U (i * 12 + 1))) ∧ w'.cell? ⟨b0, o0 + i * 12 + 2, none⟩ = some (.int .i64 (U (i * 12 + 2))) ∧ w'.cell? ⟨b0, o0 + i * 12 + 3, none⟩ = some (.int .i64 (U (i * 12 + 3))) ∧ w'.cell? ⟨b0, o0 + i * 12 + 4, none⟩ = some (.int .i64 (U (i * 12 + 4))) ∧ w'.cell? ⟨b0, o0 + i * 12 + 5, none⟩ = some (.int .i64 (U (i * 12 + 5))) ∧ w'.cell? ⟨b0, o0 + i * 12 + 6, none⟩ = some (.int .i64 (U (i * 12 + 6))) ∧ w'.cell? ⟨b0, o0 + i * 12 + 7, none⟩ = some (.int .i64 (U (i * 12 + 7))) ∧ w'.cell? ⟨b0, o0 + i * 12 + 8, none⟩ = some (.int .i64 (U (i * 12 + 8))) ∧ w'.cell? ⟨b0, o0 + i * 12 + 9, none⟩ = some (.int .i64 (U (i * 12 + 9))) ∧ w'.cell? ⟨b0, o0 + i * 12 + 10, none⟩ = some (.int .i64 (U (i * 12 + 10))) ∧ w'.cell? ⟨b0, o0 + i * 12 + 11, none⟩ = some (.int .i64 (U (i * 12 + 11)))) (by kernel_rfl) ?_ (fun hHeld => ?_)
         · (try dsimp only)
           (first | (go_simp; done) | (go_keep; done))
         refine tq 0 hHeld ?_
         refine tq 1 hHeld ?_
         refine tq 2 hHeld ?_
         refine tq 3 hHeld ?_
         refine tq 4 hHeld ?_
         refine tq 5 hHeld ?_
         refine tq 6 hHeld ?_
         refine tq 7 hHeld ?_
         refine tq 8 hHeld ?_
         refine tq 9 hHeld ?_
         refine tq 10 hHeld ?_
         refine tc 11 fun K hK => ?_
         (go_simp
          refine tr hK (fun hHeld => ?_)
          clear hK K)
         refine tq 12 hHeld ?_
         refine tq 13 hHeld ?_
         refine tq 14 hHeld ?_
         refine tq 15 hHeld ?_
         refine tq 16 hHeld ?_
         refine tc 17 fun K hK => ?_
         (go_simp
          (go_at_call 47; refine (l6Sleeps_k (fun j => U (i * 12 + j)) _ SL hSL).mono ?_; rintro e w5 ⟨rfl, hb5⟩)
          have hb5 := hb5.ofDr
          have H2 := H1.on hb5
          have hh := h.below H2.bel
          have hg := hG2.below H2.bel
          clear rG r0 r1 r2 r3 r4 r5 r6 r7 r8 r9 r10 r11 yo yf
          obtain ⟨b0', o0', e0', _, hc0⟩ := hh (by omega)
          cases e0'
          obtain ⟨b2', o2', e2', _, hc2⟩ := hg (by omega)
          cases e2'
          have rG := hc2 i (by omega)
          rw [hq] at rG
          have r0 : w5.cell? ⟨b0, o0 + i * 12, none⟩ = some (.int .i64 (U (i * 12))) := by have q := hc0 (i * 12 + 0) (by omega); simpa [Nat.add_assoc] using q
          have r1 : w5.cell? ⟨b0, o0 + i * 12 + 1, none⟩ = some (.int .i64 (U (i * 12 + 1))) := by have q := hc0 (i * 12 + 1) (by omega); simpa [Nat.add_assoc] using q
          have r2 : w5.cell? ⟨b0, o0 + i * 12 + 2, none⟩ = some (.int .i64 (U (i * 12 + 2))) := by have q := hc0 (i * 12 + 2) (by omega); simpa [Nat.add_assoc] using q
          have r3 : w5.cell? ⟨b0, o0 + i * 12 + 3, none⟩ = some (.int .i64 (U (i * 12 + 3))) := by have q := hc0 (i * 12 + 3) (by omega); simpa [Nat.add_assoc] using q
          have r4 : w5.cell? ⟨b0, o0 + i * 12 + 4, none⟩ = some (.int .i64 (U (i * 12 + 4))) := by have q := hc0 (i * 12 + 4) (by omega); simpa [Nat.add_assoc] using q
          have r5 : w5.cell? ⟨b0, o0 + i * 12 + 5, none⟩ = some (.int .i64 (U (i * 12 + 5))) := by have q := hc0 (i * 12 + 5) (by omega); simpa [Nat.add_assoc] using q
          have r6 : w5.cell? ⟨b0, o0 + i * 12 + 6, none⟩ = some (.int .i64 (U (i * 12 + 6))) := by have q := hc0 (i * 12 + 6) (by omega); simpa [Nat.add_assoc] using q
          have r7 : w5.cell? ⟨b0, o0 + i * 12 + 7, none⟩ = some (.int .i64 (U (i * 12 + 7))) := by have q := hc0 (i * 12 + 7) (by omega); simpa [Nat.add_assoc] using q
          have r8 : w5.cell? ⟨b0, o0 + i * 12 + 8, none⟩ = some (.int .i64 (U (i * 12 + 8))) := by have q := hc0 (i * 12 + 8) (by omega); simpa [Nat.add_assoc] using q
          have r9 : w5.cell? ⟨b0, o0 + i * 12 + 9, none⟩ = some (.int .i64 (U (i * 12 + 9))) := by have q := hc0 (i * 12 + 9) (by omega); simpa [Nat.add_assoc] using q
          have r10 : w5.cell? ⟨b0, o0 + i * 12 + 10, none⟩ = some (.int .i64 (U (i * 12 + 10))) := by have q := hc0 (i * 12 + 10) (by omega); simpa [Nat.add_assoc] using q
          have r11 : w5.cell? ⟨b0, o0 + i * 12 + 11, none⟩ = some (.int .i64 (U (i * 12 + 11))) := by have q := hc0 (i * 12 + 11) (by omega); simpa [Nat.add_assoc] using q
          clear hc0 hc2
          have yf := H2.fro
          have yo := H2.bc hqn
          clear H1
          have H1 := H2
          clear H2
          (try go_wp2_with fail)
          refine tr hK (fun hHeld => ?_)
          clear hK K)
         refine tq 18 hHeld ?_
         refine tq 19 hHeld ?_
         refine tq 20 hHeld ?_
         refine tc 21 fun K hK => ?_
         (go_simp
          have H2 := H1.set q (.bool (!SL))
          rw [BV_set] at H2
          have hh := h.below H2.bel
          have hg := hG2.below H2.bel
          clear rG r0 r1 r2 r3 r4 r5 r6 r7 r8 r9 r10 r11 yo yf H1
          generalize (w5.setCell ⟨g1, q, none⟩ (.bool (!SL))) = w7 at H2 hh hg ⊢
          obtain ⟨b0', o0', e0', _, hc0⟩ := hh (by omega)
          cases e0'
          obtain ⟨b2', o2', e2', _, hc2⟩ := hg (by omega)
          cases e2'
          have rG := hc2 i (by omega)
          rw [hq] at rG
          have r0 : w7.cell? ⟨b0, o0 + i * 12, none⟩ = some (.int .i64 (U (i * 12))) := by have q := hc0 (i * 12 + 0) (by omega); simpa [Nat.add_assoc] using q
          have r1 : w7.cell? ⟨b0, o0 + i * 12 + 1, none⟩ = some (.int .i64 (U (i * 12 + 1))) := by have q := hc0 (i * 12 + 1) (by omega); simpa [Nat.add_assoc] using q
          have r2 : w7.cell? ⟨b0, o0 + i * 12 + 2, none⟩ = some (.int .i64 (U (i * 12 + 2))) := by have q := hc0 (i * 12 + 2) (by omega); simpa [Nat.add_assoc] using q
          have r3 : w7.cell? ⟨b0, o0 + i * 12 + 3, none⟩ = some (.int .i64 (U (i * 12 + 3))) := by have q := hc0 (i * 12 + 3) (by omega); simpa [Nat.add_assoc] using q
          have r4 : w7.cell? ⟨b0, o0 + i * 12 + 4, none⟩ = some (.int .i64 (U (i * 12 + 4))) := by have q := hc0 (i * 12 + 4) (by omega); simpa [Nat.add_assoc] using q
          have r5 : w7.cell? ⟨b0, o0 + i * 12 + 5, none⟩ = some (.int .i64 (U (i * 12 + 5))) := by have q := hc0 (i * 12 + 5) (by omega); simpa [Nat.add_assoc] using q
          have r6 : w7.cell? ⟨b0, o0 + i * 12 + 6, none⟩ = some (.int .i64 (U (i * 12 + 6))) := by have q := hc0 (i * 12 + 6) (by omega); simpa [Nat.add_assoc] using q
          have r7 : w7.cell? ⟨b0, o0 + i * 12 + 7, none⟩ = some (.int .i64 (U (i * 12 + 7))) := by have q := hc0 (i * 12 + 7) (by omega); simpa [Nat.add_assoc] using q
          have r8 : w7.cell? ⟨b0, o0 + i * 12 + 8, none⟩ = some (.int .i64 (U (i * 12 + 8))) := by have q := hc0 (i * 12 + 8) (by omega); simpa [Nat.add_assoc] using q
          have r9 : w7.cell? ⟨b0, o0 + i * 12 + 9, none⟩ = some (.int .i64 (U (i * 12 + 9))) := by have q := hc0 (i * 12 + 9) (by omega); simpa [Nat.add_assoc] using q
          have r10 : w7.cell? ⟨b0, o0 + i * 12 + 10, none⟩ = some (.int .i64 (U (i * 12 + 10))) := by have q := hc0 (i * 12 + 10) (by omega); simpa [Nat.add_assoc] using q
          have r11 : w7.cell? ⟨b0, o0 + i * 12 + 11, none⟩ = some (.int .i64 (U (i * 12 + 11))) := by have q := hc0 (i * 12 + 11) (by omega); simpa [Nat.add_assoc] using q
          clear hc0 hc2
          refine tr hK (fun hHeld => ?_)
          clear hK K)
         refine wpAnyH_done (by kernel_rfl) ?_ _
         go_wp2_with fail
         go_roundw
         case rel => exact ⟨i + 1, g1, c1, na, by omega, by go_num, rfl, by rw [HA.out]; rw [List.length_set]; exact hl.symm, by rw [HA.out]; exact H2⟩
         case measure => simp [intOf]; omega
      · obtain rfl : q = na := by omega
        clear hqn
        have HA : Shut (awL U G (i + 1) = (l ++ [false]).set q (!SL)) := by show _ = _; rw [HAW.out, hq, ← hl]; exact awP_n l _
        clear HAW
        have hE : Below wr.heap.size wr (wr.alloc (Obj.cells #[.bool false] 4)) := (Below.refl _ _).alloc (Nat.le_refl _) _
        have hcE : (wr.alloc (Obj.cells #[.bool false] 4)).cell? ⟨wr.heap.size, 0, none⟩ = some (.bool false) := by go_simp
        go_upto_region 7 with (refine wpList_push rfl _ _ _ rfl 4 1 zcBool Tryz.underlying42 infoBool rfl (by decide) g1 c1 q (BV l) rfl H1 hE wr.heap.size rfl (.bool false) hcE rfl (by omega) ?_; intro g6 c6 w6 hp6 hg6 hl6)
        clear hE hcE hg6 hl6 yf rG r0 r1 r2 r3 r4 r5 r6 r7 r8 r9 r10 r11 H1
        have H1 := hp6
        rw [BV_app] at H1
        clear hp6
        have hh := h.below H1.bel
        have hg := hG2.below H1.bel
        obtain ⟨b0', o0', e0', _, hc0⟩ := hh (by omega)
        cases e0'
        obtain ⟨b2', o2', e2', _, hc2⟩ := hg (by omega)
        cases e2'
        have rG := hc2 i (by omega)
        rw [hq] at rG
        have r0 : w6.cell? ⟨b0, o0 + i * 12, none⟩ = some (.int .i64 (U (i * 12))) := by have q := hc0 (i * 12 + 0) (by omega); simpa [Nat.add_assoc] using q
        have r1 : w6.cell? ⟨b0, o0 + i * 12 + 1, none⟩ = some (.int .i64 (U (i * 12 + 1))) := by have q := hc0 (i * 12 + 1) (by omega); simpa [Nat.add_assoc] using q
        have r2 : w6.cell? ⟨b0, o0 + i * 12 + 2, none⟩ = some (.int .i64 (U (i * 12 + 2))) := by have q := hc0 (i * 12 + 2) (by omega); simpa [Nat.add_assoc] using q
        have r3 : w6.cell? ⟨b0, o0 + i * 12 + 3, none⟩ = some (.int .i64 (U (i * 12 + 3))) := by have q := hc0 (i * 12 + 3) (by omega); simpa [Nat.add_assoc] using q
        have r4 : w6.cell? ⟨b0, o0 + i * 12 + 4, none⟩ = some (.int .i64 (U (i * 12 + 4))) := by have q := hc0 (i * 12 + 4) (by omega); simpa [Nat.add_assoc] using q
        have r5 : w6.cell? ⟨b0, o0 + i * 12 + 5, none⟩ = some (.int .i64 (U (i * 12 + 5))) := by have q := hc0 (i * 12 + 5) (by omega); simpa [Nat.add_assoc] using q
        have r6 : w6.cell? ⟨b0, o0 + i * 12 + 6, none⟩ = some (.int .i64 (U (i * 12 + 6))) := by have q := hc0 (i * 12 + 6) (by omega); simpa [Nat.add_assoc] using q
        have r7 : w6.cell? ⟨b0, o0 + i * 12 + 7, none⟩ = some (.int .i64 (U (i * 12 + 7))) := by have q := hc0 (i * 12 + 7) (by omega); simpa [Nat.add_assoc] using q
        have r8 : w6.cell? ⟨b0, o0 + i * 12 + 8, none⟩ = some (.int .i64 (U (i * 12 + 8))) := by have q := hc0 (i * 12 + 8) (by omega); simpa [Nat.add_assoc] using q
        have r9 : w6.cell? ⟨b0, o0 + i * 12 + 9, none⟩ = some (.int .i64 (U (i * 12 + 9))) := by have q := hc0 (i * 12 + 9) (by omega); simpa [Nat.add_assoc] using q
        have r10 : w6.cell? ⟨b0, o0 + i * 12 + 10, none⟩ = some (.int .i64 (U (i * 12 + 10))) := by have q := hc0 (i * 12 + 10) (by omega); simpa [Nat.add_assoc] using q
        have r11 : w6.cell? ⟨b0, o0 + i * 12 + 11, none⟩ = some (.int .i64 (U (i * 12 + 11))) := by have q := hc0 (i * 12 + 11) (by omega); simpa [Nat.add_assoc] using q
        clear hc0 hc2 hh hg
        have yf := H1.fro
        have hqn : q < q + 1 := Nat.lt_succ_self _
        have hqi : (q : Int) < ((q + 1 : Nat) : Int) := by omega
        have hqj : (q : Int) < (q : Int) + 1 := by omega
        have yo : w6.cell? ⟨g6, q, none⟩ = some (.bool false) := by
         have := H1.bc hqn
         rw [List.getD_eq_getElem?_getD, List.getElem?_append_right (by omega), hl, Nat.sub_self] at this
         exact this
        go_upto_region 8 with fail
        refine wp_region_held_drew (S := fun w' => w'.cell? ⟨b2, o2 + i, none⟩ = some (.int .i64 (q : Int)) ∧ w'.cell? ⟨b0, o0 + i * 12, none⟩ = some (.int .i64 (U (i * 12))) ∧ w'.cell? ⟨b0, o0 + i * 12 + 1, none⟩ = some (.int .i64 (U (i * 12 + 1))) ∧ w'.cell? ⟨b0, o0 + i * 12 + 2, none⟩ = some (.int .i64 (U (i * 12 + 2))) ∧ w'.cell? ⟨b0, o0 + i * 12 + 3, none⟩ = some (.int .i64 (U (i * 12 + 3))) ∧ w'.cell? ⟨b0, o0 + i * 12 + 4, none⟩ = some (.int .i64 (U (i * 12 + 4))) ∧ w'.cell? ⟨b0, o0 + i * 12 + 5, none⟩ = some (.int .i64 (U (i * 12 + 5))) ∧ w'.cell? ⟨b0, o0 + i * 12 + 6, none⟩ = some (.int .i64 (U (i * 12 + 6))) ∧ w'.cell? ⟨b0, o0 + i * 12 + 7, none⟩ = some (.int .i64 (U (i * 12 + 7))) ∧ w'.cell? ⟨b0, o0 + i * 12 + 8, none⟩ = some (.int .i64 (U (i * 12 + 8))) ∧ w'.cell? ⟨b0, o0 + i * 12 + 9, none⟩ = some (.int .i64 (U (i * 12 + 9))) ∧ w'.cell? ⟨b0, o0 + i * 12 + 10, none⟩ = some (.int .i64 (U (i * 12 + 10))) ∧ w'.cell? ⟨b0, o0 + i * 12 + 11, none⟩ = some (.int .i64 (U (i * 12 + 11)))) (by kernel_rfl) ?_ (fun hHeld => ?_)
        · (try dsimp only)
          (first | (go_simp; done) | (go_keep; done))
        refine tq 0 hHeld ?_
        refine tq 1 hHeld ?_
        refine tq 2 hHeld ?_
        refine tq 3 hHeld ?_
        refine tq 4 hHeld ?_
        refine tq 5 hHeld ?_
        refine tq 6 hHeld ?_
        refine tq 7 hHeld ?_
        refine tq 8 hHeld ?_
        refine tq 9 hHeld ?_
        refine tq 10 hHeld ?_
        refine tc 11 fun K hK => ?_
        (go_simp
         refine tr hK (fun hHeld => ?_)
         clear hK K)
        refine tq 12 hHeld ?_
        refine tq 13 hHeld ?_
        refine tq 14 hHeld ?_
        refine tq 15 hHeld ?_
        refine tq 16 hHeld ?_
        refine tc 17 fun K hK => ?_
        (go_simp
         (go_at_call 47; refine (l6Sleeps_k (fun j => U (i * 12 + j)) _ SL hSL).mono ?_; rintro e w5 ⟨rfl, hb5⟩)
         have hb5 := hb5.ofDr
         have H2 := H1.on hb5
         have hh := h.below H2.bel
         have hg := hG2.below H2.bel
         clear rG r0 r1 r2 r3 r4 r5 r6 r7 r8 r9 r10 r11 yo yf
         obtain ⟨b0', o0', e0', _, hc0⟩ := hh (by omega)
         cases e0'
         obtain ⟨b2', o2', e2', _, hc2⟩ := hg (by omega)
         cases e2'
         have rG := hc2 i (by omega)
         rw [hq] at rG
         have r0 : w5.cell? ⟨b0, o0 + i * 12, none⟩ = some (.int .i64 (U (i * 12))) := by have q := hc0 (i * 12 + 0) (by omega); simpa [Nat.add_assoc] using q
         have r1 : w5.cell? ⟨b0, o0 + i * 12 + 1, none⟩ = some (.int .i64 (U (i * 12 + 1))) := by have q := hc0 (i * 12 + 1) (by omega); simpa [Nat.add_assoc] using q
         have r2 : w5.cell? ⟨b0, o0 + i * 12 + 2, none⟩ = some (.int .i64 (U (i * 12 + 2))) := by have q := hc0 (i * 12 + 2) (by omega); simpa [Nat.add_assoc] using q
         have r3 : w5.cell? ⟨b0, o0 + i * 12 + 3, none⟩ = some (.int .i64 (U (i * 12 + 3))) := by have q := hc0 (i * 12 + 3) (by omega); simpa [Nat.add_assoc] using q
         have r4 : w5.cell? ⟨b0, o0 + i * 12 + 4, none⟩ = some (.int .i64 (U (i * 12 + 4))) := by have q := hc0 (i * 12 + 4) (by omega); simpa [Nat.add_assoc] using q
         have r5 : w5.cell? ⟨b0, o0 + i * 12 + 5, none⟩ = some (.int .i64 (U (i * 12 + 5))) := by have q := hc0 (i * 12 + 5) (by omega); simpa [Nat.add_assoc] using q
         have r6 : w5.cell? ⟨b0, o0 + i * 12 + 6, none⟩ = some (.int .i64 (U (i * 12 + 6))) := by have q := hc0 (i * 12 + 6) (by omega); simpa [Nat.add_assoc] using q
         have r7 : w5.cell? ⟨b0, o0 + i * 12 + 7, none⟩ = some (.int .i64 (U (i * 12 + 7))) := by have q := hc0 (i * 12 + 7) (by omega); simpa [Nat.add_assoc] using q
         have r8 : w5.cell? ⟨b0, o0 + i * 12 + 8, none⟩ = some (.int .i64 (U (i * 12 + 8))) := by have q := hc0 (i * 12 + 8) (by omega); simpa [Nat.add_assoc] using q
         have r9 : w5.cell? ⟨b0, o0 + i * 12 + 9, none⟩ = some (.int .i64 (U (i * 12 + 9))) := by have q := hc0 (i * 12 + 9) (by omega); simpa [Nat.add_assoc] using q
         have r10 : w5.cell? ⟨b0, o0 + i * 12 + 10, none⟩ = some (.int .i64 (U (i * 12 + 10))) := by have q := hc0 (i * 12 + 10) (by omega); simpa [Nat.add_assoc] using q
         have r11 : w5.cell? ⟨b0, o0 + i * 12 + 11, none⟩ = some (.int .i64 (U (i * 12 + 11))) := by have q := hc0 (i * 12 + 11) (by omega); simpa [Nat.add_assoc] using q
         clear hc0 hc2
         have yf := H2.fro
         have yo := H2.bc hqn
         clear H1
         have H1 := H2
         clear H2
         (try go_wp2_with fail)
         refine tr hK (fun hHeld => ?_)
         clear hK K)
        refine tq 18 hHeld ?_
        refine tq 19 hHeld ?_
        refine tq 20 hHeld ?_
        refine tc 21 fun K hK => ?_
        (go_simp
         have H2 := H1.set q (.bool (!SL))
         rw [BV_set] at H2
         have hh := h.below H2.bel
         have hg := hG2.below H2.bel
         clear rG r0 r1 r2 r3 r4 r5 r6 r7 r8 r9 r10 r11 yo yf H1
         generalize (w5.setCell ⟨g6, q, none⟩ (.bool (!SL))) = w7 at H2 hh hg ⊢
         obtain ⟨b0', o0', e0', _, hc0⟩ := hh (by omega)
         cases e0'
         obtain ⟨b2', o2', e2', _, hc2⟩ := hg (by omega)
         cases e2'
         have rG := hc2 i (by omega)
         rw [hq] at rG
         have r0 : w7.cell? ⟨b0, o0 + i * 12, none⟩ = some (.int .i64 (U (i * 12))) := by have q := hc0 (i * 12 + 0) (by omega); simpa [Nat.add_assoc] using q
         have r1 : w7.cell? ⟨b0, o0 + i * 12 + 1, none⟩ = some (.int .i64 (U (i * 12 + 1))) := by have q := hc0 (i * 12 + 1) (by omega); simpa [Nat.add_assoc] using q
         have r2 : w7.cell? ⟨b0, o0 + i * 12 + 2, none⟩ = some (.int .i64 (U (i * 12 + 2))) := by have q := hc0 (i * 12 + 2) (by omega); simpa [Nat.add_assoc] using q
         have r3 : w7.cell? ⟨b0, o0 + i * 12 + 3, none⟩ = some (.int .i64 (U (i * 12 + 3))) := by have q := hc0 (i * 12 + 3) (by omega); simpa [Nat.add_assoc] using q
         have r4 : w7.cell? ⟨b0, o0 + i * 12 + 4, none⟩ = some (.int .i64 (U (i * 12 + 4))) := by have q := hc0 (i * 12 + 4) (by omega); simpa [Nat.add_assoc] using q
         have r5 : w7.cell? ⟨b0, o0 + i * 12 + 5, none⟩ = some (.int .i64 (U (i * 12 + 5))) := by have q := hc0 (i * 12 + 5) (by omega); simpa [Nat.add_assoc] using q
         have r6 : w7.cell? ⟨b0, o0 + i * 12 + 6, none⟩ = some (.int .i64 (U (i * 12 + 6))) := by have q := hc0 (i * 12 + 6) (by omega); simpa [Nat.add_assoc] using q
         have r7 : w7.cell? ⟨b0, o0 + i * 12 + 7, none⟩ = some (.int .i64 (U (i * 12 + 7))) := by have q := hc0 (i * 12 + 7) (by omega); simpa [Nat.add_assoc] using q
         have r8 : w7.cell? ⟨b0, o0 + i * 12 + 8, none⟩ = some (.int .i64 (U (i * 12 + 8))) := by have q := hc0 (i * 12 + 8) (by omega); simpa [Nat.add_assoc] using q
         have r9 : w7.cell? ⟨b0, o0 + i * 12 + 9, none⟩ = some (.int .i64 (U (i * 12 + 9))) := by have q := hc0 (i * 12 + 9) (by omega); simpa [Nat.add_assoc] using q
         have r10 : w7.cell? ⟨b0, o0 + i * 12 + 10, none⟩ = some (.int .i64 (U (i * 12 + 10))) := by have q := hc0 (i * 12 + 10) (by omega); simpa [Nat.add_assoc] using q
         have r11 : w7.cell? ⟨b0, o0 + i * 12 + 11, none⟩ = some (.int .i64 (U (i * 12 + 11))) := by have q := hc0 (i * 12 + 11) (by omega); simpa [Nat.add_assoc] using q
         clear hc0 hc2
         refine tr hK (fun hHeld => ?_)
         clear hK K)
        refine wpAnyH_done (by kernel_rfl) ?_ _
        go_wp2_with fail
        go_roundw
        case rel => exact ⟨i + 1, g6, c6, (q + 1), by omega, by go_num, rfl, by rw [HA.out]; rw [List.length_set, List.length_append, hl]; rfl, by rw [HA.out]; exact H2⟩
        case measure => simp [intOf]; omega
  · obtain rfl : i = n := by omega
    go_wp2_with fail
    go_ret
    exact ⟨_, _, _, rfl, hna, H1⟩
def rowU (U : Nat → Int) (z : Int) : Nat → Int := fun j => U (z.toNat * 12 + j)
def liveC (U C : Nat → Int) (k : Nat) : Bool := liveV (rowU U (C (k * 5))) || liveV (rowU U (C (k * 5 + 1)))
def liveL (U C : Nat → Int) : Nat → List Int
 | 0 => []
 | k + 1 => liveL U C k ++ (if liveC U C k = true then [C (k * 5), C (k * 5 + 1), C (k * 5 + 2), C (k * 5 + 3), C (k * 5 + 4)] else [])
theorem liveL_yes {U C : Nat → Int} {k : Nat} (h : liveC U C k = true) : liveL U C (k + 1) = liveL U C k ++ [C (k * 5), C (k * 5 + 1), C (k * 5 + 2), C (k * 5 + 3), C (k * 5 + 4)] := by rw [liveL, if_pos h]
theorem liveL_no {U C : Nat → Int} {k : Nat} (h : liveC U C k = false) : liveL U C (k + 1) = liveL U C k := by rw [liveL, if_neg (by rw [h]; decide), List.append_nil]
theorem liveL_len (U C : Nat → Int) : ∀ k, (liveL U C k).length ≤ k * 5
 | 0 => by simp [liveL]
 | k + 1 => by
  have := liveL_len U C k
  cases h : liveC U C k with
  | true => rw [liveL_yes h, List.length_append]; simp; omega
  | false => rw [liveL_no h]; omega
abbrev zcCon : Value := .agg #[.int .i64 0, .int .i64 0, .int .i64 0, .int .i64 0, .int .i64 0]
theorem infoCon : (Tryz.prog.info? 40).map (fun i => (i.zero, i.size, i.bytes)) = some (some zcCon, 5, 40) := by kernel_rfl
theorem flatC (w : World) (p q r s u : Int) (t : TypeId) : Flat (w.alloc (Obj.cells #[.int .i64 p, .int .i64 q, .int .i64 r, .int .i64 s, .int .i64 u] t)) (some ⟨w.heap.size, 0, none⟩) (1 * 5) (ofL [p, q, r, s, u]) := by
 intro _
 refine ⟨w.heap.size, 0, rfl, by simp, fun j hj => ?_⟩
 rw [Nat.zero_add]
 rcases (show j = 0 ∨ j = 1 ∨ j = 2 ∨ j = 3 ∨ j = 4 by omega) with rfl | rfl | rfl | rfl | rfl <;> (simp only [ofL]; go_simp; (try rfl))
theorem l9Live_any (a : Option Addr) (n c : Nat) (U : Nat → Int) (ac : Option Addr) (m cc : Nat) (C : Nat → Int) (w : World) (h : Flat w a (n * 12) U) (hn : n ≤ 1048576) (hm : m ≤ 1048576) (h2 : Flat w ac (m * 5) C) (hC : ∀ k, k < m → (0 ≤ C (k * 5) ∧ C (k * 5) < (n : Int)) ∧ (0 ≤ C (k * 5 + 1) ∧ C (k * 5 + 1) < (n : Int))) :
 Calls Tryz.prog 81 #[.slice a n c, .slice ac m cc] w fun e w' => ∃ a1 m1 c1, e = .returned (.slice a1 m1 c1) ∧ (liveL U C m).length = m1 * 5 ∧ OutL w w' 40 5 a1 m1 c1 (ofL (liveL U C m)) := by
 have hset := cset_map
 go_enter Tryz.func81, Tryz.ntmps81
 go_wp2_with fail
 go_loopw [5, 6, 7, 8] (fun s5 s6 _ _ wr => ∃ (k : Nat) (a1 : Option Addr) (m1 c1 : Nat), k ≤ m ∧ s6 = .int .i64 (k : Int) ∧ s5 = .slice a1 m1 c1 ∧ LsV w wr 40 5 a1 m1 c1 (liveL U C k)) (fun _ s6 _ _ _ => m - (intOf s6).toNat)
 case atStart => exact ⟨0, _, _, _, Nat.zero_le _, rfl, rfl, LsV.new w _ _⟩
 case round =>
  obtain ⟨k, a1, m1, c1, hk, rfl, rfl, hL⟩ := hrel
  by_cases hlt : k < m
  · have hkm : (k : Int) < (m : Int) := by omega
    obtain ⟨⟨cA0, cA1⟩, ⟨cB0, cB1⟩⟩ := hC k hlt
    obtain ⟨b2, o2, e2, hbl2, hc2⟩ := (h2.below hL.bel) (by omega)
    have r0 := hc2 (k * 5) (by omega)
    have r1 := hc2 (k * 5 + 1) (by omega)
    have r2 := hc2 (k * 5 + 2) (by omega)
    have r3 := hc2 (k * 5 + 3) (by omega)
    have r4 := hc2 (k * 5 + 4) (by omega)
    simp only [← Nat.add_assoc] at r0 r1 r2 r3 r4
    clear hc2
    subst e2
    obtain ⟨LV, hLVe⟩ : ∃ b, liveC U C k = b := ⟨_, rfl⟩
    have hLV : Shut (liveC U C k = LV) := hLVe
    clear hLVe
    obtain ⟨zA, hzAe⟩ : ∃ z, C (k * 5) = z := ⟨_, rfl⟩
    obtain ⟨zB, hzBe⟩ : ∃ z, C (k * 5 + 1) = z := ⟨_, rfl⟩
    rw [hzAe] at r0 cA0 cA1
    rw [hzBe] at r1 cB0 cB1
    have hzA : Shut (C (k * 5) = zA) := hzAe
    have hzB : Shut (C (k * 5 + 1) = zB) := hzBe
    clear hzAe hzBe
    obtain ⟨b, o, e1, hbl, hc⟩ := (h.below hL.bel) (by omega)
    have p0 := hc (zA.toNat * 12) (by omega)
    have p1 := hc (zA.toNat * 12 + 1) (by omega)
    have p2 := hc (zA.toNat * 12 + 2) (by omega)
    have p3 := hc (zA.toNat * 12 + 3) (by omega)
    have p4 := hc (zA.toNat * 12 + 4) (by omega)
    have p5 := hc (zA.toNat * 12 + 5) (by omega)
    have p6 := hc (zA.toNat * 12 + 6) (by omega)
    have p7 := hc (zA.toNat * 12 + 7) (by omega)
    have p8 := hc (zA.toNat * 12 + 8) (by omega)
    have p9 := hc (zA.toNat * 12 + 9) (by omega)
    have p10 := hc (zA.toNat * 12 + 10) (by omega)
    have p11 := hc (zA.toNat * 12 + 11) (by omega)
    have q0 := hc (zB.toNat * 12) (by omega)
    have q1 := hc (zB.toNat * 12 + 1) (by omega)
    have q2 := hc (zB.toNat * 12 + 2) (by omega)
    have q3 := hc (zB.toNat * 12 + 3) (by omega)
    have q4 := hc (zB.toNat * 12 + 4) (by omega)
    have q5 := hc (zB.toNat * 12 + 5) (by omega)
    have q6 := hc (zB.toNat * 12 + 6) (by omega)
    have q7 := hc (zB.toNat * 12 + 7) (by omega)
    have q8 := hc (zB.toNat * 12 + 8) (by omega)
    have q9 := hc (zB.toNat * 12 + 9) (by omega)
    have q10 := hc (zB.toNat * 12 + 10) (by omega)
    have q11 := hc (zB.toNat * 12 + 11) (by omega)
    simp only [← Nat.add_assoc] at p0 q0 p1 q1 p2 q2 p3 q3 p4 q4 p5 q5 p6 q6 p7 q7 p8 q8 p9 q9 p10 q10 p11 q11
    clear hc
    subst e1
    go_upto_region 7 with fail
    have hE1 : Below wr.heap.size wr (wr.alloc (Obj.cells #[.int .i64 (U (zA.toNat * 12)), .int .i64 (U (zA.toNat * 12 + 1)), .int .i64 (U (zA.toNat * 12 + 2)), .int .i64 (U (zA.toNat * 12 + 3)), .int .i64 (U (zA.toNat * 12 + 4)), .int .i64 (U (zA.toNat * 12 + 5)), .int .i64 (U (zA.toNat * 12 + 6)), .int .i64 (U (zA.toNat * 12 + 7)), .int .i64 (U (zA.toNat * 12 + 8)), .int .i64 (U (zA.toNat * 12 + 9)), .int .i64 (U (zA.toNat * 12 + 10)), .int .i64 (U (zA.toNat * 12 + 11))] 34)) := (Below.refl _ _).alloc (Nat.le_refl _) _
    have hE2 : Below (wr.alloc (Obj.cells #[.int .i64 (U (zA.toNat * 12)), .int .i64 (U (zA.toNat * 12 + 1)), .int .i64 (U (zA.toNat * 12 + 2)), .int .i64 (U (zA.toNat * 12 + 3)), .int .i64 (U (zA.toNat * 12 + 4)), .int .i64 (U (zA.toNat * 12 + 5)), .int .i64 (U (zA.toNat * 12 + 6)), .int .i64 (U (zA.toNat * 12 + 7)), .int .i64 (U (zA.toNat * 12 + 8)), .int .i64 (U (zA.toNat * 12 + 9)), .int .i64 (U (zA.toNat * 12 + 10)), .int .i64 (U (zA.toNat * 12 + 11))] 34)).heap.size (wr.alloc (Obj.cells #[.int .i64 (U (zA.toNat * 12)), .int .i64 (U (zA.toNat * 12 + 1)), .int .i64 (U (zA.toNat * 12 + 2)), .int .i64 (U (zA.toNat * 12 + 3)), .int .i64 (U (zA.toNat * 12 + 4)), .int .i64 (U (zA.toNat * 12 + 5)), .int .i64 (U (zA.toNat * 12 + 6)), .int .i64 (U (zA.toNat * 12 + 7)), .int .i64 (U (zA.toNat * 12 + 8)), .int .i64 (U (zA.toNat * 12 + 9)), .int .i64 (U (zA.toNat * 12 + 10)), .int .i64 (U (zA.toNat * 12 + 11))] 34)) ((wr.alloc (Obj.cells #[.int .i64 (U (zA.toNat * 12)), .int .i64 (U (zA.toNat * 12 + 1)), .int .i64 (U (zA.toNat * 12 + 2)), .int .i64 (U (zA.toNat * 12 + 3)), .int .i64 (U (zA.toNat * 12 + 4)), .int .i64 (U (zA.toNat * 12 + 5)), .int .i64 (U (zA.toNat * 12 + 6)), .int .i64 (U (zA.toNat * 12 + 7)), .int .i64 (U (zA.toNat * 12 + 8)), .int .i64 (U (zA.toNat * 12 + 9)), .int .i64 (U (zA.toNat * 12 + 10)), .int .i64 (U (zA.toNat * 12 + 11))] 34)).alloc (Obj.cells #[.int .i64 (U (zB.toNat * 12)), .int .i64 (U (zB.toNat * 12 + 1)), .int .i64 (U (zB.toNat * 12 + 2)), .int .i64 (U (zB.toNat * 12 + 3)), .int .i64 (U (zB.toNat * 12 + 4)), .int .i64 (U (zB.toNat * 12 + 5)), .int .i64 (U (zB.toNat * 12 + 6)), .int .i64 (U (zB.toNat * 12 + 7)), .int .i64 (U (zB.toNat * 12 + 8)), .int .i64 (U (zB.toNat * 12 + 9)), .int .i64 (U (zB.toNat * 12 + 10)), .int .i64 (U (zB.toNat * 12 + 11))] 34)) := (Below.refl _ _).alloc (Nat.le_refl _) _
    have hL2 := (hL.below hE1).below hE2
    have x0A : ((wr.alloc (Obj.cells #[.int .i64 (U (zA.toNat * 12)), .int .i64 (U (zA.toNat * 12 + 1)), .int .i64 (U (zA.toNat * 12 + 2)), .int .i64 (U (zA.toNat * 12 + 3)), .int .i64 (U (zA.toNat * 12 + 4)), .int .i64 (U (zA.toNat * 12 + 5)), .int .i64 (U (zA.toNat * 12 + 6)), .int .i64 (U (zA.toNat * 12 + 7)), .int .i64 (U (zA.toNat * 12 + 8)), .int .i64 (U (zA.toNat * 12 + 9)), .int .i64 (U (zA.toNat * 12 + 10)), .int .i64 (U (zA.toNat * 12 + 11))] 34)).alloc (Obj.cells #[.int .i64 (U (zB.toNat * 12)), .int .i64 (U (zB.toNat * 12 + 1)), .int .i64 (U (zB.toNat * 12 + 2)), .int .i64 (U (zB.toNat * 12 + 3)), .int .i64 (U (zB.toNat * 12 + 4)), .int .i64 (U (zB.toNat * 12 + 5)), .int .i64 (U (zB.toNat * 12 + 6)), .int .i64 (U (zB.toNat * 12 + 7)), .int .i64 (U (zB.toNat * 12 + 8)), .int .i64 (U (zB.toNat * 12 + 9)), .int .i64 (U (zB.toNat * 12 + 10)), .int .i64 (U (zB.toNat * 12 + 11))] 34)).cell? ⟨wr.heap.size, 0, none⟩ = some (.int .i64 (U (zA.toNat * 12))) := by go_simp
    have x1A : ((wr.alloc (Obj.cells #[.int .i64 (U (zA.toNat * 12)), .int .i64 (U (zA.toNat * 12 + 1)), .int .i64 (U (zA.toNat * 12 + 2)), .int .i64 (U (zA.toNat * 12 + 3)), .int .i64 (U (zA.toNat * 12 + 4)), .int .i64 (U (zA.toNat * 12 + 5)), .int .i64 (U (zA.toNat * 12 + 6)), .int .i64 (U (zA.toNat * 12 + 7)), .int .i64 (U (zA.toNat * 12 + 8)), .int .i64 (U (zA.toNat * 12 + 9)), .int .i64 (U (zA.toNat * 12 + 10)), .int .i64 (U (zA.toNat * 12 + 11))] 34)).alloc (Obj.cells #[.int .i64 (U (zB.toNat * 12)), .int .i64 (U (zB.toNat * 12 + 1)), .int .i64 (U (zB.toNat * 12 + 2)), .int .i64 (U (zB.toNat * 12 + 3)), .int .i64 (U (zB.toNat * 12 + 4)), .int .i64 (U (zB.toNat * 12 + 5)), .int .i64 (U (zB.toNat * 12 + 6)), .int .i64 (U (zB.toNat * 12 + 7)), .int .i64 (U (zB.toNat * 12 + 8)), .int .i64 (U (zB.toNat * 12 + 9)), .int .i64 (U (zB.toNat * 12 + 10)), .int .i64 (U (zB.toNat * 12 + 11))] 34)).cell? ⟨wr.heap.size, 1, none⟩ = some (.int .i64 (U (zA.toNat * 12 + 1))) := by go_simp
    have x2A : ((wr.alloc (Obj.cells #[.int .i64 (U (zA.toNat * 12)), .int .i64 (U (zA.toNat * 12 + 1)), .int .i64 (U (zA.toNat * 12 + 2)), .int .i64 (U (zA.toNat * 12 + 3)), .int .i64 (U (zA.toNat * 12 + 4)), .int .i64 (U (zA.toNat * 12 + 5)), .int .i64 (U (zA.toNat * 12 + 6)), .int .i64 (U (zA.toNat * 12 + 7)), .int .i64 (U (zA.toNat * 12 + 8)), .int .i64 (U (zA.toNat * 12 + 9)), .int .i64 (U (zA.toNat * 12 + 10)), .int .i64 (U (zA.toNat * 12 + 11))] 34)).alloc (Obj.cells #[.int .i64 (U (zB.toNat * 12)), .int .i64 (U (zB.toNat * 12 + 1)), .int .i64 (U (zB.toNat * 12 + 2)), .int .i64 (U (zB.toNat * 12 + 3)), .int .i64 (U (zB.toNat * 12 + 4)), .int .i64 (U (zB.toNat * 12 + 5)), .int .i64 (U (zB.toNat * 12 + 6)), .int .i64 (U (zB.toNat * 12 + 7)), .int .i64 (U (zB.toNat * 12 + 8)), .int .i64 (U (zB.toNat * 12 + 9)), .int .i64 (U (zB.toNat * 12 + 10)), .int .i64 (U (zB.toNat * 12 + 11))] 34)).cell? ⟨wr.heap.size, 2, none⟩ = some (.int .i64 (U (zA.toNat * 12 + 2))) := by go_simp
    have x3A : ((wr.alloc (Obj.cells #[.int .i64 (U (zA.toNat * 12)), .int .i64 (U (zA.toNat * 12 + 1)), .int .i64 (U (zA.toNat * 12 + 2)), .int .i64 (U (zA.toNat * 12 + 3)), .int .i64 (U (zA.toNat * 12 + 4)), .int .i64 (U (zA.toNat * 12 + 5)), .int .i64 (U (zA.toNat * 12 + 6)), .int .i64 (U (zA.toNat * 12 + 7)), .int .i64 (U (zA.toNat * 12 + 8)), .int .i64 (U (zA.toNat * 12 + 9)), .int .i64 (U (zA.toNat * 12 + 10)), .int .i64 (U (zA.toNat * 12 + 11))] 34)).alloc (Obj.cells #[.int .i64 (U (zB.toNat * 12)), .int .i64 (U (zB.toNat * 12 + 1)), .int .i64 (U (zB.toNat * 12 + 2)), .int .i64 (U (zB.toNat * 12 + 3)), .int .i64 (U (zB.toNat * 12 + 4)), .int .i64 (U (zB.toNat * 12 + 5)), .int .i64 (U (zB.toNat * 12 + 6)), .int .i64 (U (zB.toNat * 12 + 7)), .int .i64 (U (zB.toNat * 12 + 8)), .int .i64 (U (zB.toNat * 12 + 9)), .int .i64 (U (zB.toNat * 12 + 10)), .int .i64 (U (zB.toNat * 12 + 11))] 34)).cell? ⟨wr.heap.size, 3, none⟩ = some (.int .i64 (U (zA.toNat * 12 + 3))) := by go_simp
    have x4A : ((wr.alloc (Obj.cells #[.int .i64 (U (zA.toNat * 12)), .int .i64 (U (zA.toNat * 12 + 1)), .int .i64 (U (zA.toNat * 12 + 2)), .int .i64 (U (zA.toNat * 12 + 3)), .int .i64 (U (zA.toNat * 12 + 4)), .int .i64 (U (zA.toNat * 12 + 5)), .int .i64 (U (zA.toNat * 12 + 6)), .int .i64 (U (zA.toNat * 12 + 7)), .int .i64 (U (zA.toNat * 12 + 8)), .int .i64 (U (zA.toNat * 12 + 9)), .int .i64 (U (zA.toNat * 12 + 10)), .int .i64 (U (zA.toNat * 12 + 11))] 34)).alloc (Obj.cells #[.int .i64 (U (zB.toNat * 12)), .int .i64 (U (zB.toNat * 12 + 1)), .int .i64 (U (zB.toNat * 12 + 2)), .int .i64 (U (zB.toNat * 12 + 3)), .int .i64 (U (zB.toNat * 12 + 4)), .int .i64 (U (zB.toNat * 12 + 5)), .int .i64 (U (zB.toNat * 12 + 6)), .int .i64 (U (zB.toNat * 12 + 7)), .int .i64 (U (zB.toNat * 12 + 8)), .int .i64 (U (zB.toNat * 12 + 9)), .int .i64 (U (zB.toNat * 12 + 10)), .int .i64 (U (zB.toNat * 12 + 11))] 34)).cell? ⟨wr.heap.size, 4, none⟩ = some (.int .i64 (U (zA.toNat * 12 + 4))) := by go_simp
    have x5A : ((wr.alloc (Obj.cells #[.int .i64 (U (zA.toNat * 12)), .int .i64 (U (zA.toNat * 12 + 1)), .int .i64 (U (zA.toNat * 12 + 2)), .int .i64 (U (zA.toNat * 12 + 3)), .int .i64 (U (zA.toNat * 12 + 4)), .int .i64 (U (zA.toNat * 12 + 5)), .int .i64 (U (zA.toNat * 12 + 6)), .int .i64 (U (zA.toNat * 12 + 7)), .int .i64 (U (zA.toNat * 12 + 8)), .int .i64 (U (zA.toNat * 12 + 9)), .int .i64 (U (zA.toNat * 12 + 10)), .int .i64 (U (zA.toNat * 12 + 11))] 34)).alloc (Obj.cells #[.int .i64 (U (zB.toNat * 12)), .int .i64 (U (zB.toNat * 12 + 1)), .int .i64 (U (zB.toNat * 12 + 2)), .int .i64 (U (zB.toNat * 12 + 3)), .int .i64 (U (zB.toNat * 12 + 4)), .int .i64 (U (zB.toNat * 12 + 5)), .int .i64 (U (zB.toNat * 12 + 6)), .int .i64 (U (zB.toNat * 12 + 7)), .int .i64 (U (zB.toNat * 12 + 8)), .int .i64 (U (zB.toNat * 12 + 9)), .int .i64 (U (zB.toNat * 12 + 10)), .int .i64 (U (zB.toNat * 12 + 11))] 34)).cell? ⟨wr.heap.size, 5, none⟩ = some (.int .i64 (U (zA.toNat * 12 + 5))) := by go_simp
    have x6A : ((wr.alloc (Obj.cells #[.int .i64 (U (zA.toNat * 12)), .int .i64 (U (zA.toNat * 12 + 1)), .int .i64 (U (zA.toNat * 12 + 2)), .int .i64 (U (zA.toNat * 12 + 3)), .int .i64 (U (zA.toNat * 12 + 4)), .int .i64 (U (zA.toNat * 12 + 5)), .int .i64 (U (zA.toNat * 12 + 6)), .int .i64 (U (zA.toNat * 12 + 7)), .int .i64 (U (zA.toNat * 12 + 8)), .int .i64 (U (zA.toNat * 12 + 9)), .int .i64 (U (zA.toNat * 12 + 10)), .int .i64 (U (zA.toNat * 12 + 11))] 34)).alloc (Obj.cells #[.int .i64 (U (zB.toNat * 12)), .int .i64 (U (zB.toNat * 12 + 1)), .int .i64 (U (zB.toNat * 12 + 2)), .int .i64 (U (zB.toNat * 12 + 3)), .int .i64 (U (zB.toNat * 12 + 4)), .int .i64 (U (zB.toNat * 12 + 5)), .int .i64 (U (zB.toNat * 12 + 6)), .int .i64 (U (zB.toNat * 12 + 7)), .int .i64 (U (zB.toNat * 12 + 8)), .int .i64 (U (zB.toNat * 12 + 9)), .int .i64 (U (zB.toNat * 12 + 10)), .int .i64 (U (zB.toNat * 12 + 11))] 34)).cell? ⟨wr.heap.size, 6, none⟩ = some (.int .i64 (U (zA.toNat * 12 + 6))) := by go_simp
    have x7A : ((wr.alloc (Obj.cells #[.int .i64 (U (zA.toNat * 12)), .int .i64 (U (zA.toNat * 12 + 1)), .int .i64 (U (zA.toNat * 12 + 2)), .int .i64 (U (zA.toNat * 12 + 3)), .int .i64 (U (zA.toNat * 12 + 4)), .int .i64 (U (zA.toNat * 12 + 5)), .int .i64 (U (zA.toNat * 12 + 6)), .int .i64 (U (zA.toNat * 12 + 7)), .int .i64 (U (zA.toNat * 12 + 8)), .int .i64 (U (zA.toNat * 12 + 9)), .int .i64 (U (zA.toNat * 12 + 10)), .int .i64 (U (zA.toNat * 12 + 11))] 34)).alloc (Obj.cells #[.int .i64 (U (zB.toNat * 12)), .int .i64 (U (zB.toNat * 12 + 1)), .int .i64 (U (zB.toNat * 12 + 2)), .int .i64 (U (zB.toNat * 12 + 3)), .int .i64 (U (zB.toNat * 12 + 4)), .int .i64 (U (zB.toNat * 12 + 5)), .int .i64 (U (zB.toNat * 12 + 6)), .int .i64 (U (zB.toNat * 12 + 7)), .int .i64 (U (zB.toNat * 12 + 8)), .int .i64 (U (zB.toNat * 12 + 9)), .int .i64 (U (zB.toNat * 12 + 10)), .int .i64 (U (zB.toNat * 12 + 11))] 34)).cell? ⟨wr.heap.size, 7, none⟩ = some (.int .i64 (U (zA.toNat * 12 + 7))) := by go_simp
    have x8A : ((wr.alloc (Obj.cells #[.int .i64 (U (zA.toNat * 12)), .int .i64 (U (zA.toNat * 12 + 1)), .int .i64 (U (zA.toNat * 12 + 2)), .int .i64 (U (zA.toNat * 12 + 3)), .int .i64 (U (zA.toNat * 12 + 4)), .int .i64 (U (zA.toNat * 12 + 5)), .int .i64 (U (zA.toNat * 12 + 6)), .int .i64 (U (zA.toNat * 12 + 7)), .int .i64 (U (zA.toNat * 12 + 8)), .int .i64 (U (zA.toNat * 12 + 9)), .int .i64 (U (zA.toNat * 12 + 10)), .int .i64 (U (zA.toNat * 12 + 11))] 34)).alloc (Obj.cells #[.int .i64 (U (zB.toNat * 12)), .int .i64 (U (zB.toNat * 12 + 1)), .int .i64 (U (zB.toNat * 12 + 2)), .int .i64 (U (zB.toNat * 12 + 3)), .int .i64 (U (zB.toNat * 12 + 4)), .int .i64 (U (zB.toNat * 12 + 5)), .int .i64 (U (zB.toNat * 12 + 6)), .int .i64 (U (zB.toNat * 12 + 7)), .int .i64 (U (zB.toNat * 12 + 8)), .int .i64 (U (zB.toNat * 12 + 9)), .int .i64 (U (zB.toNat * 12 + 10)), .int .i64 (U (zB.toNat * 12 + 11))] 34)).cell? ⟨wr.heap.size, 8, none⟩ = some (.int .i64 (U (zA.toNat * 12 + 8))) := by go_simp
    have x9A : ((wr.alloc (Obj.cells #[.int .i64 (U (zA.toNat * 12)), .int .i64 (U (zA.toNat * 12 + 1)), .int .i64 (U (zA.toNat * 12 + 2)), .int .i64 (U (zA.toNat * 12 + 3)), .int .i64 (U (zA.toNat * 12 + 4)), .int .i64 (U (zA.toNat * 12 + 5)), .int .i64 (U (zA.toNat * 12 + 6)), .int .i64 (U (zA.toNat * 12 + 7)), .int .i64 (U (zA.toNat * 12 + 8)), .int .i64 (U (zA.toNat * 12 + 9)), .int .i64 (U (zA.toNat * 12 + 10)), .int .i64 (U (zA.toNat * 12 + 11))] 34)).alloc (Obj.cells #[.int .i64 (U (zB.toNat * 12)), .int .i64 (U (zB.toNat * 12 + 1)), .int .i64 (U (zB.toNat * 12 + 2)), .int .i64 (U (zB.toNat * 12 + 3)), .int .i64 (U (zB.toNat * 12 + 4)), .int .i64 (U (zB.toNat * 12 + 5)), .int .i64 (U (zB.toNat * 12 + 6)), .int .i64 (U (zB.toNat * 12 + 7)), .int .i64 (U (zB.toNat * 12 + 8)), .int .i64 (U (zB.toNat * 12 + 9)), .int .i64 (U (zB.toNat * 12 + 10)), .int .i64 (U (zB.toNat * 12 + 11))] 34)).cell? ⟨wr.heap.size, 9, none⟩ = some (.int .i64 (U (zA.toNat * 12 + 9))) := by go_simp
    have x10A : ((wr.alloc (Obj.cells #[.int .i64 (U (zA.toNat * 12)), .int .i64 (U (zA.toNat * 12 + 1)), .int .i64 (U (zA.toNat * 12 + 2)), .int .i64 (U (zA.toNat * 12 + 3)), .int .i64 (U (zA.toNat * 12 + 4)), .int .i64 (U (zA.toNat * 12 + 5)), .int .i64 (U (zA.toNat * 12 + 6)), .int .i64 (U (zA.toNat * 12 + 7)), .int .i64 (U (zA.toNat * 12 + 8)), .int .i64 (U (zA.toNat * 12 + 9)), .int .i64 (U (zA.toNat * 12 + 10)), .int .i64 (U (zA.toNat * 12 + 11))] 34)).alloc (Obj.cells #[.int .i64 (U (zB.toNat * 12)), .int .i64 (U (zB.toNat * 12 + 1)), .int .i64 (U (zB.toNat * 12 + 2)), .int .i64 (U (zB.toNat * 12 + 3)), .int .i64 (U (zB.toNat * 12 + 4)), .int .i64 (U (zB.toNat * 12 + 5)), .int .i64 (U (zB.toNat * 12 + 6)), .int .i64 (U (zB.toNat * 12 + 7)), .int .i64 (U (zB.toNat * 12 + 8)), .int .i64 (U (zB.toNat * 12 + 9)), .int .i64 (U (zB.toNat * 12 + 10)), .int .i64 (U (zB.toNat * 12 + 11))] 34)).cell? ⟨wr.heap.size, 10, none⟩ = some (.int .i64 (U (zA.toNat * 12 + 10))) := by go_simp
    have x11A : ((wr.alloc (Obj.cells #[.int .i64 (U (zA.toNat * 12)), .int .i64 (U (zA.toNat * 12 + 1)), .int .i64 (U (zA.toNat * 12 + 2)), .int .i64 (U (zA.toNat * 12 + 3)), .int .i64 (U (zA.toNat * 12 + 4)), .int .i64 (U (zA.toNat * 12 + 5)), .int .i64 (U (zA.toNat * 12 + 6)), .int .i64 (U (zA.toNat * 12 + 7)), .int .i64 (U (zA.toNat * 12 + 8)), .int .i64 (U (zA.toNat * 12 + 9)), .int .i64 (U (zA.toNat * 12 + 10)), .int .i64 (U (zA.toNat * 12 + 11))] 34)).alloc (Obj.cells #[.int .i64 (U (zB.toNat * 12)), .int .i64 (U (zB.toNat * 12 + 1)), .int .i64 (U (zB.toNat * 12 + 2)), .int .i64 (U (zB.toNat * 12 + 3)), .int .i64 (U (zB.toNat * 12 + 4)), .int .i64 (U (zB.toNat * 12 + 5)), .int .i64 (U (zB.toNat * 12 + 6)), .int .i64 (U (zB.toNat * 12 + 7)), .int .i64 (U (zB.toNat * 12 + 8)), .int .i64 (U (zB.toNat * 12 + 9)), .int .i64 (U (zB.toNat * 12 + 10)), .int .i64 (U (zB.toNat * 12 + 11))] 34)).cell? ⟨wr.heap.size, 11, none⟩ = some (.int .i64 (U (zA.toNat * 12 + 11))) := by go_simp
    have x0B : ((wr.alloc (Obj.cells #[.int .i64 (U (zA.toNat * 12)), .int .i64 (U (zA.toNat * 12 + 1)), .int .i64 (U (zA.toNat * 12 + 2)), .int .i64 (U (zA.toNat * 12 + 3)), .int .i64 (U (zA.toNat * 12 + 4)), .int .i64 (U (zA.toNat * 12 + 5)), .int .i64 (U (zA.toNat * 12 + 6)), .int .i64 (U (zA.toNat * 12 + 7)), .int .i64 (U (zA.toNat * 12 + 8)), .int .i64 (U (zA.toNat * 12 + 9)), .int .i64 (U (zA.toNat * 12 + 10)), .int .i64 (U (zA.toNat * 12 + 11))] 34)).alloc (Obj.cells #[.int .i64 (U (zB.toNat * 12)), .int .i64 (U (zB.toNat * 12 + 1)), .int .i64 (U (zB.toNat * 12 + 2)), .int .i64 (U (zB.toNat * 12 + 3)), .int .i64 (U (zB.toNat * 12 + 4)), .int .i64 (U (zB.toNat * 12 + 5)), .int .i64 (U (zB.toNat * 12 + 6)), .int .i64 (U (zB.toNat * 12 + 7)), .int .i64 (U (zB.toNat * 12 + 8)), .int .i64 (U (zB.toNat * 12 + 9)), .int .i64 (U (zB.toNat * 12 + 10)), .int .i64 (U (zB.toNat * 12 + 11))] 34)).cell? ⟨wr.heap.size + 1, 0, none⟩ = some (.int .i64 (U (zB.toNat * 12))) := by go_simp
    have x1B : ((wr.alloc (Obj.cells #[.int .i64 (U (zA.toNat * 12)), .int .i64 (U (zA.toNat * 12 + 1)), .int .i64 (U (zA.toNat * 12 + 2)), .int .i64 (U (zA.toNat * 12 + 3)), .int .i64 (U (zA.toNat * 12 + 4)), .int .i64 (U (zA.toNat * 12 + 5)), .int .i64 (U (zA.toNat * 12 + 6)), .int .i64 (U (zA.toNat * 12 + 7)), .int .i64 (U (zA.toNat * 12 + 8)), .int .i64 (U (zA.toNat * 12 + 9)), .int .i64 (U (zA.toNat * 12 + 10)), .int .i64 (U (zA.toNat * 12 + 11))] 34)).alloc (Obj.cells #[.int .i64 (U (zB.toNat * 12)), .int .i64 (U (zB.toNat * 12 + 1)), .int .i64 (U (zB.toNat * 12 + 2)), .int .i64 (U (zB.toNat * 12 + 3)), .int .i64 (U (zB.toNat * 12 + 4)), .int .i64 (U (zB.toNat * 12 + 5)), .int .i64 (U (zB.toNat * 12 + 6)), .int .i64 (U (zB.toNat * 12 + 7)), .int .i64 (U (zB.toNat * 12 + 8)), .int .i64 (U (zB.toNat * 12 + 9)), .int .i64 (U (zB.toNat * 12 + 10)), .int .i64 (U (zB.toNat * 12 + 11))] 34)).cell? ⟨wr.heap.size + 1, 1, none⟩ = some (.int .i64 (U (zB.toNat * 12 + 1))) := by go_simp
    have x2B : ((wr.alloc (Obj.cells #[.int .i64 (U (zA.toNat * 12)), .int .i64 (U (zA.toNat * 12 + 1)), .int .i64 (U (zA.toNat * 12 + 2)), .int .i64 (U (zA.toNat * 12 + 3)), .int .i64 (U (zA.toNat * 12 + 4)), .int .i64 (U (zA.toNat * 12 + 5)), .int .i64 (U (zA.toNat * 12 + 6)), .int .i64 (U (zA.toNat * 12 + 7)), .int .i64 (U (zA.toNat * 12 + 8)), .int .i64 (U (zA.toNat * 12 + 9)), .int .i64 (U (zA.toNat * 12 + 10)), .int .i64 (U (zA.toNat * 12 + 11))] 34)).alloc (Obj.cells #[.int .i64 (U (zB.toNat * 12)), .int .i64 (U (zB.toNat * 12 + 1)), .int .i64 (U (zB.toNat * 12 + 2)), .int .i64 (U (zB.toNat * 12 + 3)), .int .i64 (U (zB.toNat * 12 + 4)), .int .i64 (U (zB.toNat * 12 + 5)), .int .i64 (U (zB.toNat * 12 + 6)), .int .i64 (U (zB.toNat * 12 + 7)), .int .i64 (U (zB.toNat * 12 + 8)), .int .i64 (U (zB.toNat * 12 + 9)), .int .i64 (U (zB.toNat * 12 + 10)), .int .i64 (U (zB.toNat * 12 + 11))] 34)).cell? ⟨wr.heap.size + 1, 2, none⟩ = some (.int .i64 (U (zB.toNat * 12 + 2))) := by go_simp
    have x3B : ((wr.alloc (Obj.cells #[.int .i64 (U (zA.toNat * 12)), .int .i64 (U (zA.toNat * 12 + 1)), .int .i64 (U (zA.toNat * 12 + 2)), .int .i64 (U (zA.toNat * 12 + 3)), .int .i64 (U (zA.toNat * 12 + 4)), .int .i64 (U (zA.toNat * 12 + 5)), .int .i64 (U (zA.toNat * 12 + 6)), .int .i64 (U (zA.toNat * 12 + 7)), .int .i64 (U (zA.toNat * 12 + 8)), .int .i64 (U (zA.toNat * 12 + 9)), .int .i64 (U (zA.toNat * 12 + 10)), .int .i64 (U (zA.toNat * 12 + 11))] 34)).alloc (Obj.cells #[.int .i64 (U (zB.toNat * 12)), .int .i64 (U (zB.toNat * 12 + 1)), .int .i64 (U (zB.toNat * 12 + 2)), .int .i64 (U (zB.toNat * 12 + 3)), .int .i64 (U (zB.toNat * 12 + 4)), .int .i64 (U (zB.toNat * 12 + 5)), .int .i64 (U (zB.toNat * 12 + 6)), .int .i64 (U (zB.toNat * 12 + 7)), .int .i64 (U (zB.toNat * 12 + 8)), .int .i64 (U (zB.toNat * 12 + 9)), .int .i64 (U (zB.toNat * 12 + 10)), .int .i64 (U (zB.toNat * 12 + 11))] 34)).cell? ⟨wr.heap.size + 1, 3, none⟩ = some (.int .i64 (U (zB.toNat * 12 + 3))) := by go_simp
    have x4B : ((wr.alloc (Obj.cells #[.int .i64 (U (zA.toNat * 12)), .int .i64 (U (zA.toNat * 12 + 1)), .int .i64 (U (zA.toNat * 12 + 2)), .int .i64 (U (zA.toNat * 12 + 3)), .int .i64 (U (zA.toNat * 12 + 4)), .int .i64 (U (zA.toNat * 12 + 5)), .int .i64 (U (zA.toNat * 12 + 6)), .int .i64 (U (zA.toNat * 12 + 7)), .int .i64 (U (zA.toNat * 12 + 8)), .int .i64 (U (zA.toNat * 12 + 9)), .int .i64 (U (zA.toNat * 12 + 10)), .int .i64 (U (zA.toNat * 12 + 11))] 34)).alloc (Obj.cells #[.int .i64 (U (zB.toNat * 12)), .int .i64 (U (zB.toNat * 12 + 1)), .int .i64 (U (zB.toNat * 12 + 2)), .int .i64 (U (zB.toNat * 12 + 3)), .int .i64 (U (zB.toNat * 12 + 4)), .int .i64 (U (zB.toNat * 12 + 5)), .int .i64 (U (zB.toNat * 12 + 6)), .int .i64 (U (zB.toNat * 12 + 7)), .int .i64 (U (zB.toNat * 12 + 8)), .int .i64 (U (zB.toNat * 12 + 9)), .int .i64 (U (zB.toNat * 12 + 10)), .int .i64 (U (zB.toNat * 12 + 11))] 34)).cell? ⟨wr.heap.size + 1, 4, none⟩ = some (.int .i64 (U (zB.toNat * 12 + 4))) := by go_simp
    have x5B : ((wr.alloc (Obj.cells #[.int .i64 (U (zA.toNat * 12)), .int .i64 (U (zA.toNat * 12 + 1)), .int .i64 (U (zA.toNat * 12 + 2)), .int .i64 (U (zA.toNat * 12 + 3)), .int .i64 (U (zA.toNat * 12 + 4)), .int .i64 (U (zA.toNat * 12 + 5)), .int .i64 (U (zA.toNat * 12 + 6)), .int .i64 (U (zA.toNat * 12 + 7)), .int .i64 (U (zA.toNat * 12 + 8)), .int .i64 (U (zA.toNat * 12 + 9)), .int .i64 (U (zA.toNat * 12 + 10)), .int .i64 (U (zA.toNat * 12 + 11))] 34)).alloc (Obj.cells #[.int .i64 (U (zB.toNat * 12)), .int .i64 (U (zB.toNat * 12 + 1)), .int .i64 (U (zB.toNat * 12 + 2)), .int .i64 (U (zB.toNat * 12 + 3)), .int .i64 (U (zB.toNat * 12 + 4)), .int .i64 (U (zB.toNat * 12 + 5)), .int .i64 (U (zB.toNat * 12 + 6)), .int .i64 (U (zB.toNat * 12 + 7)), .int .i64 (U (zB.toNat * 12 + 8)), .int .i64 (U (zB.toNat * 12 + 9)), .int .i64 (U (zB.toNat * 12 + 10)), .int .i64 (U (zB.toNat * 12 + 11))] 34)).cell? ⟨wr.heap.size + 1, 5, none⟩ = some (.int .i64 (U (zB.toNat * 12 + 5))) := by go_simp
    have x6B : ((wr.alloc (Obj.cells #[.int .i64 (U (zA.toNat * 12)), .int .i64 (U (zA.toNat * 12 + 1)), .int .i64 (U (zA.toNat * 12 + 2)), .int .i64 (U (zA.toNat * 12 + 3)), .int .i64 (U (zA.toNat * 12 + 4)), .int .i64 (U (zA.toNat * 12 + 5)), .int .i64 (U (zA.toNat * 12 + 6)), .int .i64 (U (zA.toNat * 12 + 7)), .int .i64 (U (zA.toNat * 12 + 8)), .int .i64 (U (zA.toNat * 12 + 9)), .int .i64 (U (zA.toNat * 12 + 10)), .int .i64 (U (zA.toNat * 12 + 11))] 34)).alloc (Obj.cells #[.int .i64 (U (zB.toNat * 12)), .int .i64 (U (zB.toNat * 12 + 1)), .int .i64 (U (zB.toNat * 12 + 2)), .int .i64 (U (zB.toNat * 12 + 3)), .int .i64 (U (zB.toNat * 12 + 4)), .int .i64 (U (zB.toNat * 12 + 5)), .int .i64 (U (zB.toNat * 12 + 6)), .int .i64 (U (zB.toNat * 12 + 7)), .int .i64 (U (zB.toNat * 12 + 8)), .int .i64 (U (zB.toNat * 12 + 9)), .int .i64 (U (zB.toNat * 12 + 10)), .int .i64 (U (zB.toNat * 12 + 11))] 34)).cell? ⟨wr.heap.size + 1, 6, none⟩ = some (.int .i64 (U (zB.toNat * 12 + 6))) := by go_simp
    have x7B : ((wr.alloc (Obj.cells #[.int .i64 (U (zA.toNat * 12)), .int .i64 (U (zA.toNat * 12 + 1)), .int .i64 (U (zA.toNat * 12 + 2)), .int .i64 (U (zA.toNat * 12 + 3)), .int .i64 (U (zA.toNat * 12 + 4)), .int .i64 (U (zA.toNat * 12 + 5)), .int .i64 (U (zA.toNat * 12 + 6)), .int .i64 (U (zA.toNat * 12 + 7)), .int .i64 (U (zA.toNat * 12 + 8)), .int .i64 (U (zA.toNat * 12 + 9)), .int .i64 (U (zA.toNat * 12 + 10)), .int .i64 (U (zA.toNat * 12 + 11))] 34)).alloc (Obj.cells #[.int .i64 (U (zB.toNat * 12)), .int .i64 (U (zB.toNat * 12 + 1)), .int .i64 (U (zB.toNat * 12 + 2)), .int .i64 (U (zB.toNat * 12 + 3)), .int .i64 (U (zB.toNat * 12 + 4)), .int .i64 (U (zB.toNat * 12 + 5)), .int .i64 (U (zB.toNat * 12 + 6)), .int .i64 (U (zB.toNat * 12 + 7)), .int .i64 (U (zB.toNat * 12 + 8)), .int .i64 (U (zB.toNat * 12 + 9)), .int .i64 (U (zB.toNat * 12 + 10)), .int .i64 (U (zB.toNat * 12 + 11))] 34)).cell? ⟨wr.heap.size + 1, 7, none⟩ = some (.int .i64 (U (zB.toNat * 12 + 7))) := by go_simp
    have x8B : ((wr.alloc (Obj.cells #[.int .i64 (U (zA.toNat * 12)), .int .i64 (U (zA.toNat * 12 + 1)), .int .i64 (U (zA.toNat * 12 + 2)), .int .i64 (U (zA.toNat * 12 + 3)), .int .i64 (U (zA.toNat * 12 + 4)), .int .i64 (U (zA.toNat * 12 + 5)), .int .i64 (U (zA.toNat * 12 + 6)), .int .i64 (U (zA.toNat * 12 + 7)), .int .i64 (U (zA.toNat * 12 + 8)), .int .i64 (U (zA.toNat * 12 + 9)), .int .i64 (U (zA.toNat * 12 + 10)), .int .i64 (U (zA.toNat * 12 + 11))] 34)).alloc (Obj.cells #[.int .i64 (U (zB.toNat * 12)), .int .i64 (U (zB.toNat * 12 + 1)), .int .i64 (U (zB.toNat * 12 + 2)), .int .i64 (U (zB.toNat * 12 + 3)), .int .i64 (U (zB.toNat * 12 + 4)), .int .i64 (U (zB.toNat * 12 + 5)), .int .i64 (U (zB.toNat * 12 + 6)), .int .i64 (U (zB.toNat * 12 + 7)), .int .i64 (U (zB.toNat * 12 + 8)), .int .i64 (U (zB.toNat * 12 + 9)), .int .i64 (U (zB.toNat * 12 + 10)), .int .i64 (U (zB.toNat * 12 + 11))] 34)).cell? ⟨wr.heap.size + 1, 8, none⟩ = some (.int .i64 (U (zB.toNat * 12 + 8))) := by go_simp
    have x9B : ((wr.alloc (Obj.cells #[.int .i64 (U (zA.toNat * 12)), .int .i64 (U (zA.toNat * 12 + 1)), .int .i64 (U (zA.toNat * 12 + 2)), .int .i64 (U (zA.toNat * 12 + 3)), .int .i64 (U (zA.toNat * 12 + 4)), .int .i64 (U (zA.toNat * 12 + 5)), .int .i64 (U (zA.toNat * 12 + 6)), .int .i64 (U (zA.toNat * 12 + 7)), .int .i64 (U (zA.toNat * 12 + 8)), .int .i64 (U (zA.toNat * 12 + 9)), .int .i64 (U (zA.toNat * 12 + 10)), .int .i64 (U (zA.toNat * 12 + 11))] 34)).alloc (Obj.cells #[.int .i64 (U (zB.toNat * 12)), .int .i64 (U (zB.toNat * 12 + 1)), .int .i64 (U (zB.toNat * 12 + 2)), .int .i64 (U (zB.toNat * 12 + 3)), .int .i64 (U (zB.toNat * 12 + 4)), .int .i64 (U (zB.toNat * 12 + 5)), .int .i64 (U (zB.toNat * 12 + 6)), .int .i64 (U (zB.toNat * 12 + 7)), .int .i64 (U (zB.toNat * 12 + 8)), .int .i64 (U (zB.toNat * 12 + 9)), .int .i64 (U (zB.toNat * 12 + 10)), .int .i64 (U (zB.toNat * 12 + 11))] 34)).cell? ⟨wr.heap.size + 1, 9, none⟩ = some (.int .i64 (U (zB.toNat * 12 + 9))) := by go_simp
    have x10B : ((wr.alloc (Obj.cells #[.int .i64 (U (zA.toNat * 12)), .int .i64 (U (zA.toNat * 12 + 1)), .int .i64 (U (zA.toNat * 12 + 2)), .int .i64 (U (zA.toNat * 12 + 3)), .int .i64 (U (zA.toNat * 12 + 4)), .int .i64 (U (zA.toNat * 12 + 5)), .int .i64 (U (zA.toNat * 12 + 6)), .int .i64 (U (zA.toNat * 12 + 7)), .int .i64 (U (zA.toNat * 12 + 8)), .int .i64 (U (zA.toNat * 12 + 9)), .int .i64 (U (zA.toNat * 12 + 10)), .int .i64 (U (zA.toNat * 12 + 11))] 34)).alloc (Obj.cells #[.int .i64 (U (zB.toNat * 12)), .int .i64 (U (zB.toNat * 12 + 1)), .int .i64 (U (zB.toNat * 12 + 2)), .int .i64 (U (zB.toNat * 12 + 3)), .int .i64 (U (zB.toNat * 12 + 4)), .int .i64 (U (zB.toNat * 12 + 5)), .int .i64 (U (zB.toNat * 12 + 6)), .int .i64 (U (zB.toNat * 12 + 7)), .int .i64 (U (zB.toNat * 12 + 8)), .int .i64 (U (zB.toNat * 12 + 9)), .int .i64 (U (zB.toNat * 12 + 10)), .int .i64 (U (zB.toNat * 12 + 11))] 34)).cell? ⟨wr.heap.size + 1, 10, none⟩ = some (.int .i64 (U (zB.toNat * 12 + 10))) := by go_simp
    have x11B : ((wr.alloc (Obj.cells #[.int .i64 (U (zA.toNat * 12)), .int .i64 (U (zA.toNat * 12 + 1)), .int .i64 (U (zA.toNat * 12 + 2)), .int .i64 (U (zA.toNat * 12 + 3)), .int .i64 (U (zA.toNat * 12 + 4)), .int .i64 (U (zA.toNat * 12 + 5)), .int .i64 (U (zA.toNat * 12 + 6)), .int .i64 (U (zA.toNat * 12 + 7)), .int .i64 (U (zA.toNat * 12 + 8)), .int .i64 (U (zA.toNat * 12 + 9)), .int .i64 (U (zA.toNat * 12 + 10)), .int .i64 (U (zA.toNat * 12 + 11))] 34)).alloc (Obj.cells #[.int .i64 (U (zB.toNat * 12)), .int .i64 (U (zB.toNat * 12 + 1)), .int .i64 (U (zB.toNat * 12 + 2)), .int .i64 (U (zB.toNat * 12 + 3)), .int .i64 (U (zB.toNat * 12 + 4)), .int .i64 (U (zB.toNat * 12 + 5)), .int .i64 (U (zB.toNat * 12 + 6)), .int .i64 (U (zB.toNat * 12 + 7)), .int .i64 (U (zB.toNat * 12 + 8)), .int .i64 (U (zB.toNat * 12 + 9)), .int .i64 (U (zB.toNat * 12 + 10)), .int .i64 (U (zB.toNat * 12 + 11))] 34)).cell? ⟨wr.heap.size + 1, 11, none⟩ = some (.int .i64 (U (zB.toNat * 12 + 11))) := by go_simp
    have hla : wr.heap.size < ((wr.alloc (Obj.cells #[.int .i64 (U (zA.toNat * 12)), .int .i64 (U (zA.toNat * 12 + 1)), .int .i64 (U (zA.toNat * 12 + 2)), .int .i64 (U (zA.toNat * 12 + 3)), .int .i64 (U (zA.toNat * 12 + 4)), .int .i64 (U (zA.toNat * 12 + 5)), .int .i64 (U (zA.toNat * 12 + 6)), .int .i64 (U (zA.toNat * 12 + 7)), .int .i64 (U (zA.toNat * 12 + 8)), .int .i64 (U (zA.toNat * 12 + 9)), .int .i64 (U (zA.toNat * 12 + 10)), .int .i64 (U (zA.toNat * 12 + 11))] 34)).alloc (Obj.cells #[.int .i64 (U (zB.toNat * 12)), .int .i64 (U (zB.toNat * 12 + 1)), .int .i64 (U (zB.toNat * 12 + 2)), .int .i64 (U (zB.toNat * 12 + 3)), .int .i64 (U (zB.toNat * 12 + 4)), .int .i64 (U (zB.toNat * 12 + 5)), .int .i64 (U (zB.toNat * 12 + 6)), .int .i64 (U (zB.toNat * 12 + 7)), .int .i64 (U (zB.toNat * 12 + 8)), .int .i64 (U (zB.toNat * 12 + 9)), .int .i64 (U (zB.toNat * 12 + 10)), .int .i64 (U (zB.toNat * 12 + 11))] 34)).heap.size := by simp; omega
    have hlb : wr.heap.size + 1 < ((wr.alloc (Obj.cells #[.int .i64 (U (zA.toNat * 12)), .int .i64 (U (zA.toNat * 12 + 1)), .int .i64 (U (zA.toNat * 12 + 2)), .int .i64 (U (zA.toNat * 12 + 3)), .int .i64 (U (zA.toNat * 12 + 4)), .int .i64 (U (zA.toNat * 12 + 5)), .int .i64 (U (zA.toNat * 12 + 6)), .int .i64 (U (zA.toNat * 12 + 7)), .int .i64 (U (zA.toNat * 12 + 8)), .int .i64 (U (zA.toNat * 12 + 9)), .int .i64 (U (zA.toNat * 12 + 10)), .int .i64 (U (zA.toNat * 12 + 11))] 34)).alloc (Obj.cells #[.int .i64 (U (zB.toNat * 12)), .int .i64 (U (zB.toNat * 12 + 1)), .int .i64 (U (zB.toNat * 12 + 2)), .int .i64 (U (zB.toNat * 12 + 3)), .int .i64 (U (zB.toNat * 12 + 4)), .int .i64 (U (zB.toNat * 12 + 5)), .int .i64 (U (zB.toNat * 12 + 6)), .int .i64 (U (zB.toNat * 12 + 7)), .int .i64 (U (zB.toNat * 12 + 8)), .int .i64 (U (zB.toNat * 12 + 9)), .int .i64 (U (zB.toNat * 12 + 10)), .int .i64 (U (zB.toNat * 12 + 11))] 34)).heap.size := by simp
    have hrk : ∀ j, j < 5 → ((wr.alloc (Obj.cells #[.int .i64 (U (zA.toNat * 12)), .int .i64 (U (zA.toNat * 12 + 1)), .int .i64 (U (zA.toNat * 12 + 2)), .int .i64 (U (zA.toNat * 12 + 3)), .int .i64 (U (zA.toNat * 12 + 4)), .int .i64 (U (zA.toNat * 12 + 5)), .int .i64 (U (zA.toNat * 12 + 6)), .int .i64 (U (zA.toNat * 12 + 7)), .int .i64 (U (zA.toNat * 12 + 8)), .int .i64 (U (zA.toNat * 12 + 9)), .int .i64 (U (zA.toNat * 12 + 10)), .int .i64 (U (zA.toNat * 12 + 11))] 34)).alloc (Obj.cells #[.int .i64 (U (zB.toNat * 12)), .int .i64 (U (zB.toNat * 12 + 1)), .int .i64 (U (zB.toNat * 12 + 2)), .int .i64 (U (zB.toNat * 12 + 3)), .int .i64 (U (zB.toNat * 12 + 4)), .int .i64 (U (zB.toNat * 12 + 5)), .int .i64 (U (zB.toNat * 12 + 6)), .int .i64 (U (zB.toNat * 12 + 7)), .int .i64 (U (zB.toNat * 12 + 8)), .int .i64 (U (zB.toNat * 12 + 9)), .int .i64 (U (zB.toNat * 12 + 10)), .int .i64 (U (zB.toNat * 12 + 11))] 34)).cell? ⟨b2, o2 + (k * 5 + j), none⟩ = wr.cell? ⟨b2, o2 + (k * 5 + j), none⟩ := fun j hj => by go_simp
    generalize ((wr.alloc (Obj.cells #[.int .i64 (U (zA.toNat * 12)), .int .i64 (U (zA.toNat * 12 + 1)), .int .i64 (U (zA.toNat * 12 + 2)), .int .i64 (U (zA.toNat * 12 + 3)), .int .i64 (U (zA.toNat * 12 + 4)), .int .i64 (U (zA.toNat * 12 + 5)), .int .i64 (U (zA.toNat * 12 + 6)), .int .i64 (U (zA.toNat * 12 + 7)), .int .i64 (U (zA.toNat * 12 + 8)), .int .i64 (U (zA.toNat * 12 + 9)), .int .i64 (U (zA.toNat * 12 + 10)), .int .i64 (U (zA.toNat * 12 + 11))] 34)).alloc (Obj.cells #[.int .i64 (U (zB.toNat * 12)), .int .i64 (U (zB.toNat * 12 + 1)), .int .i64 (U (zB.toNat * 12 + 2)), .int .i64 (U (zB.toNat * 12 + 3)), .int .i64 (U (zB.toNat * 12 + 4)), .int .i64 (U (zB.toNat * 12 + 5)), .int .i64 (U (zB.toNat * 12 + 6)), .int .i64 (U (zB.toNat * 12 + 7)), .int .i64 (U (zB.toNat * 12 + 8)), .int .i64 (U (zB.toNat * 12 + 9)), .int .i64 (U (zB.toNat * 12 + 10)), .int .i64 (U (zB.toNat * 12 + 11))] 34)) = wx at hL2 hla hlb hE2 hrk x0A x0B x1A x1B x2A x2B x3A x3B x4A x4B x5A x5B x6A x6B x7A x7B x8A x8B x9A x9B x10A x10B x11A x11B ⊢
    generalize wr.heap.size + 1 = bb at hlb x0B x1B x2B x3B x4B x5B x6B x7B x8B x9B x10B x11B ⊢
    clear hL p0 q0 p1 q1 p2 q2 p3 q3 p4 q4 p5 q5 p6 q6 p7 q7 p8 q8 p9 q9 p10 q10 p11 q11 r0 r1 r2 r3 r4 hrk hE2
    generalize wr.heap.size = ba at hla hE1 x0A x1A x2A x3A x4A x5A x6A x7A x8A x9A x10A x11A ⊢
    clear hE1
    obtain ⟨SA, hSA⟩ : ∃ b, decide (8 ≤ (rowU U zA) 11) = b := ⟨_, rfl⟩
    obtain ⟨SB, hSB⟩ : ∃ b, decide (8 ≤ (rowU U zB) 11) = b := ⟨_, rfl⟩
    go_cut [49] (fun s wc => s = .bool LV ∧ LsV w wc 40 5 a1 m1 c1 (liveL U C k))
    case first =>
     by_cases hmA : 0 < U (zA.toNat * 12 + 8)
     · cases SA with
       | false =>
        have LA : Shut (liveV (rowU U zA) = true) := live_t (V := rowU U zA) hmA hSA
        go_wp2_with (go_at_call 47; refine (l6Sleeps_k (rowU U zA) _ false hSA).mono ?_; rintro e w7 ⟨rfl, hb7⟩)
        go_meet
        exact ⟨by rw [← hLV.out]; unfold liveC; rw [hzA.out, hzB.out, LA.out]; rfl, (hL2.below hb7)⟩
       | true =>
        have LA : Shut (liveV (rowU U zA) = false) := live_s hSA
        by_cases hmB : 0 < U (zB.toNat * 12 + 8)
        · cases SB with
          | true =>
           have LB : Shut (liveV (rowU U zB) = false) := live_s hSB
           go_wp2_with (first
            | (have _ := hb7; go_at_call 47; refine (l6Sleeps_k (rowU U zB) _ true hSB).mono ?_; rintro e w8 ⟨rfl, hb8⟩)
            | (go_at_call 47; refine (l6Sleeps_k (rowU U zA) _ true hSA).mono ?_; rintro e w7 ⟨rfl, hb7⟩; obtain ⟨hc7, hf7⟩ := bcell hb7; have y0 := (hc7 bb 0 hlb).trans x0B; have y1 := (hc7 bb 1 hlb).trans x1B; have y2 := (hc7 bb 2 hlb).trans x2B; have y3 := (hc7 bb 3 hlb).trans x3B; have y4 := (hc7 bb 4 hlb).trans x4B; have y5 := (hc7 bb 5 hlb).trans x5B; have y6 := (hc7 bb 6 hlb).trans x6B; have y7 := (hc7 bb 7 hlb).trans x7B; have y8 := (hc7 bb 8 hlb).trans x8B; have y9 := (hc7 bb 9 hlb).trans x9B; have y10 := (hc7 bb 10 hlb).trans x10B; have y11 := (hc7 bb 11 hlb).trans x11B; clear hc7 hf7))
           go_meet
           exact ⟨by rw [← hLV.out]; unfold liveC; rw [hzA.out, hzB.out, LA.out, LB.out]; rfl, ((hL2.below hb7).below hb8)⟩
          | false =>
           have LB : Shut (liveV (rowU U zB) = true) := live_t (V := rowU U zB) hmB hSB
           go_wp2_with (first
            | (have _ := hb7; go_at_call 47; refine (l6Sleeps_k (rowU U zB) _ false hSB).mono ?_; rintro e w8 ⟨rfl, hb8⟩)
            | (go_at_call 47; refine (l6Sleeps_k (rowU U zA) _ true hSA).mono ?_; rintro e w7 ⟨rfl, hb7⟩; obtain ⟨hc7, hf7⟩ := bcell hb7; have y0 := (hc7 bb 0 hlb).trans x0B; have y1 := (hc7 bb 1 hlb).trans x1B; have y2 := (hc7 bb 2 hlb).trans x2B; have y3 := (hc7 bb 3 hlb).trans x3B; have y4 := (hc7 bb 4 hlb).trans x4B; have y5 := (hc7 bb 5 hlb).trans x5B; have y6 := (hc7 bb 6 hlb).trans x6B; have y7 := (hc7 bb 7 hlb).trans x7B; have y8 := (hc7 bb 8 hlb).trans x8B; have y9 := (hc7 bb 9 hlb).trans x9B; have y10 := (hc7 bb 10 hlb).trans x10B; have y11 := (hc7 bb 11 hlb).trans x11B; clear hc7 hf7))
           go_meet
           exact ⟨by rw [← hLV.out]; unfold liveC; rw [hzA.out, hzB.out, LA.out, LB.out]; rfl, ((hL2.below hb7).below hb8)⟩
        · have LB : Shut (liveV (rowU U zB) = false) := live_m (V := rowU U zB) hmB
          go_wp2_with (go_at_call 47; refine (l6Sleeps_k (rowU U zA) _ true hSA).mono ?_; rintro e w7 ⟨rfl, hb7⟩; obtain ⟨hc7, hf7⟩ := bcell hb7; have y0 := (hc7 bb 0 hlb).trans x0B; have y1 := (hc7 bb 1 hlb).trans x1B; have y2 := (hc7 bb 2 hlb).trans x2B; have y3 := (hc7 bb 3 hlb).trans x3B; have y4 := (hc7 bb 4 hlb).trans x4B; have y5 := (hc7 bb 5 hlb).trans x5B; have y6 := (hc7 bb 6 hlb).trans x6B; have y7 := (hc7 bb 7 hlb).trans x7B; have y8 := (hc7 bb 8 hlb).trans x8B; have y9 := (hc7 bb 9 hlb).trans x9B; have y10 := (hc7 bb 10 hlb).trans x10B; have y11 := (hc7 bb 11 hlb).trans x11B; clear hc7 hf7)
          go_meet
          exact ⟨by rw [← hLV.out]; unfold liveC; rw [hzA.out, hzB.out, LA.out, LB.out]; rfl, (hL2.below hb7)⟩
     · have LA : Shut (liveV (rowU U zA) = false) := live_m (V := rowU U zA) hmA
       by_cases hmB : 0 < U (zB.toNat * 12 + 8)
       · cases SB with
         | true =>
          have LB : Shut (liveV (rowU U zB) = false) := live_s hSB
          go_wp2_with (go_at_call 47; refine (l6Sleeps_k (rowU U zB) _ true hSB).mono ?_; rintro e w8 ⟨rfl, hb8⟩)
          go_meet
          exact ⟨by rw [← hLV.out]; unfold liveC; rw [hzA.out, hzB.out, LA.out, LB.out]; rfl, (hL2.below hb8)⟩
         | false =>
          have LB : Shut (liveV (rowU U zB) = true) := live_t (V := rowU U zB) hmB hSB
          go_wp2_with (go_at_call 47; refine (l6Sleeps_k (rowU U zB) _ false hSB).mono ?_; rintro e w8 ⟨rfl, hb8⟩)
          go_meet
          exact ⟨by rw [← hLV.out]; unfold liveC; rw [hzA.out, hzB.out, LA.out, LB.out]; rfl, (hL2.below hb8)⟩
       · have LB : Shut (liveV (rowU U zB) = false) := live_m (V := rowU U zB) hmB
         go_wp2_with fail
         go_meet
         exact ⟨by rw [← hLV.out]; unfold liveC; rw [hzA.out, hzB.out, LA.out, LB.out]; rfl, hL2⟩
    case rest =>
    clear hL2 hla hlb hSA hSB x0A x0B x1A x1B x2A x2B x3A x3B x4A x4B x5A x5B x6A x6B x7A x7B x8A x8B x9A x9B x10A x10B x11A x11B
    obtain ⟨rfl, hL⟩ := hcut
    cases LV with
    | false =>
     have HNO : Shut (liveL U C (k + 1) = liveL U C k) := liveL_no hLV.out
     go_wp2_with fail
     go_roundw
     case rel => exact ⟨k + 1, _, _, _, by omega, by go_num, rfl, by rw [HNO.out]; exact hL⟩
     case measure => simp [intOf]; omega
    | true =>
     have HYE : Shut (liveL U C (k + 1) = liveL U C k ++ [zA, zB, C (k * 5 + 2), C (k * 5 + 3), C (k * 5 + 4)]) := by show _ = _; rw [liveL_yes hLV.out, hzA.out, hzB.out]
     obtain ⟨b2', o2', e2, hbl2', hc2⟩ := (h2.below hL.bel) (by omega)
     simp only [Option.some.injEq, Addr.mk.injEq, and_true] at e2
     obtain ⟨rfl, rfl⟩ := e2
     have r0 := hc2 (k * 5) (by omega)
     have r1 := hc2 (k * 5 + 1) (by omega)
     have r2 := hc2 (k * 5 + 2) (by omega)
     have r3 := hc2 (k * 5 + 3) (by omega)
     have r4 := hc2 (k * 5 + 4) (by omega)
     simp only [← Nat.add_assoc] at r0 r1 r2 r3 r4
     rw [hzA.out] at r0
     rw [hzB.out] at r1
     clear hc2
     have hle := liveL_len U C k
     have hlen := hL.len
     have hwz := hL.bel.size
     go_wp2_with (refine wpList_app rfl _ _ _ rfl w.heap.size 40 5 40 zcCon Tryz.underlying35 infoCon rfl (by decide) (.slice a1 m1 c1) m1 (ofL (liveL U C k)) rfl (hL.below ((Below.refl _ _).alloc (Nat.le_refl _) _)).own _ 1 _ (ofL [zA, zB, C (k * 5 + 2), C (k * 5 + 3), C (k * 5 + 4)]) rfl (flatC _ _ _ _ _ _ _) (by unfold maxLen; omega) (by omega) (by simp only [World.size_alloc]; omega) ?_; intro a3 c3 w3 ho3 hg3)
     have hP := (hL.below ((Below.refl _ _).alloc (Nat.le_refl _) _)).push (x := [zA, zB, C (k * 5 + 2), C (k * 5 + 3), C (k * 5 + 4)]) rfl hg3 ho3
     go_roundw
     case rel => exact ⟨k + 1, _, _, _, by omega, by go_num, rfl, by rw [HYE.out]; exact hP⟩
     case measure => simp [intOf]; omega
  · obtain rfl : k = m := by omega
    go_wp2_with fail
    go_ret
    exact ⟨_, _, _, rfl, hL.len, hL.out (Below.refl _ _)⟩
def valN (U G : Nat → Int) (i : Nat) : Int :=
 bif decide (U (i * 12 + 8) = 0) then -1 else bif decide (atOf (numS U G i).2 (G i) (numS U G i).2.length < 0) then ((numS U G i).2.length : Int) else atOf (numS U G i).2 (G i) (numS U G i).2.length
theorem numS_1 (U G : Nat → Int) (i : Nat) : (numS U G (i + 1)).1 = (numS U G i).1 ++ [valN U G i] := by
 unfold valN
 by_cases h : U (i * 12 + 8) = 0
 · rw [numS_z h, decide_eq_true h]; rfl
 · rw [decide_eq_false h]
   by_cases k : atOf (numS U G i).2 (G i) (numS U G i).2.length < 0
   · rw [numS_n h k, decide_eq_true k]; rfl
   · rw [numS_o h k, decide_eq_false k]; rfl
theorem ofL_num (U G : Nat → Int) : ∀ n i, i < n → ofL (numS U G n).1 i = valN U G i
 | 0, i, h => by omega
 | n + 1, i, h => by
  rw [numS_1]
  have hl := (numS_len U G n).1
  by_cases e : i = n
  · subst e; rw [ofL_r (by omega), hl, Nat.sub_self]; rfl
  · rw [ofL_l (by omega)]; exact ofL_num U G n i (by omega)
theorem val_cases (U G : Nat → Int) (i : Nat) :
 (valN U G i = -1 ∧ (numS U G (i + 1)).2.length = (numS U G i).2.length) ∨ (U (i * 12 + 8) ≠ 0 ∧ valN U G i = ((numS U G i).2.length : Int) ∧ (numS U G (i + 1)).2.length = (numS U G i).2.length + 1) ∨ (U (i * 12 + 8) ≠ 0 ∧ 0 ≤ valN U G i ∧ valN U G i < ((numS U G i).2.length : Int) ∧ (numS U G (i + 1)).2.length = (numS U G i).2.length) := by
 unfold valN
 by_cases h : U (i * 12 + 8) = 0
 · rw [numS_z h, decide_eq_true h]; exact .inl ⟨rfl, rfl⟩
 · rw [decide_eq_false h]
   by_cases k : atOf (numS U G i).2 (G i) (numS U G i).2.length < 0
   · rw [numS_n h k, decide_eq_true k]; exact .inr (.inl ⟨h, rfl, by rw [List.length_append]; rfl⟩)
   · rw [numS_o h k, decide_eq_false k]
     refine .inr (.inr ⟨h, ?_, ?_, rfl⟩)
     · show 0 ≤ atOf _ _ _; omega
     · show atOf (numS U G i).2 (G i) (numS U G i).2.length < _
       rcases atOf_bd (numS U G i).2 (G i) (numS U G i).2.length with q | q <;> omega
theorem awP_g (l : List Bool) (g : Int) (s : Bool) : (awP l g s).length = if g = (l.length : Int) then l.length + 1 else l.length := by
 unfold awP
 by_cases e : g = (l.length : Int)
 · rw [if_pos e, decide_eq_true e]
   cases decide (0 ≤ g) <;> simp
 · rw [if_neg e, decide_eq_false e]
   cases decide (0 ≤ g) <;> simp
theorem aw_len (U Gr G : Nat → Int) (n : Nat) (hG : ∀ i, i < n → G i = valN U Gr i) : ∀ i, i ≤ n → (awL U G i).length = (numS U Gr i).2.length
 | 0, _ => rfl
 | i + 1, h => by
  have ih := aw_len U Gr G n hG i (by omega)
  rw [awL, awP_g, ih, hG i (by omega)]
  rcases val_cases U Gr i with ⟨a, b⟩ | ⟨_, a, b⟩ | ⟨_, a, b, c⟩
  · rw [if_neg (by omega), b]
  · rw [if_pos (by omega), b]
  · rw [if_neg (by omega), c]
theorem num2_mono (U Gr : Nat → Int) : ∀ j i, i ≤ j → (numS U Gr i).2.length ≤ (numS U Gr j).2.length
 | 0, i, h => by obtain rfl : i = 0 := by omega
  exact Nat.le_refl _
 | j + 1, i, h => by
  by_cases e : i = j + 1
  · rw [e]; exact Nat.le_refl _
  · have := num2_mono U Gr j i (by omega)
    rcases val_cases U Gr j with ⟨a, b⟩ | ⟨_, a, b⟩ | ⟨_, a, b, c⟩ <;> omega
theorem grp_bd (U Gr G : Nat → Int) (n : Nat) (hG : ∀ i, i < n → G i = valN U Gr i) : ∀ i, i < n → (-1 ≤ G i ∧ G i ≤ ((awL U G i).length : Int)) ∧ G i < ((awL U G n).length : Int) ∧ (0 ≤ G i → U (i * 12 + 8) ≠ 0) := by
 intro i hi
 have h1 := aw_len U Gr G n hG i (by omega)
 have h2 := aw_len U Gr G n hG n (Nat.le_refl _)
 have h3 := num2_mono U Gr n (i + 1) (by omega)
 have h4 := num2_mono U Gr (i + 1) i (by omega)
 rw [h1, h2, hG i hi]
 rcases val_cases U Gr i with ⟨a, b⟩ | ⟨m, a, b⟩ | ⟨m, a, b, c⟩
 · exact ⟨by omega, by omega, fun q => by omega⟩
 · exact ⟨by omega, by omega, fun _ => m⟩
 · exact ⟨by omega, by omega, fun _ => m⟩
theorem live_ok {U C : Nat → Int} {n m : Nat} (h : ∀ k, k < m → CtP n (C (k * 5)) (C (k * 5 + 1)) (C (k * 5 + 2)) (C (k * 5 + 3)) (C (k * 5 + 4))) : ∀ k, k ≤ m → Fives (CtP n) (liveL U C k)
 | 0, _ => Fives.nil _
 | k + 1, hk => by
  have ih := live_ok (U := U) h k (by omega)
  cases e : liveC U C k with
  | true => rw [liveL_yes e]; exact ih.app (Fives.one (h k (by omega)))
  | false => rw [liveL_no e]; exact ih
theorem con_P (C : Nat → Nat → Int) {n m : Nat} (e : (conL C n).length = m * 5) : ∀ k, k < m → CtP n (ofL (conL C n) (k * 5)) (ofL (conL C n) (k * 5 + 1)) (ofL (conL C n) (k * 5 + 2)) (ofL (conL C n) (k * 5 + 3)) (ofL (conL C n) (k * 5 + 4)) := by
 obtain ⟨m', e', p⟩ := conOut_ok C n (n := n)
 obtain rfl : m' = m := by unfold conL at e; omega
 exact p
end Go.Proofs.YtalkkjhehndaoaaGreat
