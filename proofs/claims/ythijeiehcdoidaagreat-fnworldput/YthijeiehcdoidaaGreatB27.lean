/- Texts of a proof. -/
import Derived.Test.YthijeiehcdoidaaGreatB20
import Derived.Test.YthijeiehcdoidaaGreatB2
import Derived.Test.YthijeiehcdoidaaGreatB4
import Derived.Deep.RegionHeld3
import Derived.Deep.DeepCutAuto
import Derived.Test.YthijeiehcdoidaaGreatB23
import Derived.Test.YthijeiehcdoidaaGreatB17
import Derived.Test.YthijeiehcdoidaaGreatS9q
import Derived.Test.YthijeiehcdoidaaGreatB15
import Derived.Test.YthijeiehcdoidaaGreatB24
import Derived.Test.YthijeiehcdoidaaGreatS8a
import Derived.Test.YthijeiehcdoidaaGreatB26
import Derived.Test.YthijeiehcdoidaaGreatB16
set_option maxHeartbeats 16000000
set_option maxRecDepth 20000
namespace Go.Proofs.YthijeiehcdoidaaGreat
open Go.RowKit
set_option linter.unusedVariables false
set_option linter.unusedSimpArgs false
theorem l4In_w (a : Option Addr) (N c : Nat) (Q : Nat → Int) (p q : Int) (w : World) (h : Flat w a (N * 2) Q) (hN : N ≤ 1048576) :
 Calls Tryz.prog 150 #[.slice a N c, .agg #[.int .i64 p, .int .i64 q]] w fun e w' => ∃ b : Bool, e = .returned (.bool b) ∧ Below w.heap.size w w' := by
 have hset := cset_map
 have hE : Below w.heap.size w (w.alloc (Obj.cells #[.int .i64 p, .int .i64 q] 58)) := (Below.refl _ _).alloc (Nat.le_refl _) _
 have hB0 : Nb (w.alloc (Obj.cells #[.int .i64 p, .int .i64 q] 58)) w.heap.size 2 (fun j => [p, q].getD j 0) := ⟨fun j hj => by rcases (show j = 0 ∨ j = 1 by omega) with rfl | rfl <;> go_simp, fun o => by go_simp, by simp⟩
 go_enter Tryz.func150, Tryz.ntmps150
 go_upto_region 2 with fail
 generalize (w.alloc (Obj.cells #[.int .i64 p, .int .i64 q] 58)) = w0 at hE hB0 ⊢
 go_loopw [5] (fun s wr => ∃ k : Nat, k ≤ N ∧ s = .int .i64 (k : Int) ∧ Below w.heap.size w wr ∧ Nb wr w.heap.size 2 (fun j => [p, q].getD j 0)) (fun s _ => N - (intOf s).toNat)
 case atStart => exact ⟨0, Nat.zero_le _, rfl, hE, hB0⟩
 case round =>
  clear hE hB0
  obtain ⟨k, hk, rfl, hw, hB⟩ := hrel
  by_cases hlt : k < N
  · have hkN : (k : Int) < (N : Int) := by omega
    obtain ⟨b1, o1, e1, _, hc1⟩ := (h.below hw) (by omega)
    have r0 : wr.cell? ⟨b1, o1 + k * 2, none⟩ = some (.int .i64 (Q (k * 2))) := by have z := hc1 (k * 2) (by omega); simpa [Nat.add_assoc] using z
    have r1 : wr.cell? ⟨b1, o1 + k * 2 + 1, none⟩ = some (.int .i64 (Q (k * 2 + 1))) := by have z := hc1 (k * 2 + 1) (by omega); simpa [Nat.add_assoc] using z
    have p0 : wr.cell? ⟨w.heap.size, 0, none⟩ = some (.int .i64 p) := hB.c 0 (by decide)
    have p1 : wr.cell? ⟨w.heap.size, 1, none⟩ = some (.int .i64 q) := hB.c 1 (by decide)
    clear hc1
    subst e1
    obtain ⟨bb, hbb⟩ : ∃ b, (Q (k * 2) == p && Q (k * 2 + 1) == q) = b := ⟨_, rfl⟩
    have hev : ∀ w, (Op.equalIn 10000 58 (.agg #[.int .i64 (Q (k * 2)), .int .i64 (Q (k * 2 + 1))]) (.agg #[.int .i64 p, .int .i64 q])).run Tryz.prog w = .ok bb w := fun w => by rw [eq_pair0, hbb]
    clear hbb
    cases bb with
    | true =>
     go_upto_region 4 with fail
     refine wp_region_held_drew (S := fun w' => w'.cell? ⟨b1, o1 + k * 2, none⟩ = some (.int .i64 (Q (k * 2))) ∧ w'.cell? ⟨b1, o1 + k * 2 + 1, none⟩ = some (.int .i64 (Q (k * 2 + 1))) ∧ w'.cell? ⟨w.heap.size, 0, none⟩ = some (.int .i64 p) ∧ w'.cell? ⟨w.heap.size, 1, none⟩ = some (.int .i64 q)) (by kernel_rfl) ?_ (fun hHeld => ?_)
     · (try dsimp only)
       (first | (go_simp; done) | (go_keep; done))
     refine tq 0 hHeld ?_
     refine tq 1 hHeld ?_
     refine tq 2 hHeld ?_
     refine tq 3 hHeld ?_
     refine tq 4 hHeld ?_
     refine tq 5 hHeld ?_
     refine wpAnyH_done (by kernel_rfl) ?_ _
     go_wp2_with fail
     go_ret
     exact ⟨_, rfl, hw.drew⟩
    | false =>
     go_upto_region 4 with fail
     refine wp_region_held_drew (S := fun w' => w'.cell? ⟨b1, o1 + k * 2, none⟩ = some (.int .i64 (Q (k * 2))) ∧ w'.cell? ⟨b1, o1 + k * 2 + 1, none⟩ = some (.int .i64 (Q (k * 2 + 1))) ∧ w'.cell? ⟨w.heap.size, 0, none⟩ = some (.int .i64 p) ∧ w'.cell? ⟨w.heap.size, 1, none⟩ = some (.int .i64 q)) (by kernel_rfl) ?_ (fun hHeld => ?_)
     · (try dsimp only)
       (first | (go_simp; done) | (go_keep; done))
     refine tq 0 hHeld ?_
     refine tq 1 hHeld ?_
     refine tq 2 hHeld ?_
     refine tq 3 hHeld ?_
     refine tq 4 hHeld ?_
     refine tq 5 hHeld ?_
     refine wpAnyH_done (by kernel_rfl) ?_ _
     go_wp2_with fail
     go_roundw
     case rel => exact ⟨k + 1, by omega, by go_num, hw.drew, hB.dr⟩
     case measure => simp [intOf]; omega
  · obtain rfl : k = N := by omega
    go_wp2_with fail
    go_ret
    exact ⟨_, rfl, hw⟩
abbrev zcEv : Value := .agg #[.bool false, .int .i64 0, .int .i64 0]
theorem infoEv : (Tryz.prog.info? 198).map (fun i => (i.zero, i.size, i.bytes)) = some (some zcEv, 3, 24) := by kernel_rfl
theorem l10Events_w (a : Option Addr) (N c : Nat) (Q : Nat → Int) (a' : Option Addr) (M c' : Nat) (Q' : Nat → Int) (w : World) (h : Flat w a (N * 2) Q) (h' : Flat w a' (M * 2) Q') (hN : N ≤ 1000) (hM : M ≤ 1000) :
 Calls Tryz.prog 112 #[.slice a N c, .slice a' M c'] w fun e w' => ∃ (a1 : Option Addr) (m c1 : Nat), e = .returned (.slice a1 m c1) ∧ m ≤ N + M ∧ Below w.heap.size w w' := by
 have hset := cset_map
 have L0 := LQ.new (w := w) 198 3 (Below.refl _ w) rfl
 go_enter Tryz.func112, Tryz.ntmps112
 go_upto_region 3 with fail
 go_loopw [5, 6] (fun s5 s6 wr => ∃ (k : Nat) (a1 : Option Addr) (m c1 : Nat), k ≤ N ∧ s6 = .int .i64 (k : Int) ∧ s5 = .slice a1 m c1 ∧ m ≤ 0 + k ∧ LQ w wr 198 3 a1 m c1) (fun _ s6 _ => N - (intOf s6).toNat)
 case atStart => exact ⟨0, _, _, _, Nat.zero_le _, rfl, rfl, by omega, L0⟩
 case round =>
  clear L0
  obtain ⟨k, a1, m, c1, hk, rfl, rfl, hm, hQ⟩ := hrel
  by_cases hlt : k < N
  · have hkN : (k : Int) < (N : Int) := by omega
    obtain ⟨b1, o1, e1, _, hc1⟩ := (h.below hQ.bel) (by omega)
    have r0 : wr.cell? ⟨b1, o1 + k * 2, none⟩ = some (.int .i64 (Q (k * 2))) := by have z := hc1 (k * 2) (by omega); simpa [Nat.add_assoc] using z
    have r1 : wr.cell? ⟨b1, o1 + k * 2 + 1, none⟩ = some (.int .i64 (Q (k * 2 + 1))) := by have z := hc1 (k * 2 + 1) (by omega); simpa [Nat.add_assoc] using z
    clear hc1
    subst e1
    go_upto_region 5 with fail
    go_cut [21] (fun s wc => ∃ b : Bool, s = .bool b ∧ LQ w wc 198 3 a1 m c1)
    case first =>
     go_wp2_with (go_at_call 150; refine (l4In_w a' M c' Q' (Q (k * 2)) (Q (k * 2 + 1)) _ (h'.below hQ.bel) (by omega)).mono ?_; rintro e w5 ⟨b, rfl, hb5⟩)
     go_meet
     exact ⟨_, rfl, hQ.on hb5⟩
    case rest =>
    clear hQ r0 r1
    obtain ⟨b, rfl, hQ⟩ := hcut
    cases b with
    | false =>
     go_wp2_with fail
     go_roundw
     case rel => exact ⟨k + 1, _, _, _, by omega, by go_num, rfl, by omega, hQ⟩
     case measure => simp [intOf]; omega
    | true =>
     obtain ⟨b1', o1', e1', _, hc1⟩ := (h.below hQ.bel) (by omega)
     cases e1'
     have r0 : wc.cell? ⟨b1, o1 + k * 2, none⟩ = some (.int .i64 (Q (k * 2))) := by have z := hc1 (k * 2) (by omega); simpa [Nat.add_assoc] using z
     have r1 : wc.cell? ⟨b1, o1 + k * 2 + 1, none⟩ = some (.int .i64 (Q (k * 2 + 1))) := by have z := hc1 (k * 2 + 1) (by omega); simpa [Nat.add_assoc] using z
     clear hc1
     have hE : Below wc.heap.size wc (wc.alloc (Obj.cells #[.bool false, .int .i64 (Q (k * 2)), .int .i64 (Q (k * 2 + 1))] 198)) := (Below.refl _ _).alloc (Nat.le_refl _) _
     have hQE := hQ.on hE
     have hu : ∀ j u, ([.bool false, .int .i64 (Q (k * 2)), .int .i64 (Q (k * 2 + 1))] : List Value)[j]? = some u → (wc.alloc (Obj.cells #[.bool false, .int .i64 (Q (k * 2)), .int .i64 (Q (k * 2 + 1))] 198)).cell? ⟨wc.heap.size, j, none⟩ = some u := fun j u hj => by
      rcases (show j = 0 ∨ j = 1 ∨ j = 2 ∨ 3 ≤ j by omega) with rfl | rfl | rfl | h3
      · simp at hj; subst hj; go_simp
      · simp at hj; subst hj; go_simp
      · simp at hj; subst hj; go_simp
      · rw [List.getElem?_eq_none (by simp; omega)] at hj; cases hj
     go_wp2_with (refine wpList_pushK rfl _ _ _ rfl 198 3 24 zcEv Tryz.underlying144 infoEv rfl (by decide) (by decide) a1 m c1 rfl hQE wc.heap.size rfl [.bool false, .int .i64 (Q (k * 2)), .int .i64 (Q (k * 2 + 1))] rfl hu (fun u hu => by simp at hu; rcases hu with rfl | rfl | rfl <;> rfl) (by omega) ?_; intro g7 c7 w7 hp7)
     go_roundw
     case rel => exact ⟨k + 1, _, _, _, by omega, by go_num, rfl, by omega, hp7⟩
     case measure => simp [intOf]; omega
  · obtain rfl : N = k := by omega
    go_upto_region 8 with fail
    go_loopw [5, 7] (fun s5 s6 wr => ∃ (k : Nat) (a1 : Option Addr) (m c1 : Nat), k ≤ M ∧ s6 = .int .i64 (k : Int) ∧ s5 = .slice a1 m c1 ∧ m ≤ N + k ∧ LQ w wr 198 3 a1 m c1) (fun _ s6 _ => M - (intOf s6).toNat)
    case atStart => exact ⟨0, _, _, _, Nat.zero_le _, rfl, rfl, by omega, hQ⟩
    case round =>
     clear hQ hm
     obtain ⟨k, a1, m, c1, hk, rfl, rfl, hm, hQ⟩ := hrel
     by_cases hlt : k < M
     · have hkN : (k : Int) < (M : Int) := by omega
       obtain ⟨b1, o1, e1, _, hc1⟩ := (h'.below hQ.bel) (by omega)
       have r0 : wr.cell? ⟨b1, o1 + k * 2, none⟩ = some (.int .i64 (Q' (k * 2))) := by have z := hc1 (k * 2) (by omega); simpa [Nat.add_assoc] using z
       have r1 : wr.cell? ⟨b1, o1 + k * 2 + 1, none⟩ = some (.int .i64 (Q' (k * 2 + 1))) := by have z := hc1 (k * 2 + 1) (by omega); simpa [Nat.add_assoc] using z
       clear hc1
       subst e1
       go_upto_region 10 with fail
       go_cut [42] (fun s wc => ∃ b : Bool, s = .bool b ∧ LQ w wc 198 3 a1 m c1)
       case first =>
        go_wp2_with (go_at_call 150; refine (l4In_w a N c Q (Q' (k * 2)) (Q' (k * 2 + 1)) _ (h.below hQ.bel) (by omega)).mono ?_; rintro e w5 ⟨b, rfl, hb5⟩)
        go_meet
        exact ⟨_, rfl, hQ.on hb5⟩
       case rest =>
       clear hQ r0 r1
       obtain ⟨b, rfl, hQ⟩ := hcut
       cases b with
       | false =>
        go_wp2_with fail
        go_roundw
        case rel => exact ⟨k + 1, _, _, _, by omega, by go_num, rfl, by omega, hQ⟩
        case measure => simp [intOf]; omega
       | true =>
        obtain ⟨b1', o1', e1', _, hc1⟩ := (h'.below hQ.bel) (by omega)
        cases e1'
        have r0 : wc.cell? ⟨b1, o1 + k * 2, none⟩ = some (.int .i64 (Q' (k * 2))) := by have z := hc1 (k * 2) (by omega); simpa [Nat.add_assoc] using z
        have r1 : wc.cell? ⟨b1, o1 + k * 2 + 1, none⟩ = some (.int .i64 (Q' (k * 2 + 1))) := by have z := hc1 (k * 2 + 1) (by omega); simpa [Nat.add_assoc] using z
        clear hc1
        have hE : Below wc.heap.size wc (wc.alloc (Obj.cells #[.bool true, .int .i64 (Q' (k * 2)), .int .i64 (Q' (k * 2 + 1))] 198)) := (Below.refl _ _).alloc (Nat.le_refl _) _
        have hQE := hQ.on hE
        have hu : ∀ j u, ([.bool true, .int .i64 (Q' (k * 2)), .int .i64 (Q' (k * 2 + 1))] : List Value)[j]? = some u → (wc.alloc (Obj.cells #[.bool true, .int .i64 (Q' (k * 2)), .int .i64 (Q' (k * 2 + 1))] 198)).cell? ⟨wc.heap.size, j, none⟩ = some u := fun j u hj => by
         rcases (show j = 0 ∨ j = 1 ∨ j = 2 ∨ 3 ≤ j by omega) with rfl | rfl | rfl | h3
         · simp at hj; subst hj; go_simp
         · simp at hj; subst hj; go_simp
         · simp at hj; subst hj; go_simp
         · rw [List.getElem?_eq_none (by simp; omega)] at hj; cases hj
        go_wp2_with (refine wpList_pushK rfl _ _ _ rfl 198 3 24 zcEv Tryz.underlying144 infoEv rfl (by decide) (by decide) a1 m c1 rfl hQE wc.heap.size rfl [.bool true, .int .i64 (Q' (k * 2)), .int .i64 (Q' (k * 2 + 1))] rfl hu (fun u hu => by simp at hu; rcases hu with rfl | rfl | rfl <;> rfl) (by omega) ?_; intro g7 c7 w7 hp7)
        go_roundw
        case rel => exact ⟨k + 1, _, _, _, by omega, by go_num, rfl, by omega, hp7⟩
        case measure => simp [intOf]; omega
     · obtain rfl : M = k := by omega
       go_wp2_with fail
       go_ret
       exact ⟨_, _, _, rfl, by omega, hQ.bel⟩
theorem OutL.up {w0 w wr : World} {t k n c : Nat} {a : Option Addr} {R : Nat → Int} (h : OutL w wr t k a n c R) (hb : Below w0.heap.size w0 w) : OutL w0 wr t k a n c R := ⟨hb.trans (h.bel.mono hb.size), h.own.base hb.size⟩
theorem l8Aparts_any : ApartDoes := fun base g n c U A B X Y D w h1 h2 h3 h4 h5 h6 h7 h8 => l8Apart_any base g n c U A B X Y D w h1 h2 h3 h4 h5 h6 h7 h8
def ctC (n : Nat) (U : Nat → Int) : Nat → Int := ofL (conL (colOf U) n)
def ctM (n : Nat) (U : Nat → Int) : Nat := (conL (colOf U) n).length / 5
def gpG (n : Nat) (U : Nat → Int) : Nat → Int := ofL (grpL U (ctC n U) (ctM n U) n)
def awA (n : Nat) (U : Nat → Int) : Nat → Bool := fun j => (awL U (gpG n U) n).getD j false
def awN (n : Nat) (U : Nat → Int) : Nat := (awL U (gpG n U) n).length
def wokeU (n : Nat) (U : Nat → Int) : Nat → Int := mapR (fun i V => wakeV (awK (gpG n U) (awA n U) i) V) U n
def lvC (n : Nat) (U : Nat → Int) : Nat → Int := ofL (liveL (wokeU n U) (ctC n U) (ctM n U))
def lvM (n : Nat) (U : Nat → Int) : Nat := (liveL (wokeU n U) (ctC n U) (ctM n U)).length / 5
def pushU (n : Nat) (U : Nat → Int) (g : Int) : Nat → Int := allN (lvC n U) (mapR (fun _ V => pullV g V) (wokeU n U) n) (lvM n U) 4
def goneU (n : Nat) (U : Nat → Int) (g : Int) : Nat → Int := apartN (lvC n U) (mapR (fun _ V => goV V) (pushU n U g) n) (lvM n U)
def stepU (n : Nat) (U : Nat → Int) (g : Int) : Nat → Int := sleepN (gpG n U) (awA n U) n (mapR (fun i V => quietV (wokeU n U (i * 12 + 11)) V) (goneU n U g) n) (awN n U)
theorem gp_val (n : Nat) (U : Nat → Int) : ∀ i, i < n → gpG n U i = valN U (ofL (grpR U (ctC n U) (ctM n U) (rng n) n)) i := fun i hi => ofL_num U _ n i hi
theorem ct_ok (n : Nat) (U : Nat → Int) : CtOk n (ctM n U) (ctC n U) ∧ (conL (colOf U) n).length = ctM n U * 5 := by
 obtain ⟨m, e, _⟩ := conOut_ok (colOf U) n (n := n)
 have e' : (conL (colOf U) n).length = m * 5 := e
 have hm : ctM n U = m := by unfold ctM; omega
 rw [hm]
 exact ⟨con_ct _ e', e'⟩
theorem lv_ok (n : Nat) (U : Nat → Int) : CtOk n (lvM n U) (lvC n U) ∧ (liveL (wokeU n U) (ctC n U) (ctM n U)).length = lvM n U * 5 := by
 have h := live_ok (U := wokeU n U) (con_P (colOf U) (ct_ok n U).2) (ctM n U) (Nat.le_refl _)
 obtain ⟨m, e, _⟩ := id h
 have hm : lvM n U = m := by unfold lvM ctC; omega
 rw [hm]
 exact ⟨h.ct e, e⟩
theorem go8 (V : Nat → Int) : goV V 8 = V 8 := by unfold goV; cases liveV V <;> rfl
theorem quiet8 (z : Int) (V : Nat → Int) : quietV z V 8 = V 8 := by unfold quietV; cases (decide (V 8 = 0) || decide (8 ≤ V 11)) <;> rfl
theorem pull8 (z : Int) (V : Nat → Int) : pullV z V 8 = V 8 := by unfold pullV; cases liveV V <;> rfl
theorem wake8 (b : Bool) (V : Nat → Int) : wakeV b V 8 = V 8 := by unfold wakeV; first | (cases b <;> cases decide (8 ≤ V 11) <;> rfl) | (split <;> rfl)
theorem Bods.steps {n : Nat} {U : Nat → Int} (h : Bods n U) (g : Int) :
 Bods n (wokeU n U) ∧ Bods n (mapR (fun _ V => pullV g V) (wokeU n U) n) ∧ Bods n (pushU n U g) ∧ Bods n (mapR (fun _ V => goV V) (pushU n U g) n) ∧ Bods n (goneU n U g) ∧ Bods n (mapR (fun i V => quietV (wokeU n U (i * 12 + 11)) V) (goneU n U g) n) ∧ Bods n (stepU n U g) ∧ ∀ k, k < n → stepU n U g (k * 12 + 8) = U (k * 12 + 8) := by
 have h1 : Bods n (wokeU n U) := h.wake
 have h2 := h1.pull g
 have h3 : Bods n (pushU n U g) ∧ ∀ i, pushU n U g (i * 12 + 8) = mapR (fun _ V => pullV g V) (wokeU n U) n (i * 12 + 8) := h2.all (lv_ok n U).1 4
 have h4 := h3.1.go
 have h5 : Bods n (goneU n U g) ∧ ∀ i, goneU n U g (i * 12 + 8) = mapR (fun _ V => goV V) (pushU n U g) n (i * 12 + 8) := h4.aparts (lv_ok n U).1 (lvM n U) (Nat.le_refl _)
 have h6 : Bods n (mapR (fun i V => quietV (wokeU n U (i * 12 + 11)) V) (goneU n U g) n) := h5.1.quiet h1
 have m6 : ∀ k, k < n → mapR (fun i V => quietV (wokeU n U (i * 12 + 11)) V) (goneU n U g) n (k * 12 + 8) = U (k * 12 + 8) := fun k hk => by
  rw [mapR_in hk (by omega), quiet8]
  show goneU n U g (k * 12 + 8) = _
  rw [h5.2 k, mapR_in hk (by omega), go8]
  show pushU n U g (k * 12 + 8) = _
  rw [h3.2 k, mapR_in hk (by omega), pull8]
  show wokeU n U (k * 12 + 8) = _
  unfold wokeU
  rw [mapR_in hk (by omega), wake8]
 have h7 := h6.sleep (G := gpG n U) (A := awA n U) (fun k hk hg => by rw [m6 k hk]; exact (grp_bd U _ (gpG n U) n (gp_val n U) k hk).2.2 hg) (awN n U)
 exact ⟨h1, h2, h3.1, h4, h5.1, h6, h7.1, fun k hk => (h7.2 k hk).trans (m6 k hk)⟩
theorem l9Step_any (a : Option Addr) (n c : Nat) (U : Nat → Int) (g : Int) (w : World) (h : Flat w a (n * 12) U) (hbb : Bods n U) (hg : 0 ≤ g ∧ g ≤ 2560) :
 Calls Tryz.prog 110 #[.slice a n c, .int .i64 g] w fun e w' => ∃ a1 c1, e = .returned (.slice a1 n c1) ∧ OutL w w' 41 12 a1 n c1 (stepU n U g) := by
 have hset := cset_map
 have hn12 := hbb.le
 obtain ⟨B1, B2, B3, B4, B5, B6, B7, _⟩ := hbb.steps g
 obtain ⟨K1, L1⟩ := ct_ok n U
 obtain ⟨K2, L2⟩ := lv_ok n U
 have hG := grp_bd U _ (gpG n U) n (gp_val n U)
 have hm1 : ctM n U ≤ 1048576 := by
  obtain ⟨m, e, hm⟩ := conOut_len (colOf U) n n
  have e' : (conL (colOf U) n).length = m * 5 := e
  have := Nat.mul_le_mul hn12 hn12
  omega
 have hm2 : lvM n U ≤ 1048576 := by have := liveL_len (wokeU n U) (ctC n U) (ctM n U); omega
 have hq2 : ∀ k, k < n → 0 ≤ wokeU n U (k * 12 + 11) ∧ wokeU n U (k * 12 + 11) ≤ 8 := fun k hk => (bodyB_bd (B1.ok k hk)).2.1
 have hna : awN n U ≤ 1048576 := by have := awL_len U (gpG n U) n; unfold awN; omega
 go_enter Tryz.func110, Tryz.ntmps110
 go_upto_region 2 with (go_at_call 139; refine (l7Contacts_any a n c U _ h hbb.to hn12).mono ?_; rintro e w1 ⟨a1, m1, c1, rfl, hm, hO1⟩)
 obtain rfl : m1 = ctM n U := by omega
 have hO1 : OutL w w1 195 5 a1 (ctM n U) c1 (ctC n U) := hO1
 have h1 := h.below hO1.bel
 have f1 := hO1.own.flat
 go_upto_region 3 with (go_at_call 140; refine (l7Groups_any a n c U a1 (ctM n U) c1 (ctC n U) _ h1 (by omega) hm1 f1 K1).mono ?_; rintro e w2 ⟨g2, c2, rfl, hO2⟩)
 have h2 := h1.below hO2.bel
 have f12 := f1.below hO2.bel
 have f2 : Flat w2 (some ⟨g2, 0, none⟩) (n * 1) (gpG n U) := hO2.flat
 go_upto_region 4 with (go_at_call 141; refine (l7Awake_any a n c U (some ⟨g2, 0, none⟩) c2 (gpG n U) _ h2 (by omega) f2 (fun i hi => (hG i hi).1)).mono ?_; rintro e w3 ⟨g3, c3, na, rfl, hna3, hO3⟩)
 obtain rfl : na = awN n U := hna3
 have h3 := h2.below hO3.bel
 have f13 := f12.below hO3.bel
 have f23 := f2.below hO3.bel
 have f3 : FlatB w3 (some ⟨g3, 0, none⟩) (awN n U) (awA n U) := hO3.flatB
 go_upto_region 5 with (go_at_call 142; refine (l9Wake_any a n c U (some ⟨g2, 0, none⟩) c2 (gpG n U) (some ⟨g3, 0, none⟩) (awN n U) c3 (awA n U) _ h3 (by omega) f23 f3 (fun i hi => (hG i hi).2.1)).mono ?_; rintro e w4 ⟨a4, c4, rfl, hO4⟩)
 have hO4 : OutL w3 w4 41 12 a4 n c4 (wokeU n U) := hO4
 have f14 := f13.below hO4.bel
 have f24 := f23.below hO4.bel
 have f34 := f3.below hO4.bel (B := 0)
 have f4 := hO4.own.flat
 go_upto_region 6 with (go_at_call 143; refine (l9Live_any a4 n c4 (wokeU n U) a1 (ctM n U) c1 (ctC n U) _ f4 (by omega) hm1 f14 (fun k hk => ⟨K1.a k hk, K1.b k hk⟩)).mono ?_; rintro e w5 ⟨a5, m5, c5, rfl, hm5, hO5⟩)
 obtain rfl : m5 = lvM n U := by omega
 have hO5 : OutL w4 w5 195 5 a5 (lvM n U) c5 (lvC n U) := hO5
 have f25 := f24.below hO5.bel
 have f35 := f34.below hO5.bel (B := 0)
 have f45 := f4.below hO5.bel
 have f5 := hO5.own.flat
 go_upto_region 7 with (first
  | (go_at_call 145; refine (l9Pull_any a4 n c4 (wokeU n U) g _ f45 (by omega) hg B1).mono ?_; rintro e w6 ⟨a6, c6, rfl, hO6⟩)
  | (go_at_call 144; refine (l8All_any a6 n c6 _ a5 (lvM n U) c5 (lvC n U) _ hO6.own.flat (by omega) hm2 (f5.below hO6.bel) B2 K2).mono ?_; rintro e w7 ⟨a7, c7, rfl, hO7⟩))
 have hO7 : OutL w6 w7 41 12 a7 n c7 (pushU n U g) := hO7
 have f27 := (f25.below hO6.bel).below hO7.bel
 have f37 := (f35.below hO6.bel (B := 0)).below hO7.bel (B := 0)
 have f47 := (f45.below hO6.bel).below hO7.bel
 have f57 := (f5.below hO6.bel).below hO7.bel
 have f7 := hO7.own.flat
 go_upto_region 8 with (first
  | (go_at_call 147; refine (l9Moves_any a7 n c7 (pushU n U g) _ f7 (by omega) B3).mono ?_; rintro e w8 ⟨a8, c8, rfl, hO8⟩)
  | (go_at_call 146; refine (l8Aparts_of l8Aparts_any a8 n c8 _ a5 (lvM n U) c5 (lvC n U) _ hO8.own.flat (by omega) hm2 (f57.below hO8.bel) B4 K2).mono ?_; rintro e w9 ⟨a9, c9, rfl, hO9⟩))
 have hO9 : OutL w8 w9 41 12 a9 n c9 (goneU n U g) := hO9
 have f29 := (f27.below hO8.bel).below hO9.bel
 have f39 := (f37.below hO8.bel (B := 0)).below hO9.bel (B := 0)
 have f49 := (f47.below hO8.bel).below hO9.bel
 have f9 := hO9.own.flat
 go_wp2_with (first
  | (go_at_call 149; refine (l9Quiet_any a9 n c9 (goneU n U g) a4 c4 (wokeU n U) _ f9 (by omega) B5 f49 hq2).mono ?_; rintro e w10 ⟨a10, c10, rfl, hO10⟩)
  | (go_at_call 148; refine (l9Sleep_any a10 n c10 _ (some ⟨g2, 0, none⟩) c2 (gpG n U) (some ⟨g3, 0, none⟩) (awN n U) c3 (awA n U) _ hO10.own.flat (by omega) hna (f29.below hO10.bel) (f39.below hO10.bel (B := 0))).mono ?_; rintro e w11 ⟨a11, c11, rfl, hO11⟩))
 go_ret
 have b2 := hO1.bel.trans (hO2.bel.mono hO1.bel.size)
 have b3 := b2.trans (hO3.bel.mono b2.size)
 have b4 := b3.trans (hO4.bel.mono b3.size)
 have b5 := b4.trans (hO5.bel.mono b4.size)
 have b6 := b5.trans (hO6.bel.mono b5.size)
 have b7 := b6.trans (hO7.bel.mono b6.size)
 have b8 := b7.trans (hO8.bel.mono b7.size)
 have b9 := b8.trans (hO9.bel.mono b8.size)
 have b10 := b9.trans (hO10.bel.mono b9.size)
 exact ⟨_, _, rfl, hO11.up b10⟩
end Go.Proofs.YthijeiehcdoidaaGreat
