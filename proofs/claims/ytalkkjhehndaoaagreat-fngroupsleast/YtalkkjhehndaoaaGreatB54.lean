/- Texts of a proof. -/
import Derived.Test.YtalkkjhehndaoaaGreatB53
import Derived.Test.YtalkkjhehndaoaaGreatB36
import Derived.Deep.RegionHeld3
import Derived.Deep.DeepCutAuto
import Derived.Test.YtalkkjhehndaoaaGreatCon
import Derived.Test.YtalkkjhehndaoaaGreatB34
import Derived.Test.YtalkkjhehndaoaaGreatS7a
set_option maxHeartbeats 16000000
set_option maxRecDepth 20000
namespace Go.Proofs.YtalkkjhehndaoaaGreat
open Go.RowKit
set_option linter.unusedVariables false
set_option linter.unusedSimpArgs false
theorem pqInts_same (a a' : Option Addr) (N c c' : Nat) (R : Nat → Int) (w : World) (h : Flat w a (N * 1) R) (h' : Flat w a' (N * 1) R) (hN : N ≤ 1000) :
 Calls Tryz.prog 8 #[.slice a N c, .slice a' N c'] w fun e w' => e = .returned (.bool true) ∧ Below w.heap.size w w' := by
 have hset := cset_map
 have e0 : ((N : Int) != (N : Int)) = false := by simp
 go_enter Tryz.func8, Tryz.ntmps8
 go_upto_region 4 with fail
 go_loopw [5] (fun s wr => ∃ k : Nat, k ≤ N ∧ s = .int .i64 (k : Int) ∧ Below w.heap.size w wr) (fun s _ => N - (intOf s).toNat)
 case atStart => exact ⟨0, Nat.zero_le _, rfl, Below.refl _ _⟩
 case round =>
  obtain ⟨k, hk, rfl, hw⟩ := hrel
  by_cases hlt : k < N
  · have hkN : (k : Int) < (N : Int) := by omega
    obtain ⟨b1, o1, e1, _, hc1⟩ := (h.below hw) (by omega)
    obtain ⟨b2, o2, e2, _, hc2⟩ := (h'.below hw) (by omega)
    have r0 := hc1 k (by omega)
    have s0 := hc2 k (by omega)
    clear hc1 hc2
    subst e1 e2
    have hev : (R k != R k) = false := by simp
    go_upto_region 6 with fail
    refine wp_region_held_drew (S := fun w' => w'.cell? ⟨b1, o1 + k, none⟩ = some (.int .i64 (R k)) ∧ w'.cell? ⟨b2, o2 + k, none⟩ = some (.int .i64 (R k))) (by kernel_rfl) ?_ (fun hHeld => ?_)
    · (try dsimp only)
      (first | (go_simp; done) | (go_keep; done))
    refine tq 0 hHeld ?_
    refine tq 1 hHeld ?_
    refine tq 2 hHeld ?_
    refine tq 3 hHeld ?_
    refine tq 4 hHeld ?_
    refine tq 5 hHeld ?_
    refine tq 6 hHeld ?_
    refine tq 7 hHeld ?_
    refine tq 8 hHeld ?_
    refine wpAnyH_done (by kernel_rfl) ?_ _
    go_wp2_with fail
    go_roundw
    case rel => exact ⟨k + 1, by omega, by go_num, hw.drew⟩
    case measure => simp [intOf]; omega
  · obtain rfl : k = N := by omega
    go_wp2_with fail
    go_ret
    exact ⟨rfl, hw⟩
structure Lg (w wz : World) (al : Option Addr) (n : Nat) (U : Nat → Int) (ag : Option Addr) (N : Nat) (G : Nat → Int) : Prop where
 fl : Flat wz al (n * 12) U
 fg : Flat wz ag (N * 1) G
 bel : Below w.heap.size w wz
theorem Lg.on {w wz w' : World} {al ag : Option Addr} {n N : Nat} {U G : Nat → Int} (h : Lg w wz al n U ag N G) (hb : Below wz.heap.size wz w') : Lg w w' al n U ag N G := ⟨h.fl.below hb, h.fg.below hb, h.bel.trans (hb.mono h.bel.size)⟩
theorem Lg.dr {w wz : World} {al ag : Option Addr} {n N : Nat} {U G : Nat → Int} (h : Lg w wz al n U ag N G) : Lg w wz.drew al n U ag N G := h.on (Below.drew (Below.refl _ _))
def conR (n : Nat) (U : Nat → Int) : List Int := bif bodsB n U then conL (colOf U) n else []
theorem OutL.nil {w : World} {t k : Nat} {R : Nat → Int} : OutL w w t k none 0 0 R := ⟨Below.refl _ _, OwnL.nil _ _ _ _ _⟩
theorem contactsI_q (a : Option Addr) (n c : Nat) (U : Nat → Int) (N : Nat) (w : World) (h : Flat w a (n * 12) U) (hn : n ≤ 1048576) (hN : (conR n U).length = N * 5) :
 Calls Tryz.prog 11 #[.slice a n c] w fun e w' => ∃ a' c', e = .returned (.slice a' N c') ∧ OutL w w' 40 5 a' N c' (ofL (conR n U)) := by
 have hset := cset_map
 cases hok : bodsB n U with
 | true =>
  have e0 : conR n U = conL (colOf U) n := by unfold conR; rw [hok]; rfl
  rw [e0] at hN ⊢
  clear e0
  have h12 : n ≤ 12 := by unfold bodsB at hok; rw [Bool.and_eq_true, decide_eq_true_eq] at hok; exact hok.1
  go_enter Tryz.func11, Tryz.ntmps11
  go_wp2_with (first
   | (go_at_call 18; refine (columnsOf_ok a n c U _ h hn hok).mono ?_; rintro e w1 ⟨cb, S, rfl, hcb, hC, hb1⟩)
   | (go_at_call 23; refine (contacts_any cb n (colOf U) S _ hC h12).mono ?_; rintro e w2 ⟨a2, m2, c2, rfl, hl2, hO2⟩))
  go_ret
  obtain rfl : m2 = N := by omega
  exact ⟨a2, c2, rfl, hb1.trans (hO2.bel.mono hb1.size), hO2.own.base hb1.size⟩
 | false =>
  have e0 : conR n U = [] := by unfold conR; rw [hok]; rfl
  rw [e0] at hN ⊢
  clear e0
  rw [List.length_nil] at hN
  obtain rfl : N = 0 := by omega
  clear hN
  go_enter Tryz.func11, Tryz.ntmps11
  go_wp2_with (go_at_call 18; refine (columnsOf_no a n c U _ h hn hok).mono ?_; rintro e w1 ⟨rfl, hb1⟩)
  go_ret
  exact ⟨none, 0, rfl, hb1, OwnL.nil _ _ _ _ _⟩
theorem drawGroups_any (a : Option Addr) (len cap : Nat) (w : World) (hb : Bytes w a len cap) :
 Calls Tryz.prog 6 #[.slice a len cap] w fun e w' => ∃ (al : Option Addr) (n c : Nat) (U : Nat → Int), e = .returned (.slice al n c) ∧ LN n U ∧ OutL w w' 34 12 al n c U := by
 have hset := cset_map
 go_enter Tryz.func6, Tryz.ntmps6
 go_wp2_with (first
  | (have _ := hr1; go_at_call 16; refine (l11AnyBodies_k w.heap.size 0 _ (by exact RS.of hr1) (by omega)).mono ?_; rintro e w2 ⟨al, n, c, U, rfl, hL, hD⟩)
  | (go_at_call 17; refine (l1Open_rb _ _ _ _ hb).mono ?_; rintro e w1 ⟨rfl, hr1, hbel⟩))
 go_ret
 first | exact ⟨_, _, _, _, rfl, hL, RB.done hbel hD.bl.done, hD.own.base hbel.size⟩ | exact ⟨_, _, _, rfl, _, hL, RB.done hbel hD.bl.done, hD.own.base hbel.size⟩
def cst (C : Nat → Bool) : Option (Nat × Nat) → Nat → Bool
 | none => C
 | some (A, B) => fun j => if (C A || C B) = true ∧ (j = A ∨ j = B) then true else C j
def crd (E : Nat → Option (Nat × Nat)) (C : Nat → Bool) : Nat → Nat → Bool
 | 0 => C
 | k + 1 => cst (crd E C k) (E k)
def crds (E : Nat → Option (Nat × Nat)) (M : Nat) (C : Nat → Bool) : Nat → Nat → Bool
 | 0 => C
 | r + 1 => crd E (crds E M C r) M
theorem cst_mono {C : Nat → Bool} {e : Option (Nat × Nat)} {j : Nat} (h : C j = true) : cst C e j = true := by
 cases e with
 | none => exact h
 | some p =>
  show (if (C p.1 || C p.2) = true ∧ (j = p.1 ∨ j = p.2) then true else C j) = true
  split
  · rfl
  · exact h
theorem crd_up {E : Nat → Option (Nat × Nat)} {C : Nat → Bool} {k j : Nat} (h : crd E C k j = true) : ∀ m, k ≤ m → crd E C m j = true
 | 0, hm => by
  obtain rfl : k = 0 := by omega
  exact h
 | m + 1, hm => by
  by_cases e : k = m + 1
  · subst e; exact h
  · exact cst_mono (crd_up h m (by omega))
def Clo (E : Nat → Option (Nat × Nat)) (M : Nat) (C : Nat → Bool) : Prop := ∀ k A B, k < M → E k = some (A, B) → C A = C B
theorem crd_clo {E : Nat → Option (Nat × Nat)} {M : Nat} {C : Nat → Bool} (h : Clo E M C) : ∀ k, k ≤ M → ∀ j, crd E C k j = C j
 | 0, _, j => rfl
 | k + 1, hk, j => by
  have ih := crd_clo h k (by omega)
  show cst (crd E C k) (E k) j = C j
  cases e : E k with
  | none => exact ih j
  | some p =>
   obtain ⟨A, B⟩ := p
   have hab := h k A B (by omega) e
   show (if (crd E C k A || crd E C k B) = true ∧ (j = A ∨ j = B) then true else crd E C k j) = C j
   rw [ih A, ih B, ih j]
   split
   · rename_i q
     obtain ⟨q1, q2⟩ := q
     rw [← hab, Bool.or_self] at q1
     rcases q2 with rfl | rfl
     · exact q1.symm
     · rw [← hab]; exact q1.symm
   · rfl
theorem crds_clo (E : Nat → Option (Nat × Nat)) (M n : Nat) (hE : ∀ i A B, i < M → E i = some (A, B) → A < n ∧ B < n) {C : Nat → Bool} {i : Nat} (hi : i < n) (hc : C i = true) : Clo E M (crds E M C n) := by
 have key : ∀ r, Clo E M (crds E M C r) ∨ r < cntp (crds E M C r) n := by
  intro r
  induction r with
  | zero =>
   right
   have := cntp_in (crds E M C 0) hi hc
   omega
  | succ r ih =>
   by_cases hcl : Clo E M (crds E M C r)
   · left
     have e : crds E M C (r + 1) = crds E M C r := funext fun j => crd_clo hcl M (Nat.le_refl _) j
     rw [e]; exact hcl
   · rcases ih with ih | ih
     · exact absurd ih hcl
     · right
       have : ∃ k A B, k < M ∧ E k = some (A, B) ∧ crds E M C r A ≠ crds E M C r B := by
        refine Classical.byContradiction fun q => hcl fun k A B hk e => Classical.byContradiction fun z => q ⟨k, A, B, hk, e, z⟩
       obtain ⟨k, A, B, hk, e, hne⟩ := this
       obtain ⟨hA, hB⟩ := hE k A B hk e
       have up : ∀ j, crds E M C r j = true → crds E M C (r + 1) j = true := fun j h => crd_up (k := 0) h M (Nat.zero_le _)
       have one : ∀ j, (j = A ∨ j = B) → crds E M C (r + 1) j = true := fun j hj => by
        refine crd_up (E := E) (k := k + 1) ?_ M (by omega)
        show cst (crd E (crds E M C r) k) (E k) j = true
        rw [e]
        show (if (crd E (crds E M C r) k A || crd E (crds E M C r) k B) = true ∧ (j = A ∨ j = B) then true else _) = true
        rw [if_pos]
        refine ⟨?_, hj⟩
        cases hA1 : crds E M C r A with
        | true => rw [crd_up (E := E) (k := 0) hA1 k (Nat.zero_le _)]; rfl
        | false =>
         have hB1 : crds E M C r B = true := by
          cases hB1 : crds E M C r B with
          | true => rfl
          | false => rw [hA1, hB1] at hne; exact absurd rfl hne
         rw [crd_up (E := E) (k := 0) hB1 k (Nat.zero_le _), Bool.or_true]
       have lt : cntp (crds E M C r) n < cntp (crds E M C (r + 1)) n := by
        cases hA1 : crds E M C r A with
        | false => exact cntp_lt n hA (fun v _ h => up v h) hA1 (one A (.inl rfl))
        | true =>
         have hB1 : crds E M C r B = false := by
          cases hB1 : crds E M C r B with
          | false => rfl
          | true => rw [hA1, hB1] at hne; exact absurd rfl hne
         exact cntp_lt n hB (fun v _ h => up v h) hB1 (one B (.inr rfl))
       omega
 rcases key n with h | h
 · exact h
 · have := cntp_le (crds E M C n) n
   omega
theorem crds_up (E : Nat → Option (Nat × Nat)) (M : Nat) {C : Nat → Bool} {j : Nat} (h : C j = true) : ∀ r, crds E M C r j = true
 | 0 => h
 | r + 1 => crd_up (k := 0) (crds_up E M h r) M (Nat.zero_le _)
def anyB (q : Nat → Bool) : Nat → Bool
 | 0 => false
 | i + 1 => anyB q i || q i
def awk (fx : Nat → Bool) (L : Nat → Nat) (sl : Nat → Bool) (n t : Nat) : Bool := anyB (fun j => decide (gnum fx L j = (t : Int)) && !sl j) n
def slG (U : Nat → Int) (j : Nat) : Bool := decide (8 ≤ U (j * 12 + 11))
theorem getD_set (l : List Bool) (q : Nat) (x : Bool) (t : Nat) (hq : q < l.length) : (l.set q x).getD t false = if t = q then x else l.getD t false := by
 rw [List.getD_eq_getElem?_getD, List.getD_eq_getElem?_getD, List.getElem?_set]
 by_cases e : q = t
 · subst e; simp [hq]
 · rw [if_neg e, if_neg (fun q => e q.symm)]
end Go.Proofs.YtalkkjhehndaoaaGreat
