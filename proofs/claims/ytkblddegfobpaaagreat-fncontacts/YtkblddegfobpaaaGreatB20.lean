/- The walk of the law of promise 34. Lemmas on whatever program: from the head of its cut's word to the closed facts. Closed facts of the loaded program, each a theorem of its own. -/
import Derived.Test.YtkblddegfobpaaaGreatB16
import Derived.Test.YtkblddegfobpaaaGreatB19
import Derived.Test.YtkblddegfobpaaaGreatB9
import Derived.Deep.RegionHeld3
import Derived.Deep.DeepCutAuto
import Derived.Test.YtkblddegfobpaaaGreatRows
import Derived.WalkKit
import Derived.JoinedOf
import Derived.ProofKit
namespace Go.Proofs.YtkblddegfobpaaaGreat
open Go.RowKit
set_option linter.unusedVariables false
set_option linter.unusedSimpArgs false
set_option maxRecDepth 20000 in
set_option maxHeartbeats 8000000 in
theorem drawContacts_any (a : Option Addr) (len cap : Nat) (w : World) (hb : Bytes w a len cap) :
    Calls Tryz.prog 4 #[.slice a len cap] w fun e w' => ∃ (al : Option Addr) (n c : Nat) (U : Nat → Int), e = .returned (.slice al n c) ∧ LN n U ∧ OutL w w' 38 12 al n c U := by
  have hset := cset_map
  go_enter Tryz.func4, Tryz.ntmps4
  go_wp2_with (first
    | (have _ := hr1; go_at_call 10; refine (l11AnyBodies_k w.heap.size 0 _ (by exact RS.of hr1) (by omega)).mono ?_; rintro e w2 ⟨al, n, c, U, rfl, hL, hD⟩)
    | (go_at_call 11; refine (l1Open_rb _ _ _ _ hb).mono ?_; rintro e w1 ⟨rfl, hr1, hbel⟩))
  go_ret
  first | exact ⟨_, _, _, _, rfl, hL, RB.done hbel hD.bl.done, hD.own.base hbel.size⟩ | exact ⟨_, _, _, rfl, _, hL, RB.done hbel hD.bl.done, hD.own.base hbel.size⟩
theorem pre_out (C : Nat → Nat → Int) (n j : Nat) : ∀ m, j ≤ m → ∃ r, conOut C n m = conOut C n j ++ r
  | 0, h => by obtain rfl : j = 0 := by omega
               exact ⟨[], by simp⟩
  | m + 1, h => by
    by_cases e : j = m + 1
    · subst e; exact ⟨[], by simp⟩
    · obtain ⟨r, hr⟩ := pre_out C n j m (by omega)
      exact ⟨r ++ conIn C m n, by rw [conOut, hr, List.append_assoc]⟩
theorem pre_in (C : Nat → Nat → Int) (i j : Nat) : ∀ m, j ≤ m → ∃ r, conIn C i m = conIn C i j ++ r
  | 0, h => by obtain rfl : j = 0 := by omega
               exact ⟨[], by simp⟩
  | m + 1, h => by
    by_cases e : j = m + 1
    · subst e; exact ⟨[], by simp⟩
    · obtain ⟨r, hr⟩ := pre_in C i j m (by omega)
      exact ⟨r ++ conOne C i m, by rw [conIn, hr, List.append_assoc]⟩
theorem con_at (C : Nat → Nat → Int) {n i k : Nat} (hi : i < n) (hk : k < n) : ∃ r, conL C n = (conOut C n i ++ conIn C i k) ++ (conOne C i k ++ r) := by
  obtain ⟨r1, h1⟩ := pre_out C n (i + 1) n (by omega)
  obtain ⟨r2, h2⟩ := pre_in C i (k + 1) n (by omega)
  refine ⟨r2 ++ r1, ?_⟩
  unfold conL
  rw [h1, conOut, h2, conIn]
  simp only [List.append_assoc]
theorem con_in0 (C : Nat → Nat → Int) (i : Nat) : ∀ k, k ≤ i + 1 → conIn C i k = []
  | 0, _ => rfl
  | k + 1, h => by
    rw [conIn, con_in0 C i k (by omega)]
    unfold conOne conB
    rw [decide_eq_false (by omega : ¬ i < k)]
    simp
theorem Flat.dr {w : World} {a : Option Addr} {m : Nat} {U : Nat → Int} (h : Flat w a m U) : Flat w.drew a m U := h
set_option maxRecDepth 20000 in
set_option maxHeartbeats 8000000 in
theorem pqContacts_same (a a' : Option Addr) (N c c' : Nat) (R : Nat → Int) (w : World) (h : Flat w a (N * 5) R) (h' : Flat w a' (N * 5) R) (hN : N ≤ 1000) :
    Calls Tryz.prog 6 #[.slice a N c, .slice a' N c'] w fun e w' => e = .returned (.bool true) ∧ Below w.heap.size w w' := by
  have hset := cset_map
  have e0 : ((N : Int) != (N : Int)) = false := by simp
  go_enter Tryz.func6, Tryz.ntmps6
  go_upto_region 4 with fail
  go_loopw [5] (fun s wr => ∃ k : Nat, k ≤ N ∧ s = .int .i64 (k : Int) ∧ Below w.heap.size w wr) (fun s _ => N - (intOf s).toNat)
  case atStart => exact ⟨0, Nat.zero_le _, rfl, Below.refl _ _⟩
  case round =>
    obtain ⟨k, hk, rfl, hw⟩ := hrel
    by_cases hlt : k < N
    · have hkN : (k : Int) < (N : Int) := by omega
      obtain ⟨b1, o1, e1, _, hc1⟩ := (h.below hw) (by omega)
      obtain ⟨b2, o2, e2, _, hc2⟩ := (h'.below hw) (by omega)
      have r0 : wr.cell? ⟨b1, o1 + k * 5, none⟩ = some (.int .i64 (R (k * 5))) := by have q := hc1 (k * 5 + 0) (by omega); simpa [Nat.add_assoc] using q
      have s0 : wr.cell? ⟨b2, o2 + k * 5, none⟩ = some (.int .i64 (R (k * 5))) := by have q := hc2 (k * 5 + 0) (by omega); simpa [Nat.add_assoc] using q
      have r1 : wr.cell? ⟨b1, o1 + k * 5 + 1, none⟩ = some (.int .i64 (R (k * 5 + 1))) := by have q := hc1 (k * 5 + 1) (by omega); simpa [Nat.add_assoc] using q
      have s1 : wr.cell? ⟨b2, o2 + k * 5 + 1, none⟩ = some (.int .i64 (R (k * 5 + 1))) := by have q := hc2 (k * 5 + 1) (by omega); simpa [Nat.add_assoc] using q
      have r2 : wr.cell? ⟨b1, o1 + k * 5 + 2, none⟩ = some (.int .i64 (R (k * 5 + 2))) := by have q := hc1 (k * 5 + 2) (by omega); simpa [Nat.add_assoc] using q
      have s2 : wr.cell? ⟨b2, o2 + k * 5 + 2, none⟩ = some (.int .i64 (R (k * 5 + 2))) := by have q := hc2 (k * 5 + 2) (by omega); simpa [Nat.add_assoc] using q
      have r3 : wr.cell? ⟨b1, o1 + k * 5 + 3, none⟩ = some (.int .i64 (R (k * 5 + 3))) := by have q := hc1 (k * 5 + 3) (by omega); simpa [Nat.add_assoc] using q
      have s3 : wr.cell? ⟨b2, o2 + k * 5 + 3, none⟩ = some (.int .i64 (R (k * 5 + 3))) := by have q := hc2 (k * 5 + 3) (by omega); simpa [Nat.add_assoc] using q
      have r4 : wr.cell? ⟨b1, o1 + k * 5 + 4, none⟩ = some (.int .i64 (R (k * 5 + 4))) := by have q := hc1 (k * 5 + 4) (by omega); simpa [Nat.add_assoc] using q
      have s4 : wr.cell? ⟨b2, o2 + k * 5 + 4, none⟩ = some (.int .i64 (R (k * 5 + 4))) := by have q := hc2 (k * 5 + 4) (by omega); simpa [Nat.add_assoc] using q
      clear hc1 hc2
      subst e1 e2
      have hev := eq_con0 (R (k * 5)) (R (k * 5 + 1)) (R (k * 5 + 2)) (R (k * 5 + 3)) (R (k * 5 + 4))
      go_upto_region 6 with fail
      refine wp_region_held_drew (S := fun w' => w'.cell? ⟨b1, o1 + k * 5, none⟩ = some (.int .i64 (R (k * 5))) ∧ w'.cell? ⟨b1, o1 + k * 5 + 1, none⟩ = some (.int .i64 (R (k * 5 + 1))) ∧ w'.cell? ⟨b1, o1 + k * 5 + 2, none⟩ = some (.int .i64 (R (k * 5 + 2))) ∧ w'.cell? ⟨b1, o1 + k * 5 + 3, none⟩ = some (.int .i64 (R (k * 5 + 3))) ∧ w'.cell? ⟨b1, o1 + k * 5 + 4, none⟩ = some (.int .i64 (R (k * 5 + 4))) ∧ w'.cell? ⟨b2, o2 + k * 5, none⟩ = some (.int .i64 (R (k * 5))) ∧ w'.cell? ⟨b2, o2 + k * 5 + 1, none⟩ = some (.int .i64 (R (k * 5 + 1))) ∧ w'.cell? ⟨b2, o2 + k * 5 + 2, none⟩ = some (.int .i64 (R (k * 5 + 2))) ∧ w'.cell? ⟨b2, o2 + k * 5 + 3, none⟩ = some (.int .i64 (R (k * 5 + 3))) ∧ w'.cell? ⟨b2, o2 + k * 5 + 4, none⟩ = some (.int .i64 (R (k * 5 + 4)))) (by kernel_rfl) ?_ (fun hHeld => ?_)
      · (try dsimp only)
        (first | (go_simp; done) | (go_keep; done))
      refine tq 0 hHeld ?_
      refine tq 1 hHeld ?_
      refine tq 2 hHeld ?_
      refine tq 3 hHeld ?_
      refine tq 4 hHeld ?_
      refine tq 5 hHeld ?_
      refine tq 6 hHeld ?_
      refine tq 7 hHeld ?_
      refine tq 8 hHeld ?_
      refine wpAnyH_done (by kernel_rfl) ?_ _
      go_wp2_with fail
      go_roundw
      case rel => exact ⟨k + 1, by omega, by go_num, hw.drew⟩
      case measure => simp [intOf]; omega
    · obtain rfl : k = N := by omega
      go_wp2_with fail
      go_ret
      exact ⟨rfl, hw⟩
/-- the list that was drawn, and its contacts -/
structure Lc (w wz : World) (al : Option Addr) (n : Nat) (U : Nat → Int) (ac : Option Addr) (N : Nat) (R : Nat → Int) : Prop where
  fl : Flat wz al (n * 12) U
  fc : Flat wz ac (N * 5) R
  bel : Below w.heap.size w wz
theorem Lc.on {w wz w' : World} {al ac : Option Addr} {n N : Nat} {U R : Nat → Int} (h : Lc w wz al n U ac N R) (hb : Below wz.heap.size wz w') : Lc w w' al n U ac N R := ⟨h.fl.below hb, h.fc.below hb, h.bel.trans (hb.mono h.bel.size)⟩
theorem Lc.setN {w wz : World} {al ac : Option Addr} {n N : Nat} {U R : Nat → Int} (h : Lc w wz al n U ac N R) {w' : World} {hb : Nat} (hs : Fr (fun b => b = hb) wz w') (h1 : w.heap.size ≤ hb) (h2 : ∀ b o, al = some ⟨b, o, none⟩ → b ≠ hb) (h3 : 0 < N * 5 → ∀ b o, ac = some ⟨b, o, none⟩ → b ≠ hb) : Lc w w' al n U ac N R := by
  refine ⟨fun h0 => ?_, fun h0 => ?_, h.bel.trans (hs.below h.bel.size (fun k e => by omega))⟩
  · obtain ⟨b, o, e, hl, hc⟩ := h.fl h0
    exact ⟨b, o, e, Nat.lt_of_lt_of_le hl hs.size, fun j hj => (hs.cell (p := ⟨b, o + j, none⟩) hl (h2 b o e)).trans (hc j hj)⟩
  · obtain ⟨b, o, e, hl, hc⟩ := h.fc h0
    exact ⟨b, o, e, Nat.lt_of_lt_of_le hl hs.size, fun j hj => (hs.cell (p := ⟨b, o + j, none⟩) hl (h3 h0 b o e)).trans (hc j hj)⟩
set_option maxRecDepth 20000 in
set_option maxHeartbeats 8000000 in
theorem fnContacts_walk (a : Option Addr) (len cap : Nat) (w : World) (hb : Bytes w a len cap) :
    Calls Tryz.prog 3 #[.slice a len cap] w fun e w' => e = .returned (.bool true) ∧ Below w.heap.size w w' := by
  have hset := cset_map
  go_enter Tryz.func3, Tryz.ntmps3
  go_upto_region 4 with (go_at_call 4; refine (drawContacts_any _ _ _ _ hb).mono ?_; rintro e w1 ⟨al, n, c, U, rfl, hLn, hO⟩)
  · go_wp2_with fail
    go_ret
    exact ⟨rfl, Below.refl _ _⟩
  have hn13 := hLn.1
  have hn1 : n ≤ 1048576 := by omega
  obtain ⟨N, hN, hN144⟩ := conR_len n U
  have f1 := hO.own.flat
  have hw1 := hO.bel
  go_cut [4] (fun s4 wc => ∃ ac cc, s4 = .slice ac N cc ∧ Lc w wc al n U ac N (ofL (conR n U)))
  case first =>
    go_wp2_with (go_at_call 5; refine (contactsI_q al n c U N _ f1 hn1 hN).mono ?_; rintro e w2 ⟨ac, cc, rfl, hO2⟩)
    go_meet
    exact ⟨_, _, rfl, f1.below hO2.bel, hO2.own.flat, hw1.trans (hO2.bel.mono hw1.size)⟩
  case rest =>
  obtain ⟨ac, cc, rfl, hL⟩ := hcut
  clear f1 hw1 hO
  cases eb : bodsB n U with
  | false =>
    go_wp2_with (first
      | (have _ := hb4; go_at_call 6; refine (pqContacts_same ac a5 N cc c5 _ _ hL5.fc hO5.own.flat (by omega)).mono ?_; rintro e w6 ⟨rfl, hb6⟩)
      | (have _ := hb4; go_at_call 7; refine (contactsS_q al n c U N _ hL4.fl hn1 hN).mono ?_; rintro e w5 ⟨a5, c5, rfl, hO5⟩; have hL5 := hL4.on hO5.bel)
      | (have _ := hb3; go_at_call 8; refine (sBodiesOk_q al n c U _ _ hL3.fl hn1 eb).mono ?_; rintro e w4 ⟨rfl, hb4⟩; have hL4 := hL3.on hb4)
      | (go_at_call 6; refine (pqContacts_same ac a2 N cc c2 _ _ hL2.fc hO2.own.flat (by omega)).mono ?_; rintro e w3 ⟨rfl, hb3⟩; have hL3 := hL2.on hb3)
      | (go_at_call 7; refine (contactsS_q al n c U N _ hL.fl hn1 hN).mono ?_; rintro e w2 ⟨a2, c2, rfl, hO2⟩; have hL2 := hL.on hO2.bel))
    go_ret
    exact ⟨rfl, (hL5.on hb6).bel⟩
  | true =>
    have hB := Bods.of eb
    have hn12 := hB.le
    have eR : conR n U = conL (colOf U) n := by unfold conR; rw [eb]; rfl
    rw [eR] at hN
    have hN' := hN
    unfold conL at hN'
    have hq0 : ∀ w, Lc w w al n U ac N (ofL (conR n U)) → True := fun _ _ => trivial
    clear hq0
    go_upto_region 9 with (first
      | (have _ := hb3; go_at_call 8; refine (sBodiesOk_q al n c U _ _ hL3.fl hn1 eb).mono ?_; rintro e w4 ⟨rfl, hb4⟩; have hL4 := hL3.on hb4)
      | (go_at_call 6; refine (pqContacts_same ac a2 N cc c2 _ _ hL2.fc hO2.own.flat (by omega)).mono ?_; rintro e w3 ⟨rfl, hb3⟩; have hL3 := hL2.on hb3)
      | (go_at_call 7; refine (contactsS_q al n c U N _ hL.fl hn1 (by rw [eR]; exact hN)).mono ?_; rintro e w2 ⟨a2, c2, rfl, hO2⟩; have hL2 := hL.on hO2.bel))
    rw [eR] at hL4
    clear hL hO2 hL2 hb3 hL3 hb4
    go_loopw [5, 6, 7, 8, 9] (fun s5 s6 _ _ _ wr => ∃ (i q : Nat), i ≤ n ∧ s6 = .int .i64 (i : Int) ∧ s5 = .int .i64 (q : Int) ∧ (conOut (colOf U) n i).length = q * 5 ∧ Lc w wr al n U ac N (ofL (conL (colOf U) n))) (fun _ s6 _ _ _ _ => n - (intOf s6).toNat)
    case atStart => exact ⟨0, 0, Nat.zero_le _, rfl, rfl, rfl, hL4⟩
    case round =>
      clear hL4
      obtain ⟨i, q, hi, rfl, rfl, hq, hL⟩ := hrel
      by_cases hlt : i < n
      · have hin : (i : Int) < (n : Int) := by omega
        have hii : IntKind.i64.wrap ((i : Int) + 1) = (i : Int) + 1 := i64w (by omega)
        go_upto_region 12 with fail
        go_loopw [5, 7, 8, 9] (fun s5 s7 _ _ wq => ∃ (k q : Nat), i + 1 ≤ k ∧ (k ≤ n ∧ s7 = .int .i64 (k : Int) ∧ s5 = .int .i64 (q : Int) ∧ (conOut (colOf U) n i ++ conIn (colOf U) i k).length = q * 5 ∧ Lc w wq al n U ac N (ofL (conL (colOf U) n)))) (fun _ s7 _ _ _ => n - (intOf s7).toNat)
        case atStart => exact ⟨i + 1, q, Nat.le_refl _, hlt, by first | rfl | go_num, rfl, by rw [con_in0 _ _ _ (Nat.le_refl _), List.append_nil]; exact hq, hL⟩
        case round =>
          clear hL hq
          obtain ⟨k, q, hik, hk, rfl, rfl, hq, hL⟩ := hrel
          by_cases hkl : k < n
          · have hkn : (k : Int) < (n : Int) := by omega
            obtain ⟨⟨⟨X, Y, D⟩, J⟩, hT⟩ : ∃ F, toT (U (i * 12 + 1)) (U (i * 12 + 2)) (U (i * 12 + 3)) (U (i * 12 + 4)) (U (i * 12 + 5)) (U (k * 12 + 1)) (U (k * 12 + 2)) (U (k * 12 + 3)) (U (k * 12 + 4)) (U (k * 12 + 5)) = F := ⟨_, rfl⟩
            have hone : conOne (colOf U) i k = if (!(decide (U (i * 12 + 8) = 0) && decide (U (k * 12 + 8) = 0)) && J) = true then [(i : Int), (k : Int), X, Y, D] else [] := by
              unfold conOne conB
              have e1 : tcH (colOf U) i k = ((X, Y, D), J) := hT
              rw [e1, decide_eq_true (by omega : i < k), Bool.true_and]
              rfl
            have HIN : Shut (conIn (colOf U) i (k + 1) = conIn (colOf U) i k ++ conOne (colOf U) i k) := by show _ = _; rw [conIn]
            obtain ⟨rr, hat⟩ := con_at (colOf U) hlt hkl
            have HAT : Shut (conL (colOf U) n = (conOut (colOf U) n i ++ conIn (colOf U) i k) ++ (conOne (colOf U) i k ++ rr)) := hat
            have HONE := (show Shut _ from hone)
            clear hat hone
            obtain ⟨b0, o0, e0, hb0l, hc0⟩ := hL.fl (by omega)
            have i1 : wr.cell? ⟨b0, o0 + i * 12 + 1, none⟩ = some (.int .i64 (U (i * 12 + 1))) := by have q := hc0 (i * 12 + 1) (by omega); simpa [Nat.add_assoc] using q
            have i2 : wr.cell? ⟨b0, o0 + i * 12 + 2, none⟩ = some (.int .i64 (U (i * 12 + 2))) := by have q := hc0 (i * 12 + 2) (by omega); simpa [Nat.add_assoc] using q
            have i3 : wr.cell? ⟨b0, o0 + i * 12 + 3, none⟩ = some (.int .i64 (U (i * 12 + 3))) := by have q := hc0 (i * 12 + 3) (by omega); simpa [Nat.add_assoc] using q
            have i4 : wr.cell? ⟨b0, o0 + i * 12 + 4, none⟩ = some (.int .i64 (U (i * 12 + 4))) := by have q := hc0 (i * 12 + 4) (by omega); simpa [Nat.add_assoc] using q
            have i5 : wr.cell? ⟨b0, o0 + i * 12 + 5, none⟩ = some (.int .i64 (U (i * 12 + 5))) := by have q := hc0 (i * 12 + 5) (by omega); simpa [Nat.add_assoc] using q
            have i8 : wr.cell? ⟨b0, o0 + i * 12 + 8, none⟩ = some (.int .i64 (U (i * 12 + 8))) := by have q := hc0 (i * 12 + 8) (by omega); simpa [Nat.add_assoc] using q
            have k1 : wr.cell? ⟨b0, o0 + k * 12 + 1, none⟩ = some (.int .i64 (U (k * 12 + 1))) := by have q := hc0 (k * 12 + 1) (by omega); simpa [Nat.add_assoc] using q
            have k2 : wr.cell? ⟨b0, o0 + k * 12 + 2, none⟩ = some (.int .i64 (U (k * 12 + 2))) := by have q := hc0 (k * 12 + 2) (by omega); simpa [Nat.add_assoc] using q
            have k3 : wr.cell? ⟨b0, o0 + k * 12 + 3, none⟩ = some (.int .i64 (U (k * 12 + 3))) := by have q := hc0 (k * 12 + 3) (by omega); simpa [Nat.add_assoc] using q
            have k4 : wr.cell? ⟨b0, o0 + k * 12 + 4, none⟩ = some (.int .i64 (U (k * 12 + 4))) := by have q := hc0 (k * 12 + 4) (by omega); simpa [Nat.add_assoc] using q
            have k5 : wr.cell? ⟨b0, o0 + k * 12 + 5, none⟩ = some (.int .i64 (U (k * 12 + 5))) := by have q := hc0 (k * 12 + 5) (by omega); simpa [Nat.add_assoc] using q
            have k8 : wr.cell? ⟨b0, o0 + k * 12 + 8, none⟩ = some (.int .i64 (U (k * 12 + 8))) := by have q := hc0 (k * 12 + 8) (by omega); simpa [Nat.add_assoc] using q
            subst e0
            go_upto_region 14 with fail
            go_cut [8, 9] (fun s8 s9 wc => ∃ hbk, s8 = .pointer (some ⟨hbk, 0, none⟩) ∧ s9 = .bool J ∧ Nb wc hbk 3 (fun j => [X, Y, D].getD j 0) ∧ Lc w wc (some ⟨b0, o0, none⟩) n U ac N (ofL (conL (colOf U) n)))
            case first =>
              refine wp_region_held_drew (S := fun w' => w'.cell? ⟨b0, o0 + i * 12 + 1, none⟩ = some (.int .i64 (U (i * 12 + 1))) ∧ w'.cell? ⟨b0, o0 + i * 12 + 2, none⟩ = some (.int .i64 (U (i * 12 + 2))) ∧ w'.cell? ⟨b0, o0 + i * 12 + 3, none⟩ = some (.int .i64 (U (i * 12 + 3))) ∧ w'.cell? ⟨b0, o0 + i * 12 + 4, none⟩ = some (.int .i64 (U (i * 12 + 4))) ∧ w'.cell? ⟨b0, o0 + i * 12 + 5, none⟩ = some (.int .i64 (U (i * 12 + 5))) ∧ w'.cell? ⟨b0, o0 + k * 12 + 1, none⟩ = some (.int .i64 (U (k * 12 + 1))) ∧ w'.cell? ⟨b0, o0 + k * 12 + 2, none⟩ = some (.int .i64 (U (k * 12 + 2))) ∧ w'.cell? ⟨b0, o0 + k * 12 + 3, none⟩ = some (.int .i64 (U (k * 12 + 3))) ∧ w'.cell? ⟨b0, o0 + k * 12 + 4, none⟩ = some (.int .i64 (U (k * 12 + 4))) ∧ w'.cell? ⟨b0, o0 + k * 12 + 5, none⟩ = some (.int .i64 (U (k * 12 + 5)))) (by kernel_rfl) ?_ (fun hHeld => ?_)
              · (try dsimp only)
                (first | (go_simp; done) | (go_keep; done))
              refine tq 0 hHeld ?_
              refine tq 1 hHeld ?_
              refine tq 2 hHeld ?_
              refine tq 3 hHeld ?_
              refine tq 4 hHeld ?_
              refine tq 5 hHeld ?_
              refine tq 6 hHeld ?_
              refine tq 7 hHeld ?_
              refine tq 8 hHeld ?_
              refine tq 9 hHeld ?_
              refine tq 10 hHeld ?_
              refine tq 11 hHeld ?_
              refine tq 12 hHeld ?_
              refine tq 13 hHeld ?_
              refine tq 14 hHeld ?_
              refine tq 15 hHeld ?_
              refine tq 16 hHeld ?_
              refine tq 17 hHeld ?_
              refine tq 18 hHeld ?_
              refine tq 19 hHeld ?_
              refine wpAnyH_ready (rs := [20, 24]) (by kernel_rfl) (by simp) ?_
              refine AllReadyH.cons rfl (fun K hK => ?_) (AllReadyH.cons rfl (fun K hK => ?_) AllReadyH.nil)
              · (go_simp
                 (go_at_call 9; refine (touch_q (U (i * 12 + 1)) (U (i * 12 + 2)) (U (i * 12 + 3)) (U (i * 12 + 4)) (U (i * 12 + 5)) (U (k * 12 + 1)) (U (k * 12 + 2)) (U (k * 12 + 3)) (U (k * 12 + 4)) (U (k * 12 + 5)) X Y D J _ hT).mono ?_; rintro e w5 ⟨rfl, hb5⟩)
                 have hb5 := hb5.ofDr
                 have hL2 := hL.on hb5
                 
                 clear i1 i2 i3 i4 i5 i8 k1 k2 k3 k4 k5 k8 hc0 hb0l hL
                 have hL := hL2
                 clear hL2
                 obtain ⟨b0', o0', e0', hb0l, hc0⟩ := hL.fl (by omega)
                 cases e0'
                 have i1 : w5.cell? ⟨b0, o0 + i * 12 + 1, none⟩ = some (.int .i64 (U (i * 12 + 1))) := by have q := hc0 (i * 12 + 1) (by omega); simpa [Nat.add_assoc] using q
                 have i2 : w5.cell? ⟨b0, o0 + i * 12 + 2, none⟩ = some (.int .i64 (U (i * 12 + 2))) := by have q := hc0 (i * 12 + 2) (by omega); simpa [Nat.add_assoc] using q
                 have i3 : w5.cell? ⟨b0, o0 + i * 12 + 3, none⟩ = some (.int .i64 (U (i * 12 + 3))) := by have q := hc0 (i * 12 + 3) (by omega); simpa [Nat.add_assoc] using q
                 have i4 : w5.cell? ⟨b0, o0 + i * 12 + 4, none⟩ = some (.int .i64 (U (i * 12 + 4))) := by have q := hc0 (i * 12 + 4) (by omega); simpa [Nat.add_assoc] using q
                 have i5 : w5.cell? ⟨b0, o0 + i * 12 + 5, none⟩ = some (.int .i64 (U (i * 12 + 5))) := by have q := hc0 (i * 12 + 5) (by omega); simpa [Nat.add_assoc] using q
                 have i8 : w5.cell? ⟨b0, o0 + i * 12 + 8, none⟩ = some (.int .i64 (U (i * 12 + 8))) := by have q := hc0 (i * 12 + 8) (by omega); simpa [Nat.add_assoc] using q
                 have k1 : w5.cell? ⟨b0, o0 + k * 12 + 1, none⟩ = some (.int .i64 (U (k * 12 + 1))) := by have q := hc0 (k * 12 + 1) (by omega); simpa [Nat.add_assoc] using q
                 have k2 : w5.cell? ⟨b0, o0 + k * 12 + 2, none⟩ = some (.int .i64 (U (k * 12 + 2))) := by have q := hc0 (k * 12 + 2) (by omega); simpa [Nat.add_assoc] using q
                 have k3 : w5.cell? ⟨b0, o0 + k * 12 + 3, none⟩ = some (.int .i64 (U (k * 12 + 3))) := by have q := hc0 (k * 12 + 3) (by omega); simpa [Nat.add_assoc] using q
                 have k4 : w5.cell? ⟨b0, o0 + k * 12 + 4, none⟩ = some (.int .i64 (U (k * 12 + 4))) := by have q := hc0 (k * 12 + 4) (by omega); simpa [Nat.add_assoc] using q
                 have k5 : w5.cell? ⟨b0, o0 + k * 12 + 5, none⟩ = some (.int .i64 (U (k * 12 + 5))) := by have q := hc0 (k * 12 + 5) (by omega); simpa [Nat.add_assoc] using q
                 have k8 : w5.cell? ⟨b0, o0 + k * 12 + 8, none⟩ = some (.int .i64 (U (k * 12 + 8))) := by have q := hc0 (k * 12 + 8) (by omega); simpa [Nat.add_assoc] using q
                 
                 (try go_wp2_with fail)
                 refine tr hK (fun hHeld => ?_)
                 clear hK K)
                refine tq 21 hHeld ?_
                refine tq 22 hHeld ?_
                refine tq 23 hHeld ?_
                refine tc 24 fun K hK => ?_
                (go_simp
                 have hE : Below w5.heap.size w5 (w5.alloc (Obj.cells #[.int .i64 0, .int .i64 0, .int .i64 0] 32)) := (Below.refl _ _).alloc (Nat.le_refl _) _
                 have hL2 := hL.on hE
                 have hV : Nb (w5.alloc (Obj.cells #[.int .i64 0, .int .i64 0, .int .i64 0] 32)) w5.heap.size 3 (fun _ => 0) := ⟨fun j hj => by rcases (show j = 0 ∨ j = 1 ∨ j = 2 by omega) with rfl | rfl | rfl <;> go_simp, fun o => by go_simp, by simp⟩
                 have hp1 : w.heap.size ≤ w5.heap.size := hL.bel.size
                 have hp2 : ∀ b o, (some ⟨b0, o0, none⟩ : Option Addr) = some ⟨b, o, none⟩ → b ≠ w5.heap.size := fun b o e => by obtain ⟨b', o', e', hl, _⟩ := hL.fl (by omega); rw [e'] at e; cases e; omega
                 have hp3 : 0 < N * 5 → ∀ b o, ac = some ⟨b, o, none⟩ → b ≠ w5.heap.size := fun h0 b o e => by obtain ⟨b', o', e', hl, _⟩ := hL.fc h0; rw [e'] at e; cases e; omega
                 clear hE
                 clear i1 i2 i3 i4 i5 i8 k1 k2 k3 k4 k5 k8 hc0 hb0l hL
                 have hL := hL2
                 clear hL2
                 generalize (w5.alloc (Obj.cells #[.int .i64 0, .int .i64 0, .int .i64 0] 32)) = w6 at hL hV ⊢
                 generalize w5.heap.size = hbk at hV hp1 hp2 hp3 ⊢
                 obtain ⟨b0', o0', e0', hb0l, hc0⟩ := hL.fl (by omega)
                 cases e0'
                 have i1 : w6.cell? ⟨b0, o0 + i * 12 + 1, none⟩ = some (.int .i64 (U (i * 12 + 1))) := by have q := hc0 (i * 12 + 1) (by omega); simpa [Nat.add_assoc] using q
                 have i2 : w6.cell? ⟨b0, o0 + i * 12 + 2, none⟩ = some (.int .i64 (U (i * 12 + 2))) := by have q := hc0 (i * 12 + 2) (by omega); simpa [Nat.add_assoc] using q
                 have i3 : w6.cell? ⟨b0, o0 + i * 12 + 3, none⟩ = some (.int .i64 (U (i * 12 + 3))) := by have q := hc0 (i * 12 + 3) (by omega); simpa [Nat.add_assoc] using q
                 have i4 : w6.cell? ⟨b0, o0 + i * 12 + 4, none⟩ = some (.int .i64 (U (i * 12 + 4))) := by have q := hc0 (i * 12 + 4) (by omega); simpa [Nat.add_assoc] using q
                 have i5 : w6.cell? ⟨b0, o0 + i * 12 + 5, none⟩ = some (.int .i64 (U (i * 12 + 5))) := by have q := hc0 (i * 12 + 5) (by omega); simpa [Nat.add_assoc] using q
                 have i8 : w6.cell? ⟨b0, o0 + i * 12 + 8, none⟩ = some (.int .i64 (U (i * 12 + 8))) := by have q := hc0 (i * 12 + 8) (by omega); simpa [Nat.add_assoc] using q
                 have k1 : w6.cell? ⟨b0, o0 + k * 12 + 1, none⟩ = some (.int .i64 (U (k * 12 + 1))) := by have q := hc0 (k * 12 + 1) (by omega); simpa [Nat.add_assoc] using q
                 have k2 : w6.cell? ⟨b0, o0 + k * 12 + 2, none⟩ = some (.int .i64 (U (k * 12 + 2))) := by have q := hc0 (k * 12 + 2) (by omega); simpa [Nat.add_assoc] using q
                 have k3 : w6.cell? ⟨b0, o0 + k * 12 + 3, none⟩ = some (.int .i64 (U (k * 12 + 3))) := by have q := hc0 (k * 12 + 3) (by omega); simpa [Nat.add_assoc] using q
                 have k4 : w6.cell? ⟨b0, o0 + k * 12 + 4, none⟩ = some (.int .i64 (U (k * 12 + 4))) := by have q := hc0 (k * 12 + 4) (by omega); simpa [Nat.add_assoc] using q
                 have k5 : w6.cell? ⟨b0, o0 + k * 12 + 5, none⟩ = some (.int .i64 (U (k * 12 + 5))) := by have q := hc0 (k * 12 + 5) (by omega); simpa [Nat.add_assoc] using q
                 have k8 : w6.cell? ⟨b0, o0 + k * 12 + 8, none⟩ = some (.int .i64 (U (k * 12 + 8))) := by have q := hc0 (k * 12 + 8) (by omega); simpa [Nat.add_assoc] using q
                 have v0 : w6.cell? ⟨hbk, 0, none⟩ = some (.int .i64 0) := hV.c 0 (by decide)
                 have v1 : w6.cell? ⟨hbk, 1, none⟩ = some (.int .i64 0) := hV.c 1 (by decide)
                 have v2 : w6.cell? ⟨hbk, 2, none⟩ = some (.int .i64 0) := hV.c 2 (by decide)
                 have vf := hV.f
                 refine tr hK (fun hHeld => ?_)
                 clear hK K)
                refine tc 25 fun K hK => ?_
                (go_simp
                 have hs : Fr (fun b => b = hbk) w6 (((w6.setCell ⟨hbk, 0, none⟩ (.int .i64 X)).setCell ⟨hbk, 1, none⟩ (.int .i64 Y)).setCell ⟨hbk, 2, none⟩ (.int .i64 D)) := ((Fr.setCell (X := fun b => b = hbk) rfl _).trans (Fr.setCell (X := fun b => b = hbk) rfl _)).trans (Fr.setCell (X := fun b => b = hbk) rfl _)
                 have hV2 : Nb (((w6.setCell ⟨hbk, 0, none⟩ (.int .i64 X)).setCell ⟨hbk, 1, none⟩ (.int .i64 Y)).setCell ⟨hbk, 2, none⟩ (.int .i64 D)) hbk 3 (fun j => [X, Y, D].getD j 0) := (((hV.set 0 (by decide) X).set 1 (by decide) Y).set 2 (by decide) D).congr (fun j hj => by rcases (show j = 0 ∨ j = 1 ∨ j = 2 by omega) with rfl | rfl | rfl <;> rfl)
                 have hL2 := hL.setN hs hp1 hp2 hp3
                 clear i1 i2 i3 i4 i5 i8 k1 k2 k3 k4 k5 k8 hc0 hb0l hL hs hV v0 v1 v2 vf
                 have hV := hV2
                 have hL := hL2
                 clear hV2 hL2
                 generalize (((w6.setCell ⟨hbk, 0, none⟩ (.int .i64 X)).setCell ⟨hbk, 1, none⟩ (.int .i64 Y)).setCell ⟨hbk, 2, none⟩ (.int .i64 D)) = w7 at hL hV ⊢
                 obtain ⟨b0', o0', e0', hb0l, hc0⟩ := hL.fl (by omega)
                 cases e0'
                 have i1 : w7.cell? ⟨b0, o0 + i * 12 + 1, none⟩ = some (.int .i64 (U (i * 12 + 1))) := by have q := hc0 (i * 12 + 1) (by omega); simpa [Nat.add_assoc] using q
                 have i2 : w7.cell? ⟨b0, o0 + i * 12 + 2, none⟩ = some (.int .i64 (U (i * 12 + 2))) := by have q := hc0 (i * 12 + 2) (by omega); simpa [Nat.add_assoc] using q
                 have i3 : w7.cell? ⟨b0, o0 + i * 12 + 3, none⟩ = some (.int .i64 (U (i * 12 + 3))) := by have q := hc0 (i * 12 + 3) (by omega); simpa [Nat.add_assoc] using q
                 have i4 : w7.cell? ⟨b0, o0 + i * 12 + 4, none⟩ = some (.int .i64 (U (i * 12 + 4))) := by have q := hc0 (i * 12 + 4) (by omega); simpa [Nat.add_assoc] using q
                 have i5 : w7.cell? ⟨b0, o0 + i * 12 + 5, none⟩ = some (.int .i64 (U (i * 12 + 5))) := by have q := hc0 (i * 12 + 5) (by omega); simpa [Nat.add_assoc] using q
                 have i8 : w7.cell? ⟨b0, o0 + i * 12 + 8, none⟩ = some (.int .i64 (U (i * 12 + 8))) := by have q := hc0 (i * 12 + 8) (by omega); simpa [Nat.add_assoc] using q
                 have k1 : w7.cell? ⟨b0, o0 + k * 12 + 1, none⟩ = some (.int .i64 (U (k * 12 + 1))) := by have q := hc0 (k * 12 + 1) (by omega); simpa [Nat.add_assoc] using q
                 have k2 : w7.cell? ⟨b0, o0 + k * 12 + 2, none⟩ = some (.int .i64 (U (k * 12 + 2))) := by have q := hc0 (k * 12 + 2) (by omega); simpa [Nat.add_assoc] using q
                 have k3 : w7.cell? ⟨b0, o0 + k * 12 + 3, none⟩ = some (.int .i64 (U (k * 12 + 3))) := by have q := hc0 (k * 12 + 3) (by omega); simpa [Nat.add_assoc] using q
                 have k4 : w7.cell? ⟨b0, o0 + k * 12 + 4, none⟩ = some (.int .i64 (U (k * 12 + 4))) := by have q := hc0 (k * 12 + 4) (by omega); simpa [Nat.add_assoc] using q
                 have k5 : w7.cell? ⟨b0, o0 + k * 12 + 5, none⟩ = some (.int .i64 (U (k * 12 + 5))) := by have q := hc0 (k * 12 + 5) (by omega); simpa [Nat.add_assoc] using q
                 have k8 : w7.cell? ⟨b0, o0 + k * 12 + 8, none⟩ = some (.int .i64 (U (k * 12 + 8))) := by have q := hc0 (k * 12 + 8) (by omega); simpa [Nat.add_assoc] using q
                 refine tr hK (fun hHeld => ?_)
                 clear hK K)
                refine tq 26 hHeld ?_
                refine wpAnyH_done (by kernel_rfl) ?_ _
                go_wp2_with fail
                go_meet
                exact ⟨hbk, rfl, rfl, hV, hL⟩
              · (go_simp
                 have hE : Below wr.heap.size wr (wr.alloc (Obj.cells #[.int .i64 0, .int .i64 0, .int .i64 0] 32)).drew := Below.drew ((Below.refl _ _).alloc (Nat.le_refl _) _)
                 have hL2 := hL.on hE
                 have hV : Nb (wr.alloc (Obj.cells #[.int .i64 0, .int .i64 0, .int .i64 0] 32)).drew wr.heap.size 3 (fun _ => 0) := ⟨fun j hj => by rcases (show j = 0 ∨ j = 1 ∨ j = 2 by omega) with rfl | rfl | rfl <;> go_simp, fun o => by go_simp, by simp⟩
                 have hp1 : w.heap.size ≤ wr.heap.size := hL.bel.size
                 have hp2 : ∀ b o, (some ⟨b0, o0, none⟩ : Option Addr) = some ⟨b, o, none⟩ → b ≠ wr.heap.size := fun b o e => by obtain ⟨b', o', e', hl, _⟩ := hL.fl (by omega); rw [e'] at e; cases e; omega
                 have hp3 : 0 < N * 5 → ∀ b o, ac = some ⟨b, o, none⟩ → b ≠ wr.heap.size := fun h0 b o e => by obtain ⟨b', o', e', hl, _⟩ := hL.fc h0; rw [e'] at e; cases e; omega
                 clear hE
                 clear i1 i2 i3 i4 i5 i8 k1 k2 k3 k4 k5 k8 hc0 hb0l hL
                 have hL := hL2
                 clear hL2
                 generalize (wr.alloc (Obj.cells #[.int .i64 0, .int .i64 0, .int .i64 0] 32)).drew = w6 at hL hV ⊢
                 generalize wr.heap.size = hbk at hV hp1 hp2 hp3 ⊢
                 obtain ⟨b0', o0', e0', hb0l, hc0⟩ := hL.fl (by omega)
                 cases e0'
                 have i1 : w6.cell? ⟨b0, o0 + i * 12 + 1, none⟩ = some (.int .i64 (U (i * 12 + 1))) := by have q := hc0 (i * 12 + 1) (by omega); simpa [Nat.add_assoc] using q
                 have i2 : w6.cell? ⟨b0, o0 + i * 12 + 2, none⟩ = some (.int .i64 (U (i * 12 + 2))) := by have q := hc0 (i * 12 + 2) (by omega); simpa [Nat.add_assoc] using q
                 have i3 : w6.cell? ⟨b0, o0 + i * 12 + 3, none⟩ = some (.int .i64 (U (i * 12 + 3))) := by have q := hc0 (i * 12 + 3) (by omega); simpa [Nat.add_assoc] using q
                 have i4 : w6.cell? ⟨b0, o0 + i * 12 + 4, none⟩ = some (.int .i64 (U (i * 12 + 4))) := by have q := hc0 (i * 12 + 4) (by omega); simpa [Nat.add_assoc] using q
                 have i5 : w6.cell? ⟨b0, o0 + i * 12 + 5, none⟩ = some (.int .i64 (U (i * 12 + 5))) := by have q := hc0 (i * 12 + 5) (by omega); simpa [Nat.add_assoc] using q
                 have i8 : w6.cell? ⟨b0, o0 + i * 12 + 8, none⟩ = some (.int .i64 (U (i * 12 + 8))) := by have q := hc0 (i * 12 + 8) (by omega); simpa [Nat.add_assoc] using q
                 have k1 : w6.cell? ⟨b0, o0 + k * 12 + 1, none⟩ = some (.int .i64 (U (k * 12 + 1))) := by have q := hc0 (k * 12 + 1) (by omega); simpa [Nat.add_assoc] using q
                 have k2 : w6.cell? ⟨b0, o0 + k * 12 + 2, none⟩ = some (.int .i64 (U (k * 12 + 2))) := by have q := hc0 (k * 12 + 2) (by omega); simpa [Nat.add_assoc] using q
                 have k3 : w6.cell? ⟨b0, o0 + k * 12 + 3, none⟩ = some (.int .i64 (U (k * 12 + 3))) := by have q := hc0 (k * 12 + 3) (by omega); simpa [Nat.add_assoc] using q
                 have k4 : w6.cell? ⟨b0, o0 + k * 12 + 4, none⟩ = some (.int .i64 (U (k * 12 + 4))) := by have q := hc0 (k * 12 + 4) (by omega); simpa [Nat.add_assoc] using q
                 have k5 : w6.cell? ⟨b0, o0 + k * 12 + 5, none⟩ = some (.int .i64 (U (k * 12 + 5))) := by have q := hc0 (k * 12 + 5) (by omega); simpa [Nat.add_assoc] using q
                 have k8 : w6.cell? ⟨b0, o0 + k * 12 + 8, none⟩ = some (.int .i64 (U (k * 12 + 8))) := by have q := hc0 (k * 12 + 8) (by omega); simpa [Nat.add_assoc] using q
                 have v0 : w6.cell? ⟨hbk, 0, none⟩ = some (.int .i64 0) := hV.c 0 (by decide)
                 have v1 : w6.cell? ⟨hbk, 1, none⟩ = some (.int .i64 0) := hV.c 1 (by decide)
                 have v2 : w6.cell? ⟨hbk, 2, none⟩ = some (.int .i64 0) := hV.c 2 (by decide)
                 have vf := hV.f
                 refine tr hK (fun hHeld => ?_)
                 clear hK K)
                refine tc 20 fun K hK => ?_
                (go_simp
                 (go_at_call 9; refine (touch_q (U (i * 12 + 1)) (U (i * 12 + 2)) (U (i * 12 + 3)) (U (i * 12 + 4)) (U (i * 12 + 5)) (U (k * 12 + 1)) (U (k * 12 + 2)) (U (k * 12 + 3)) (U (k * 12 + 4)) (U (k * 12 + 5)) X Y D J _ hT).mono ?_; rintro e w5 ⟨rfl, hb5⟩)
                 
                 have hL2 := hL.on hb5
                 have hV2 := hV.on hb5
                 clear hV v0 v1 v2 vf
                 have hV := hV2
                 clear hV2
                 clear i1 i2 i3 i4 i5 i8 k1 k2 k3 k4 k5 k8 hc0 hb0l hL
                 have hL := hL2
                 clear hL2
                 obtain ⟨b0', o0', e0', hb0l, hc0⟩ := hL.fl (by omega)
                 cases e0'
                 have i1 : w5.cell? ⟨b0, o0 + i * 12 + 1, none⟩ = some (.int .i64 (U (i * 12 + 1))) := by have q := hc0 (i * 12 + 1) (by omega); simpa [Nat.add_assoc] using q
                 have i2 : w5.cell? ⟨b0, o0 + i * 12 + 2, none⟩ = some (.int .i64 (U (i * 12 + 2))) := by have q := hc0 (i * 12 + 2) (by omega); simpa [Nat.add_assoc] using q
                 have i3 : w5.cell? ⟨b0, o0 + i * 12 + 3, none⟩ = some (.int .i64 (U (i * 12 + 3))) := by have q := hc0 (i * 12 + 3) (by omega); simpa [Nat.add_assoc] using q
                 have i4 : w5.cell? ⟨b0, o0 + i * 12 + 4, none⟩ = some (.int .i64 (U (i * 12 + 4))) := by have q := hc0 (i * 12 + 4) (by omega); simpa [Nat.add_assoc] using q
                 have i5 : w5.cell? ⟨b0, o0 + i * 12 + 5, none⟩ = some (.int .i64 (U (i * 12 + 5))) := by have q := hc0 (i * 12 + 5) (by omega); simpa [Nat.add_assoc] using q
                 have i8 : w5.cell? ⟨b0, o0 + i * 12 + 8, none⟩ = some (.int .i64 (U (i * 12 + 8))) := by have q := hc0 (i * 12 + 8) (by omega); simpa [Nat.add_assoc] using q
                 have k1 : w5.cell? ⟨b0, o0 + k * 12 + 1, none⟩ = some (.int .i64 (U (k * 12 + 1))) := by have q := hc0 (k * 12 + 1) (by omega); simpa [Nat.add_assoc] using q
                 have k2 : w5.cell? ⟨b0, o0 + k * 12 + 2, none⟩ = some (.int .i64 (U (k * 12 + 2))) := by have q := hc0 (k * 12 + 2) (by omega); simpa [Nat.add_assoc] using q
                 have k3 : w5.cell? ⟨b0, o0 + k * 12 + 3, none⟩ = some (.int .i64 (U (k * 12 + 3))) := by have q := hc0 (k * 12 + 3) (by omega); simpa [Nat.add_assoc] using q
                 have k4 : w5.cell? ⟨b0, o0 + k * 12 + 4, none⟩ = some (.int .i64 (U (k * 12 + 4))) := by have q := hc0 (k * 12 + 4) (by omega); simpa [Nat.add_assoc] using q
                 have k5 : w5.cell? ⟨b0, o0 + k * 12 + 5, none⟩ = some (.int .i64 (U (k * 12 + 5))) := by have q := hc0 (k * 12 + 5) (by omega); simpa [Nat.add_assoc] using q
                 have k8 : w5.cell? ⟨b0, o0 + k * 12 + 8, none⟩ = some (.int .i64 (U (k * 12 + 8))) := by have q := hc0 (k * 12 + 8) (by omega); simpa [Nat.add_assoc] using q
                 have v0 : w5.cell? ⟨hbk, 0, none⟩ = some (.int .i64 0) := hV.c 0 (by decide)
                 have v1 : w5.cell? ⟨hbk, 1, none⟩ = some (.int .i64 0) := hV.c 1 (by decide)
                 have v2 : w5.cell? ⟨hbk, 2, none⟩ = some (.int .i64 0) := hV.c 2 (by decide)
                 have vf := hV.f
                 (try go_wp2_with fail)
                 refine tr hK (fun hHeld => ?_)
                 clear hK K)
                refine tq 21 hHeld ?_
                refine tq 22 hHeld ?_
                refine tq 23 hHeld ?_
                refine tc 25 fun K hK => ?_
                (go_simp
                 have hs : Fr (fun b => b = hbk) w5 (((w5.setCell ⟨hbk, 0, none⟩ (.int .i64 X)).setCell ⟨hbk, 1, none⟩ (.int .i64 Y)).setCell ⟨hbk, 2, none⟩ (.int .i64 D)) := ((Fr.setCell (X := fun b => b = hbk) rfl _).trans (Fr.setCell (X := fun b => b = hbk) rfl _)).trans (Fr.setCell (X := fun b => b = hbk) rfl _)
                 have hV2 : Nb (((w5.setCell ⟨hbk, 0, none⟩ (.int .i64 X)).setCell ⟨hbk, 1, none⟩ (.int .i64 Y)).setCell ⟨hbk, 2, none⟩ (.int .i64 D)) hbk 3 (fun j => [X, Y, D].getD j 0) := (((hV.set 0 (by decide) X).set 1 (by decide) Y).set 2 (by decide) D).congr (fun j hj => by rcases (show j = 0 ∨ j = 1 ∨ j = 2 by omega) with rfl | rfl | rfl <;> rfl)
                 have hL2 := hL.setN hs hp1 hp2 hp3
                 clear i1 i2 i3 i4 i5 i8 k1 k2 k3 k4 k5 k8 hc0 hb0l hL hs hV v0 v1 v2 vf
                 have hV := hV2
                 have hL := hL2
                 clear hV2 hL2
                 generalize (((w5.setCell ⟨hbk, 0, none⟩ (.int .i64 X)).setCell ⟨hbk, 1, none⟩ (.int .i64 Y)).setCell ⟨hbk, 2, none⟩ (.int .i64 D)) = w7 at hL hV ⊢
                 obtain ⟨b0', o0', e0', hb0l, hc0⟩ := hL.fl (by omega)
                 cases e0'
                 have i1 : w7.cell? ⟨b0, o0 + i * 12 + 1, none⟩ = some (.int .i64 (U (i * 12 + 1))) := by have q := hc0 (i * 12 + 1) (by omega); simpa [Nat.add_assoc] using q
                 have i2 : w7.cell? ⟨b0, o0 + i * 12 + 2, none⟩ = some (.int .i64 (U (i * 12 + 2))) := by have q := hc0 (i * 12 + 2) (by omega); simpa [Nat.add_assoc] using q
                 have i3 : w7.cell? ⟨b0, o0 + i * 12 + 3, none⟩ = some (.int .i64 (U (i * 12 + 3))) := by have q := hc0 (i * 12 + 3) (by omega); simpa [Nat.add_assoc] using q
                 have i4 : w7.cell? ⟨b0, o0 + i * 12 + 4, none⟩ = some (.int .i64 (U (i * 12 + 4))) := by have q := hc0 (i * 12 + 4) (by omega); simpa [Nat.add_assoc] using q
                 have i5 : w7.cell? ⟨b0, o0 + i * 12 + 5, none⟩ = some (.int .i64 (U (i * 12 + 5))) := by have q := hc0 (i * 12 + 5) (by omega); simpa [Nat.add_assoc] using q
                 have i8 : w7.cell? ⟨b0, o0 + i * 12 + 8, none⟩ = some (.int .i64 (U (i * 12 + 8))) := by have q := hc0 (i * 12 + 8) (by omega); simpa [Nat.add_assoc] using q
                 have k1 : w7.cell? ⟨b0, o0 + k * 12 + 1, none⟩ = some (.int .i64 (U (k * 12 + 1))) := by have q := hc0 (k * 12 + 1) (by omega); simpa [Nat.add_assoc] using q
                 have k2 : w7.cell? ⟨b0, o0 + k * 12 + 2, none⟩ = some (.int .i64 (U (k * 12 + 2))) := by have q := hc0 (k * 12 + 2) (by omega); simpa [Nat.add_assoc] using q
                 have k3 : w7.cell? ⟨b0, o0 + k * 12 + 3, none⟩ = some (.int .i64 (U (k * 12 + 3))) := by have q := hc0 (k * 12 + 3) (by omega); simpa [Nat.add_assoc] using q
                 have k4 : w7.cell? ⟨b0, o0 + k * 12 + 4, none⟩ = some (.int .i64 (U (k * 12 + 4))) := by have q := hc0 (k * 12 + 4) (by omega); simpa [Nat.add_assoc] using q
                 have k5 : w7.cell? ⟨b0, o0 + k * 12 + 5, none⟩ = some (.int .i64 (U (k * 12 + 5))) := by have q := hc0 (k * 12 + 5) (by omega); simpa [Nat.add_assoc] using q
                 have k8 : w7.cell? ⟨b0, o0 + k * 12 + 8, none⟩ = some (.int .i64 (U (k * 12 + 8))) := by have q := hc0 (k * 12 + 8) (by omega); simpa [Nat.add_assoc] using q
                 refine tr hK (fun hHeld => ?_)
                 clear hK K)
                refine tq 26 hHeld ?_
                refine wpAnyH_done (by kernel_rfl) ?_ _
                go_wp2_with fail
                go_meet
                exact ⟨hbk, rfl, rfl, hV, hL⟩
            case rest =>
            clear i1 i2 i3 i4 i5 i8 k1 k2 k3 k4 k5 k8 hc0 hb0l hL
            obtain ⟨hbk, rfl, rfl, hV, hL⟩ := hcut
            obtain ⟨b0', o0', e0', hb0l, hc0⟩ := hL.fl (by omega)
            cases e0'
            have i1 : wc.cell? ⟨b0, o0 + i * 12 + 1, none⟩ = some (.int .i64 (U (i * 12 + 1))) := by have q := hc0 (i * 12 + 1) (by omega); simpa [Nat.add_assoc] using q
            have i2 : wc.cell? ⟨b0, o0 + i * 12 + 2, none⟩ = some (.int .i64 (U (i * 12 + 2))) := by have q := hc0 (i * 12 + 2) (by omega); simpa [Nat.add_assoc] using q
            have i3 : wc.cell? ⟨b0, o0 + i * 12 + 3, none⟩ = some (.int .i64 (U (i * 12 + 3))) := by have q := hc0 (i * 12 + 3) (by omega); simpa [Nat.add_assoc] using q
            have i4 : wc.cell? ⟨b0, o0 + i * 12 + 4, none⟩ = some (.int .i64 (U (i * 12 + 4))) := by have q := hc0 (i * 12 + 4) (by omega); simpa [Nat.add_assoc] using q
            have i5 : wc.cell? ⟨b0, o0 + i * 12 + 5, none⟩ = some (.int .i64 (U (i * 12 + 5))) := by have q := hc0 (i * 12 + 5) (by omega); simpa [Nat.add_assoc] using q
            have i8 : wc.cell? ⟨b0, o0 + i * 12 + 8, none⟩ = some (.int .i64 (U (i * 12 + 8))) := by have q := hc0 (i * 12 + 8) (by omega); simpa [Nat.add_assoc] using q
            have k1 : wc.cell? ⟨b0, o0 + k * 12 + 1, none⟩ = some (.int .i64 (U (k * 12 + 1))) := by have q := hc0 (k * 12 + 1) (by omega); simpa [Nat.add_assoc] using q
            have k2 : wc.cell? ⟨b0, o0 + k * 12 + 2, none⟩ = some (.int .i64 (U (k * 12 + 2))) := by have q := hc0 (k * 12 + 2) (by omega); simpa [Nat.add_assoc] using q
            have k3 : wc.cell? ⟨b0, o0 + k * 12 + 3, none⟩ = some (.int .i64 (U (k * 12 + 3))) := by have q := hc0 (k * 12 + 3) (by omega); simpa [Nat.add_assoc] using q
            have k4 : wc.cell? ⟨b0, o0 + k * 12 + 4, none⟩ = some (.int .i64 (U (k * 12 + 4))) := by have q := hc0 (k * 12 + 4) (by omega); simpa [Nat.add_assoc] using q
            have k5 : wc.cell? ⟨b0, o0 + k * 12 + 5, none⟩ = some (.int .i64 (U (k * 12 + 5))) := by have q := hc0 (k * 12 + 5) (by omega); simpa [Nat.add_assoc] using q
            have k8 : wc.cell? ⟨b0, o0 + k * 12 + 8, none⟩ = some (.int .i64 (U (k * 12 + 8))) := by have q := hc0 (k * 12 + 8) (by omega); simpa [Nat.add_assoc] using q
            cases J with
            | false =>
              have HN : Shut ((conOut (colOf U) n i ++ conIn (colOf U) i (k + 1)).length = q * 5) := by show _ = _; rw [HIN.out, HONE.out]; simpa using hq
              go_wp2_with fail
              go_roundw
              case rel => exact ⟨k + 1, q, by omega, by omega, by go_num, by first | rfl | go_num, HN.out, hL⟩
              case measure => simp [intOf]; omega
            | true =>
              by_cases mi : U (i * 12 + 8) = 0
              · have ei : (U (i * 12 + 8) == 0) = true := by simp [mi]
                by_cases mk : U (k * 12 + 8) = 0
                · have ek : (U (k * 12 + 8) == 0) = true := by simp [mk]
                  have HN : Shut ((conOut (colOf U) n i ++ conIn (colOf U) i (k + 1)).length = q * 5) := by show _ = _; rw [HIN.out, HONE.out, decide_eq_true mi, decide_eq_true mk]; simpa using hq
                  clear mi mk
                  go_wp2_with fail
                  go_roundw
                  case rel => exact ⟨k + 1, q, by omega, by omega, by go_num, by first | rfl | go_num, HN.out, hL⟩
                  case measure => simp [intOf]; omega
                · have ek : (U (k * 12 + 8) == 0) = false := by simp [mk]
                  have HO : Shut (conOne (colOf U) i k = [(i : Int), (k : Int), X, Y, D]) := by show _ = _; rw [HONE.out, decide_eq_true mi, decide_eq_false mk]; rfl
                  clear mi mk
                  have HN : Shut ((conOut (colOf U) n i ++ conIn (colOf U) i (k + 1)).length = (q + 1) * 5) := by show _ = _; rw [HIN.out, HO.out, ← List.append_assoc, List.length_append, hq]; simp; omega
                  rw [HO.out] at HAT
                  have hqN : q < N := by
                    have := hN
                    rw [HAT.out, List.length_append, hq] at this
                    simp at this
                    omega
                  have hqi : (q : Int) < (N : Int) := by omega
                  have hge : ¬ (N : Int) ≤ (q : Int) := by omega
                  have hw1 : IntKind.i64.wrap ((q : Int) + 1) = (q : Int) + 1 := i64w (by omega)
                  obtain ⟨b3, o3, e3, _, hc3⟩ := hL.fc (by omega)
                  have hg : ∀ j, j < 5 → ofL (conL (colOf U) n) (q * 5 + j) = ofL [(i : Int), (k : Int), X, Y, D] j := fun j hj => by
                    rw [HAT.out, ofL_r (by omega), hq, Nat.add_sub_cancel_left, ofL_l (by simp; omega)]
                  have t0 : wc.cell? ⟨b3, o3 + q * 5, none⟩ = some (.int .i64 (i : Int)) := by have z := hc3 (q * 5 + 0) (by omega); rw [hg 0 (by omega)] at z; simpa [Nat.add_assoc, ofL] using z
                  have t1 : wc.cell? ⟨b3, o3 + q * 5 + 1, none⟩ = some (.int .i64 (k : Int)) := by have z := hc3 (q * 5 + 1) (by omega); rw [hg 1 (by omega)] at z; simpa [Nat.add_assoc, ofL] using z
                  have t2 : wc.cell? ⟨b3, o3 + q * 5 + 2, none⟩ = some (.int .i64 X) := by have z := hc3 (q * 5 + 2) (by omega); rw [hg 2 (by omega)] at z; simpa [Nat.add_assoc, ofL] using z
                  have t3 : wc.cell? ⟨b3, o3 + q * 5 + 3, none⟩ = some (.int .i64 Y) := by have z := hc3 (q * 5 + 3) (by omega); rw [hg 3 (by omega)] at z; simpa [Nat.add_assoc, ofL] using z
                  have t4 : wc.cell? ⟨b3, o3 + q * 5 + 4, none⟩ = some (.int .i64 D) := by have z := hc3 (q * 5 + 4) (by omega); rw [hg 4 (by omega)] at z; simpa [Nat.add_assoc, ofL] using z
                  clear hc3 hg
                  subst e3
                  have y0 : wc.cell? ⟨hbk, 0, none⟩ = some (.int .i64 X) := hV.c 0 (by decide)
                  have y1 : wc.cell? ⟨hbk, 1, none⟩ = some (.int .i64 Y) := hV.c 1 (by decide)
                  have y2 : wc.cell? ⟨hbk, 2, none⟩ = some (.int .i64 D) := hV.c 2 (by decide)
                  have hev := eq_con0 (i : Int) (k : Int) X Y D
                  clear HAT HONE HIN hT
                  go_upto_region 16 with fail
                  refine wp_region_held_drew (S := fun w' => w'.cell? ⟨b3, o3 + q * 5, none⟩ = some (.int .i64 (i : Int)) ∧ w'.cell? ⟨b3, o3 + q * 5 + 1, none⟩ = some (.int .i64 (k : Int)) ∧ w'.cell? ⟨b3, o3 + q * 5 + 2, none⟩ = some (.int .i64 X) ∧ w'.cell? ⟨b3, o3 + q * 5 + 3, none⟩ = some (.int .i64 Y) ∧ w'.cell? ⟨b3, o3 + q * 5 + 4, none⟩ = some (.int .i64 D) ∧ w'.cell? ⟨hbk, 0, none⟩ = some (.int .i64 X) ∧ w'.cell? ⟨hbk, 1, none⟩ = some (.int .i64 Y) ∧ w'.cell? ⟨hbk, 2, none⟩ = some (.int .i64 D)) (by kernel_rfl) ?_ (fun hHeld => ?_)
                  · (try dsimp only)
                    (first | (go_simp; done) | (go_keep; done))
                  refine tq 0 hHeld ?_
                  refine tq 1 hHeld ?_
                  refine tq 2 hHeld ?_
                  refine tq 3 hHeld ?_
                  refine tq 4 hHeld ?_
                  refine tq 5 hHeld ?_
                  refine tq 6 hHeld ?_
                  refine tq 7 hHeld ?_
                  refine tq 8 hHeld ?_
                  refine tq 9 hHeld ?_
                  refine tq 10 hHeld ?_
                  refine tq 11 hHeld ?_
                  refine tq 12 hHeld ?_
                  refine tq 13 hHeld ?_
                  refine tq 14 hHeld ?_
                  refine wpAnyH_done (by kernel_rfl) ?_ _
                  go_wp2_with fail
                  go_roundw
                  case rel => exact ⟨k + 1, q + 1, by omega, by omega, by go_num, by first | rfl | go_num, HN.out, ⟨hL.fl.dr, hL.fc.dr, hL.bel.drew⟩⟩
                  case measure => simp [intOf]; omega
              · have ei : (U (i * 12 + 8) == 0) = false := by simp [mi]
                have HO : Shut (conOne (colOf U) i k = [(i : Int), (k : Int), X, Y, D]) := by show _ = _; rw [HONE.out, decide_eq_false mi]; rfl
                clear mi
                have HN : Shut ((conOut (colOf U) n i ++ conIn (colOf U) i (k + 1)).length = (q + 1) * 5) := by show _ = _; rw [HIN.out, HO.out, ← List.append_assoc, List.length_append, hq]; simp; omega
                rw [HO.out] at HAT
                have hqN : q < N := by
                  have := hN
                  rw [HAT.out, List.length_append, hq] at this
                  simp at this
                  omega
                have hqi : (q : Int) < (N : Int) := by omega
                have hge : ¬ (N : Int) ≤ (q : Int) := by omega
                have hw1 : IntKind.i64.wrap ((q : Int) + 1) = (q : Int) + 1 := i64w (by omega)
                obtain ⟨b3, o3, e3, _, hc3⟩ := hL.fc (by omega)
                have hg : ∀ j, j < 5 → ofL (conL (colOf U) n) (q * 5 + j) = ofL [(i : Int), (k : Int), X, Y, D] j := fun j hj => by
                  rw [HAT.out, ofL_r (by omega), hq, Nat.add_sub_cancel_left, ofL_l (by simp; omega)]
                have t0 : wc.cell? ⟨b3, o3 + q * 5, none⟩ = some (.int .i64 (i : Int)) := by have z := hc3 (q * 5 + 0) (by omega); rw [hg 0 (by omega)] at z; simpa [Nat.add_assoc, ofL] using z
                have t1 : wc.cell? ⟨b3, o3 + q * 5 + 1, none⟩ = some (.int .i64 (k : Int)) := by have z := hc3 (q * 5 + 1) (by omega); rw [hg 1 (by omega)] at z; simpa [Nat.add_assoc, ofL] using z
                have t2 : wc.cell? ⟨b3, o3 + q * 5 + 2, none⟩ = some (.int .i64 X) := by have z := hc3 (q * 5 + 2) (by omega); rw [hg 2 (by omega)] at z; simpa [Nat.add_assoc, ofL] using z
                have t3 : wc.cell? ⟨b3, o3 + q * 5 + 3, none⟩ = some (.int .i64 Y) := by have z := hc3 (q * 5 + 3) (by omega); rw [hg 3 (by omega)] at z; simpa [Nat.add_assoc, ofL] using z
                have t4 : wc.cell? ⟨b3, o3 + q * 5 + 4, none⟩ = some (.int .i64 D) := by have z := hc3 (q * 5 + 4) (by omega); rw [hg 4 (by omega)] at z; simpa [Nat.add_assoc, ofL] using z
                clear hc3 hg
                subst e3
                have y0 : wc.cell? ⟨hbk, 0, none⟩ = some (.int .i64 X) := hV.c 0 (by decide)
                have y1 : wc.cell? ⟨hbk, 1, none⟩ = some (.int .i64 Y) := hV.c 1 (by decide)
                have y2 : wc.cell? ⟨hbk, 2, none⟩ = some (.int .i64 D) := hV.c 2 (by decide)
                have hev := eq_con0 (i : Int) (k : Int) X Y D
                clear HAT HONE HIN hT
                go_upto_region 16 with fail
                refine wp_region_held_drew (S := fun w' => w'.cell? ⟨b3, o3 + q * 5, none⟩ = some (.int .i64 (i : Int)) ∧ w'.cell? ⟨b3, o3 + q * 5 + 1, none⟩ = some (.int .i64 (k : Int)) ∧ w'.cell? ⟨b3, o3 + q * 5 + 2, none⟩ = some (.int .i64 X) ∧ w'.cell? ⟨b3, o3 + q * 5 + 3, none⟩ = some (.int .i64 Y) ∧ w'.cell? ⟨b3, o3 + q * 5 + 4, none⟩ = some (.int .i64 D) ∧ w'.cell? ⟨hbk, 0, none⟩ = some (.int .i64 X) ∧ w'.cell? ⟨hbk, 1, none⟩ = some (.int .i64 Y) ∧ w'.cell? ⟨hbk, 2, none⟩ = some (.int .i64 D)) (by kernel_rfl) ?_ (fun hHeld => ?_)
                · (try dsimp only)
                  (first | (go_simp; done) | (go_keep; done))
                refine tq 0 hHeld ?_
                refine tq 1 hHeld ?_
                refine tq 2 hHeld ?_
                refine tq 3 hHeld ?_
                refine tq 4 hHeld ?_
                refine tq 5 hHeld ?_
                refine tq 6 hHeld ?_
                refine tq 7 hHeld ?_
                refine tq 8 hHeld ?_
                refine tq 9 hHeld ?_
                refine tq 10 hHeld ?_
                refine tq 11 hHeld ?_
                refine tq 12 hHeld ?_
                refine tq 13 hHeld ?_
                refine tq 14 hHeld ?_
                refine wpAnyH_done (by kernel_rfl) ?_ _
                go_wp2_with fail
                go_roundw
                case rel => exact ⟨k + 1, q + 1, by omega, by omega, by go_num, by first | rfl | go_num, HN.out, ⟨hL.fl.dr, hL.fc.dr, hL.bel.drew⟩⟩
                case measure => simp [intOf]; omega
          · obtain rfl : k = n := by omega
            have HQ : Shut ((conOut (colOf U) k (i + 1)).length = q * 5) := by show _ = _; rw [conOut]; exact hq
            go_wp2_with fail
            go_roundw
            case rel => exact ⟨i + 1, q, by omega, by go_num, rfl, HQ.out, hL⟩
            case measure => simp [intOf]; omega
      · obtain rfl : i = n := by omega
        obtain rfl : q = N := by omega
        have e9 : ((q : Int) == (q : Int)) = true := by simp
        go_wp2_with fail
        go_ret
        exact ⟨rfl, hL.bel⟩
end Go.Proofs.YtkblddegfobpaaaGreat
namespace Go.Proofs.YtkblddegfobpaaaGreat
theorem head_cut {l : List (List Char)} {c : List Char} (h : (l.head? == some c) = true) : ∃ rest, l = c :: rest := by
  cases l with
  | nil => simp at h
  | cons a r => simp at h; exact ⟨r, by rw [h]⟩
theorem strip_cut (rest : List (List Char)) : stripLifts liftWords ("cut".toList :: rest) = ([], "cut".toList :: rest) := by kernel_rfl
theorem make_of {P : Program} {l : List Char} (h0 : P.initOrder.toList = l) (h1 : ((behindMainWord (wordsSigns l)).head? == some "cut".toList) = true) : P.make = some .cut := by
  obtain ⟨rest, hr⟩ := head_cut h1
  unfold Program.make
  rw [h0, hr]
  rfl
theorem headLifts_of {P : Program} {l : List Char} (h0 : P.initOrder.toList = l) (h1 : ((behindMainWord (wordsSigns l)).head? == some "cut".toList) = true) : P.headLifts = [] := by
  obtain ⟨rest, hr⟩ := head_cut h1
  unfold Program.headLifts
  rw [h0, hr, strip_cut]
  rfl
theorem liftsFinal_of {P : Program} {l : List Char} (h0 : P.initOrder.toList = l) (h1 : ((behindMainWord (wordsSigns l)).head? == some "cut".toList) = true) : P.liftsFinal = false := by
  have hh := headLifts_of h0 h1
  obtain ⟨rest, hr⟩ := head_cut h1
  unfold Program.liftsFinal
  rw [h0, hr, hh]
  rfl
theorem mayEnter_of {P : Program} {l : List Char} (h0 : P.initOrder.toList = l) (h1 : ((behindMainWord (wordsSigns l)).head? == some "cut".toList) = true) (h2 : P.laysLater = false) (h3 : P.bearsReflect = false) (h4 : P.doorFits [] = true) : P.mayEnter = true := by
  obtain ⟨rest, hr⟩ := head_cut h1
  unfold Program.mayEnter
  rw [h0, hr]
  simp only [strip_cut, h2, h3, h4]
  simp
end Go.Proofs.YtkblddegfobpaaaGreat
namespace Go.Proofs.YtkblddegfobpaaaGreat
set_option maxRecDepth 100000
def ordL : { l : List Char // Tryz.prog.initOrder = String.ofList l } := ⟨_, rfl⟩
theorem ordT : Tryz.prog.initOrder.toList = ordL.1 := (congrArg String.toList ordL.2).trans String.toList_ofList
theorem headE : ((behindMainWord (wordsSigns ordL.1)).head? == some "cut".toList) = true := by kernel_rfl
theorem makeT : Tryz.prog.make = some .cut := make_of ordT headE
theorem liftsFinalT : Tryz.prog.liftsFinal = false := liftsFinal_of ordT headE
theorem laysLaterT : Tryz.prog.laysLater = false := by kernel_rfl
theorem bearsReflectT : Tryz.prog.bearsReflect = false := by kernel_rfl
theorem doorFitsT : Tryz.prog.doorFits [] = true := by kernel_rfl
theorem mayEnterT : Tryz.prog.mayEnter = true := mayEnter_of ordT headE laysLaterT bearsReflectT doorFitsT
theorem ownT : ownKnob Tryz.prog.godebug = none := by kernel_rfl
theorem laidOutT : laidOutB Tryz.prog = true := by kernel_rfl
theorem mapsRowedT : mapsRowed Tryz.prog = true := by kernel_rfl
theorem stopsHeardT : Tryz.prog.stopsHeard = true := by kernel_rfl
theorem plainKeysT : Tryz.prog.plainKeys = true := by kernel_rfl
end Go.Proofs.YtkblddegfobpaaaGreat
