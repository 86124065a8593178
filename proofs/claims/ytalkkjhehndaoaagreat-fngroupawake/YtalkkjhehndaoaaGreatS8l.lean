/- Texts of a proof. -/
import Derived.Test.YtalkkjhehndaoaaGreatS8o
import Derived.Test.YtalkkjhehndaoaaGreatB17
import Derived.Deep.RegionHeld3
import Derived.Deep.DeepCutAuto
set_option maxHeartbeats 16000000
set_option maxRecDepth 20000
namespace Go.Proofs.YtalkkjhehndaoaaGreat
open Go.RowKit
set_option linter.unusedVariables false
set_option linter.unusedSimpArgs false
theorem pushV_0 (V : Nat → Int) (p q : Int) : pushV V p q 0 = V 0 := by unfold pushV; split <;> rfl
theorem pushV_8 (V : Nat → Int) (p q : Int) : pushV V p q 8 = V 8 := by unfold pushV; split <;> rfl
theorem Bods.one {n : Nat} {U : Nat → Int} (h : Bods n U) {A B : Nat} (hA : A < n) (hB : B < n) (hAB : A ≠ B) (X Y : Int) (bo : Bool) : Bods n (oneU U A B X Y bo) ∧ ∀ i, oneU U A B X Y bo (i * 12 + 8) = U (i * 12 + 8) := by
 unfold oneU
 generalize puX (fun j => U (A * 12 + j)) (fun j => U (B * 12 + j)) X Y bo = p
 generalize puY (fun j => U (A * 12 + j)) (fun j => U (B * 12 + j)) X Y bo = q
 generalize ((p == 0 && q == 0) || !fitsB (fun j => U (A * 12 + j)) (fun j => U (B * 12 + j)) p q) = z
 cases z with
 | true => exact ⟨h, fun i => rfl⟩
 | false =>
  simp only [cond_false]
  have hb0 : putRow U A (pushV (fun j => U (A * 12 + j)) (-p) (-q)) (B * 12) = U (B * 12) := by
   have := putRow_else (U := U) (V := pushV (fun j => U (A * 12 + j)) (-p) (-q)) (k := A) (i := B) (j := 0) (fun e => hAB e.symm) (by omega)
   simpa using this
  have h8 : ∀ i, putRow U A (pushV (fun j => U (A * 12 + j)) (-p) (-q)) (i * 12 + 8) = U (i * 12 + 8) := fun i => putRow_8 (by rw [pushV_8])
  exact ⟨(h.put hA (push_ok (-p) (-q) (h.row hA)) (by rw [pushV_0]; rfl)).put hB (push_ok p q (h.row hB)) (by rw [pushV_0, hb0]; rfl), fun i => (putRow_8 (by rw [pushV_8, h8])).trans (h8 i)⟩
def rndN (C : Nat → Int) (bo : Bool) (U : Nat → Int) : Nat → Nat → Int
 | 0 => U
 | k + 1 => oneU (rndN C bo U k) (C (k * 5)).toNat (C (k * 5 + 1)).toNat (C (k * 5 + 2)) (C (k * 5 + 3)) bo
def allN (C U : Nat → Int) (m : Nat) : Nat → Nat → Int
 | 0 => U
 | r + 1 => rndN C (((r : Nat) : Int) == 0) (allN C U m r) m
theorem Bods.rnd {n m : Nat} {U C : Nat → Int} (h : Bods n U) (hC : CtOk n m C) (bo : Bool) : ∀ k, k ≤ m → Bods n (rndN C bo U k) ∧ ∀ i, rndN C bo U k (i * 12 + 8) = U (i * 12 + 8)
 | 0, _ => ⟨h, fun i => rfl⟩
 | k + 1, hk => by
  obtain ⟨h1, h2⟩ := Bods.rnd h hC bo k (by omega)
  have ha := hC.a k (by omega)
  have hb := hC.b k (by omega)
  have hn := hC.ne k (by omega)
  obtain ⟨q1, q2⟩ := h1.one (A := (C (k * 5)).toNat) (B := (C (k * 5 + 1)).toNat) (by omega) (by omega) (by omega) (C (k * 5 + 2)) (C (k * 5 + 3)) bo
  exact ⟨q1, fun i => (q2 i).trans (h2 i)⟩
theorem Bods.all {n m : Nat} {U C : Nat → Int} (h : Bods n U) (hC : CtOk n m C) : ∀ r, Bods n (allN C U m r) ∧ ∀ i, allN C U m r (i * 12 + 8) = U (i * 12 + 8)
 | 0 => ⟨h, fun i => rfl⟩
 | r + 1 => by
  obtain ⟨h1, h2⟩ := Bods.all h hC r
  obtain ⟨q1, q2⟩ := h1.rnd hC (((r : Nat) : Int) == 0) m (Nat.le_refl _)
  exact ⟨q1, fun i => (q2 i).trans (h2 i)⟩
theorem l8All_any (a : Option Addr) (n c : Nat) (U : Nat → Int) (ac : Option Addr) (m cc : Nat) (C : Nat → Int) (w : World) (h : Flat w a (n * 12) U) (hn : n ≤ 1048576) (hm : m ≤ 1048576) (h2 : Flat w ac (m * 5) C) (hbb : Bods n U) (hC : CtOk n m C) :
 Calls Tryz.prog 82 #[.slice a n c, .slice ac m cc] w fun e w' => ∃ a1 c1, e = .returned (.slice a1 n c1) ∧ OutL w w' 34 12 a1 n c1 (allN C U m 4) := by
 have hset := cset_map
 go_enter Tryz.func82, Tryz.ntmps82
 go_upto_region 1 with fail
 go_cut [5] (fun s0 wc => ∃ a1 c1, s0 = .slice a1 n c1 ∧ OutL w wc 34 12 a1 n c1 U)
 case first =>
  go_wp2_with (go_at_call 99; refine (l8Copy_any a n c U _ h hn).mono ?_; rintro e w3 ⟨a1, c1, rfl, hO⟩)
  go_meet
  exact ⟨_, _, rfl, hO⟩
 case rest =>
 obtain ⟨a1, c1, rfl, hO⟩ := hcut
 go_upto_region 3 with fail
 go_loopw [6, 7] (fun s _ wr => ∃ r : Nat, r ≤ 4 ∧ s = .int .i64 (r : Int) ∧ OutL w wr 34 12 a1 n c1 (allN C U m r)) (fun s _ _ => 4 - (intOf s).toNat)
 case atStart => exact ⟨0, Nat.zero_le _, rfl, hO⟩
 case round =>
  clear hO
  obtain ⟨r, hr, rfl, hO⟩ := hrel
  by_cases hlr : r < 4
  · have hr4 : (r : Int) < 4 := by omega
    have hB0 := (hbb.all hC r).1
    have HAL : Shut (allN C U m (r + 1) = rndN C (((r : Nat) : Int) == 0) (allN C U m r) m) := by show _ = _; rw [allN]
    obtain ⟨bo, hbo⟩ : ∃ b, ((r : Int) == 0) = b := ⟨_, rfl⟩
    rw [hbo] at HAL
    generalize allN C U m r = X at hO hB0 HAL
    go_upto_region 6 with fail
    go_loopw [7] (fun s wq => ∃ k : Nat, k ≤ m ∧ s = .int .i64 (k : Int) ∧ OutL w wq 34 12 a1 n c1 (rndN C bo X k)) (fun s _ => m - (intOf s).toNat)
    case atStart => exact ⟨0, Nat.zero_le _, rfl, hO⟩
    case round =>
     clear hO
     obtain ⟨k, hk, rfl, hO⟩ := hrel
     by_cases hlt : k < m
     · have hkm : (k : Int) < (m : Int) := by omega
       have ca := hC.a k hlt
       have cb := hC.b k hlt
       have cx := hC.x k hlt
       have cy := hC.y k hlt
       have cn := hC.ne k hlt
       have hB := (hB0.rnd hC bo k hk).1
       obtain ⟨b2, o2, e2, hbl2, hc2⟩ := (h2.below hO.bel) (by omega)
       have r0 := hc2 (k * 5) (by omega)
       have r1 := hc2 (k * 5 + 1) (by omega)
       have r2 := hc2 (k * 5 + 2) (by omega)
       have r3 := hc2 (k * 5 + 3) (by omega)
       have r4 := hc2 (k * 5 + 4) (by omega)
       simp only [← Nat.add_assoc] at r0 r1 r2 r3 r4
       clear hc2
       subst e2
       have HN : Shut (rndN C bo X (k + 1) = oneU (rndN C bo X k) (C (k * 5)).toNat (C (k * 5 + 1)).toNat (C (k * 5 + 2)) (C (k * 5 + 3)) bo) := by show _ = _; rw [rndN]
       obtain ⟨A, hA⟩ : ∃ A : Nat, C (k * 5) = (A : Int) := ⟨(C (k * 5)).toNat, by omega⟩
       obtain ⟨B, hBB⟩ : ∃ B : Nat, C (k * 5 + 1) = (B : Int) := ⟨(C (k * 5 + 1)).toNat, by omega⟩
       rw [hA, hBB, Int.toNat_natCast, Int.toNat_natCast] at HN
       rw [hA] at ca r0 cn
       rw [hBB] at cb r1 cn
       clear hA hBB
       have hAB : A ≠ B := fun e => cn (by rw [e])
       clear cn
       obtain ⟨g, rfl, hg1, hg2⟩ := hO.own.loc (by omega)
       go_wp2_with (go_at_call 100; refine (l8One_any w.heap.size g n c1 (rndN C bo X k) A B _ _ _ bo _ hO.own hn (by omega) (by omega) hAB hB cx cy).mono ?_; rintro e w5 ⟨rfl, ho5, hf5⟩)
       have hB5 : Below w.heap.size w w5 := hO.bel.trans (hf5.below (by have := hO.bel.size; omega) (fun b e => by omega))
       go_roundw
       case rel => exact ⟨k + 1, by omega, by go_num, hB5, by rw [HN.out]; exact ho5⟩
       case measure => simp [intOf]; omega
     · obtain rfl : k = m := by omega
       go_wp2_with fail
       go_roundw
       case rel => exact ⟨r + 1, by omega, by go_num, by rw [HAL.out]; exact hO⟩
       case measure => simp [intOf]; omega
  · obtain rfl : r = 4 := by omega
    go_wp2_with fail
    go_ret
    exact ⟨_, _, rfl, hO⟩
end Go.Proofs.YtalkkjhehndaoaaGreat
