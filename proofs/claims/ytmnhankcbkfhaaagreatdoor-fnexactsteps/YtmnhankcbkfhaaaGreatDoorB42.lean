/- Texts of a proof. -/
import Derived.Test.YtmnhankcbkfhaaaGreatDoorB23
import Derived.Test.YtmnhankcbkfhaaaGreatDoorB27
import Derived.Test.YtmnhankcbkfhaaaGreatDoorS9p
import Derived.Test.YtmnhankcbkfhaaaGreatDoorB31
import Derived.Deep.RegionHeld3
import Derived.Deep.DeepCutAuto
import Derived.Test.YtmnhankcbkfhaaaGreatDoorB34
import Derived.Test.YtmnhankcbkfhaaaGreatDoorB41
set_option maxHeartbeats 16000000
set_option maxRecDepth 20000
namespace Go.Proofs.YtmnhankcbkfhaaaGreatDoor
open Go.RowKit
set_option linter.unusedVariables false
set_option linter.unusedSimpArgs false
theorem wake_ok {V : Nat → Int} (b : Bool) (h : BOk V) : BOk (wakeV b V) := by
 unfold wakeV
 cases hl : (b && decide (8 ≤ V 11)) with
 | false => exact h
 | true =>
  simp only [Bool.and_eq_true, decide_eq_true_eq] at hl
  obtain ⟨a0, a1, a2, a3, a4, a5, a6, a7, a8, a9, b0, b1⟩ := h
  have m8 : V 8 ≠ 0 := fun e => by have := b0 e; omega
  show BOk (setV V 11 0)
  have e : ∀ j, j ≠ 11 → setV V 11 0 j = V j := fun j hj => setV_ne hj
  have eb : setV V 11 0 11 = 0 := setV_eq
  generalize setV V 11 0 = W at e eb
  have w0 := e 0 (by decide)
  have w1 := e 1 (by decide)
  have w2 := e 2 (by decide)
  have w3 := e 3 (by decide)
  have w4 := e 4 (by decide)
  have w5 := e 5 (by decide)
  have w6 := e 6 (by decide)
  have w7 := e 7 (by decide)
  have w8 := e 8 (by decide)
  have w9 := e 9 (by decide)
  have wa := e 10 (by decide)
  exact ⟨by rw [w0]; exact a0, by rw [w1, w2, w3]; exact a1, by rw [w4]; exact a2, by rw [w5]; exact a3, by rw [w6]; exact a4, by rw [w7]; exact a5, by rw [w8]; exact a6, by rw [w9]; exact a7, by rw [wa]; exact a8, by rw [eb]; omega, by rw [eb]; exact fun _ => rfl, .inl ⟨by rw [w8]; exact m8, by rw [eb]; decide⟩⟩
theorem sl_ok {V : Nat → Int} (h : BOk V) (m8 : V 8 ≠ 0) : BOk (slV V) := by
 obtain ⟨a0, a1, a2, a3, a4, a5, a6, a7, a8, a9, b0, b1⟩ := h
 have e : ∀ j, j ≠ 7 → j ≠ 6 → j ≠ 11 → slV V j = V j := fun j h1 h2 h3 => by unfold slV; rw [if_neg h1, if_neg h2, if_neg h3]
 have e7 : slV V 7 = 0 := rfl
 have e6 : slV V 6 = 0 := rfl
 have eb : slV V 11 = 8 := rfl
 generalize slV V = W at e e7 e6 eb
 have w0 := e 0 (by decide) (by decide) (by decide)
 have w1 := e 1 (by decide) (by decide) (by decide)
 have w2 := e 2 (by decide) (by decide) (by decide)
 have w3 := e 3 (by decide) (by decide) (by decide)
 have w4 := e 4 (by decide) (by decide) (by decide)
 have w5 := e 5 (by decide) (by decide) (by decide)
 have w8 := e 8 (by decide) (by decide) (by decide)
 have w9 := e 9 (by decide) (by decide) (by decide)
 have wa := e 10 (by decide) (by decide) (by decide)
 exact ⟨by rw [w0]; exact a0, by rw [w1, w2, w3]; exact a1, by rw [w4]; exact a2, by rw [w5]; exact a3, by rw [e6]; omega, by rw [e7]; omega, by rw [w8]; exact a6, by rw [w9]; exact a7, by rw [wa]; exact a8, by rw [eb]; omega, by rw [w8]; exact fun q => absurd q m8, .inr ⟨e6, e7⟩⟩
theorem Bods.wake {n : Nat} {U G : Nat → Int} {A : Nat → Bool} (h : Bods n U) : Bods n (mapR (fun i V => wakeV (awK G A i) V) U n) :=
 h.map (fun k hk => (wake_ok _ (h.row hk)).to) (fun k hk => by show wakeV _ (fun j => U (k * 12 + j)) 0 = _; unfold wakeV; cases (awK G A k && decide (8 ≤ (fun j => U (k * 12 + j)) 11)) <;> rfl)
theorem slF_8 (G : Nat → Int) (g i : Nat) (V : Nat → Int) : slF G g i V 8 = V 8 := by unfold slF; cases decide (G i = (g : Int)) <;> rfl
theorem Bods.sleepS {n : Nat} {U G : Nat → Int} {A : Nat → Bool} (h : Bods n U) (hG : ∀ k, k < n → 0 ≤ G k → U (k * 12 + 8) ≠ 0) (g : Nat) : Bods n (sleepS G A n g U) ∧ ∀ k, k < n → sleepS G A n g U (k * 12 + 8) = U (k * 12 + 8) := by
 unfold Go.Proofs.YtmnhankcbkfhaaaGreatDoor.sleepS
 cases (A g && allQ G U g n) with
 | false => exact ⟨h, fun k hk => rfl⟩
 | true =>
  refine ⟨h.map (fun k hk => ?_) (fun k hk => ?_), fun k hk => (mapR_in hk (by omega)).trans (slF_8 G g k _)⟩
  · unfold slF
    by_cases e : G k = (g : Int)
    · rw [decide_eq_true e]; exact (sl_ok (h.row hk) (hG k hk (by omega))).to
    · rw [decide_eq_false e]; exact h.ok k hk
  · unfold slF; cases decide (G k = (g : Int)) <;> rfl
theorem Bods.sleep {n : Nat} {U G : Nat → Int} {A : Nat → Bool} (h : Bods n U) (hG : ∀ k, k < n → 0 ≤ G k → U (k * 12 + 8) ≠ 0) : ∀ g, Bods n (sleepN G A n U g) ∧ ∀ k, k < n → sleepN G A n U g (k * 12 + 8) = U (k * 12 + 8)
 | 0 => ⟨h, fun k hk => rfl⟩
 | g + 1 => by
  obtain ⟨h1, h2⟩ := Bods.sleep h hG g
  obtain ⟨q1, q2⟩ := Bods.sleepS (A := A) h1 (fun k hk h0 => by rw [h2 k hk]; exact hG k hk h0) g
  exact ⟨q1, fun k hk => (q2 k hk).trans (h2 k hk)⟩
def rowU (U : Nat → Int) (z : Int) : Nat → Int := fun j => U (z.toNat * 12 + j)
def liveC (U C : Nat → Int) (k : Nat) : Bool := liveV (rowU U (C (k * 5))) || liveV (rowU U (C (k * 5 + 1)))
def liveL (U C : Nat → Int) : Nat → List Int
 | 0 => []
 | k + 1 => liveL U C k ++ (if liveC U C k = true then [C (k * 5), C (k * 5 + 1), C (k * 5 + 2), C (k * 5 + 3), C (k * 5 + 4)] else [])
theorem liveL_yes {U C : Nat → Int} {k : Nat} (h : liveC U C k = true) : liveL U C (k + 1) = liveL U C k ++ [C (k * 5), C (k * 5 + 1), C (k * 5 + 2), C (k * 5 + 3), C (k * 5 + 4)] := by rw [liveL, if_pos h]
theorem liveL_no {U C : Nat → Int} {k : Nat} (h : liveC U C k = false) : liveL U C (k + 1) = liveL U C k := by rw [liveL, if_neg (by rw [h]; decide), List.append_nil]
theorem liveL_len (U C : Nat → Int) : ∀ k, (liveL U C k).length ≤ k * 5
 | 0 => by simp [liveL]
 | k + 1 => by
  have := liveL_len U C k
  cases h : liveC U C k with
  | true => rw [liveL_yes h, List.length_append]; simp; omega
  | false => rw [liveL_no h]; omega
abbrev zcCon : Value := .agg #[.int .i64 0, .int .i64 0, .int .i64 0, .int .i64 0, .int .i64 0]
theorem infoCon : (Tryz.prog.info? 85).map (fun i => (i.zero, i.size, i.bytes)) = some (some zcCon, 5, 40) := by kernel_rfl
theorem flatC (w : World) (p q r s u : Int) (t : TypeId) : Flat (w.alloc (Obj.cells #[.int .i64 p, .int .i64 q, .int .i64 r, .int .i64 s, .int .i64 u] t)) (some ⟨w.heap.size, 0, none⟩) (1 * 5) (ofL [p, q, r, s, u]) := by
 intro _
 refine ⟨w.heap.size, 0, rfl, by simp, fun j hj => ?_⟩
 rw [Nat.zero_add]
 rcases (show j = 0 ∨ j = 1 ∨ j = 2 ∨ j = 3 ∨ j = 4 by omega) with rfl | rfl | rfl | rfl | rfl <;> (simp only [ofL]; go_simp; (try rfl))
theorem l9Live_any (a : Option Addr) (n c : Nat) (U : Nat → Int) (ac : Option Addr) (m cc : Nat) (C : Nat → Int) (w : World) (h : Flat w a (n * 12) U) (hn : n ≤ 1048576) (hm : m ≤ 1048576) (h2 : Flat w ac (m * 5) C) (hC : ∀ k, k < m → (0 ≤ C (k * 5) ∧ C (k * 5) < (n : Int)) ∧ (0 ≤ C (k * 5 + 1) ∧ C (k * 5 + 1) < (n : Int))) :
 Calls Tryz.prog 27 #[.slice a n c, .slice ac m cc] w fun e w' => ∃ a1 m1 c1, e = .returned (.slice a1 m1 c1) ∧ (liveL U C m).length = m1 * 5 ∧ OutL w w' 85 5 a1 m1 c1 (ofL (liveL U C m)) := by
 have hset := cset_map
 go_enter Tryz.func27, Tryz.ntmps27
 go_wp2_with fail
 go_loopw [5, 6, 7, 8] (fun s5 s6 _ _ wr => ∃ (k : Nat) (a1 : Option Addr) (m1 c1 : Nat), k ≤ m ∧ s6 = .int .i64 (k : Int) ∧ s5 = .slice a1 m1 c1 ∧ LsV w wr 85 5 a1 m1 c1 (liveL U C k)) (fun _ s6 _ _ _ => m - (intOf s6).toNat)
 case atStart => exact ⟨0, _, _, _, Nat.zero_le _, rfl, rfl, LsV.new w _ _⟩
 case round =>
  obtain ⟨k, a1, m1, c1, hk, rfl, rfl, hL⟩ := hrel
  by_cases hlt : k < m
  · have hkm : (k : Int) < (m : Int) := by omega
    obtain ⟨⟨cA0, cA1⟩, ⟨cB0, cB1⟩⟩ := hC k hlt
    obtain ⟨b2, o2, e2, hbl2, hc2⟩ := (h2.below hL.bel) (by omega)
    have r0 := hc2 (k * 5) (by omega)
    have r1 := hc2 (k * 5 + 1) (by omega)
    have r2 := hc2 (k * 5 + 2) (by omega)
    have r3 := hc2 (k * 5 + 3) (by omega)
    have r4 := hc2 (k * 5 + 4) (by omega)
    simp only [← Nat.add_assoc] at r0 r1 r2 r3 r4
    clear hc2
    subst e2
    obtain ⟨LV, hLVe⟩ : ∃ b, liveC U C k = b := ⟨_, rfl⟩
    have hLV : Shut (liveC U C k = LV) := hLVe
    clear hLVe
    obtain ⟨zA, hzAe⟩ : ∃ z, C (k * 5) = z := ⟨_, rfl⟩
    obtain ⟨zB, hzBe⟩ : ∃ z, C (k * 5 + 1) = z := ⟨_, rfl⟩
    rw [hzAe] at r0 cA0 cA1
    rw [hzBe] at r1 cB0 cB1
    have hzA : Shut (C (k * 5) = zA) := hzAe
    have hzB : Shut (C (k * 5 + 1) = zB) := hzBe
    clear hzAe hzBe
    obtain ⟨b, o, e1, hbl, hc⟩ := (h.below hL.bel) (by omega)
    have p0 := hc (zA.toNat * 12) (by omega)
    have p1 := hc (zA.toNat * 12 + 1) (by omega)
    have p2 := hc (zA.toNat * 12 + 2) (by omega)
    have p3 := hc (zA.toNat * 12 + 3) (by omega)
    have p4 := hc (zA.toNat * 12 + 4) (by omega)
    have p5 := hc (zA.toNat * 12 + 5) (by omega)
    have p6 := hc (zA.toNat * 12 + 6) (by omega)
    have p7 := hc (zA.toNat * 12 + 7) (by omega)
    have p8 := hc (zA.toNat * 12 + 8) (by omega)
    have p9 := hc (zA.toNat * 12 + 9) (by omega)
    have p10 := hc (zA.toNat * 12 + 10) (by omega)
    have p11 := hc (zA.toNat * 12 + 11) (by omega)
    have q0 := hc (zB.toNat * 12) (by omega)
    have q1 := hc (zB.toNat * 12 + 1) (by omega)
    have q2 := hc (zB.toNat * 12 + 2) (by omega)
    have q3 := hc (zB.toNat * 12 + 3) (by omega)
    have q4 := hc (zB.toNat * 12 + 4) (by omega)
    have q5 := hc (zB.toNat * 12 + 5) (by omega)
    have q6 := hc (zB.toNat * 12 + 6) (by omega)
    have q7 := hc (zB.toNat * 12 + 7) (by omega)
    have q8 := hc (zB.toNat * 12 + 8) (by omega)
    have q9 := hc (zB.toNat * 12 + 9) (by omega)
    have q10 := hc (zB.toNat * 12 + 10) (by omega)
    have q11 := hc (zB.toNat * 12 + 11) (by omega)
    simp only [← Nat.add_assoc] at p0 q0 p1 q1 p2 q2 p3 q3 p4 q4 p5 q5 p6 q6 p7 q7 p8 q8 p9 q9 p10 q10 p11 q11
    clear hc
    subst e1
    go_upto_region 7 with fail
    obtain ⟨wa, hwa⟩ : ∃ x, (wr.alloc (Obj.cells #[.int .i64 (U (zA.toNat * 12)), .int .i64 (U (zA.toNat * 12 + 1)), .int .i64 (U (zA.toNat * 12 + 2)), .int .i64 (U (zA.toNat * 12 + 3)), .int .i64 (U (zA.toNat * 12 + 4)), .int .i64 (U (zA.toNat * 12 + 5)), .int .i64 (U (zA.toNat * 12 + 6)), .int .i64 (U (zA.toNat * 12 + 7)), .int .i64 (U (zA.toNat * 12 + 8)), .int .i64 (U (zA.toNat * 12 + 9)), .int .i64 (U (zA.toNat * 12 + 10)), .int .i64 (U (zA.toNat * 12 + 11))] 39)) = x := ⟨_, rfl⟩
    obtain ⟨wx, hwx⟩ : ∃ x, wa.alloc (Obj.cells #[.int .i64 (U (zB.toNat * 12)), .int .i64 (U (zB.toNat * 12 + 1)), .int .i64 (U (zB.toNat * 12 + 2)), .int .i64 (U (zB.toNat * 12 + 3)), .int .i64 (U (zB.toNat * 12 + 4)), .int .i64 (U (zB.toNat * 12 + 5)), .int .i64 (U (zB.toNat * 12 + 6)), .int .i64 (U (zB.toNat * 12 + 7)), .int .i64 (U (zB.toNat * 12 + 8)), .int .i64 (U (zB.toNat * 12 + 9)), .int .i64 (U (zB.toNat * 12 + 10)), .int .i64 (U (zB.toNat * 12 + 11))] 39) = x := ⟨_, rfl⟩
    have hE1 : Below wr.heap.size wr wa := by rw [← hwa]; exact (Below.refl _ _).alloc (Nat.le_refl _) _
    have hE2 : Below wa.heap.size wa wx := by rw [← hwx]; exact (Below.refl _ _).alloc (Nat.le_refl _) _
    have hL2 := (hL.below hE1).below hE2
    have x0A : wx.cell? ⟨wr.heap.size, 0, none⟩ = some (.int .i64 (U (zA.toNat * 12))) := by subst hwx hwa; go_simp
    have x1A : wx.cell? ⟨wr.heap.size, 1, none⟩ = some (.int .i64 (U (zA.toNat * 12 + 1))) := by subst hwx hwa; go_simp
    have x2A : wx.cell? ⟨wr.heap.size, 2, none⟩ = some (.int .i64 (U (zA.toNat * 12 + 2))) := by subst hwx hwa; go_simp
    have x3A : wx.cell? ⟨wr.heap.size, 3, none⟩ = some (.int .i64 (U (zA.toNat * 12 + 3))) := by subst hwx hwa; go_simp
    have x4A : wx.cell? ⟨wr.heap.size, 4, none⟩ = some (.int .i64 (U (zA.toNat * 12 + 4))) := by subst hwx hwa; go_simp
    have x5A : wx.cell? ⟨wr.heap.size, 5, none⟩ = some (.int .i64 (U (zA.toNat * 12 + 5))) := by subst hwx hwa; go_simp
    have x6A : wx.cell? ⟨wr.heap.size, 6, none⟩ = some (.int .i64 (U (zA.toNat * 12 + 6))) := by subst hwx hwa; go_simp
    have x7A : wx.cell? ⟨wr.heap.size, 7, none⟩ = some (.int .i64 (U (zA.toNat * 12 + 7))) := by subst hwx hwa; go_simp
    have x8A : wx.cell? ⟨wr.heap.size, 8, none⟩ = some (.int .i64 (U (zA.toNat * 12 + 8))) := by subst hwx hwa; go_simp
    have x9A : wx.cell? ⟨wr.heap.size, 9, none⟩ = some (.int .i64 (U (zA.toNat * 12 + 9))) := by subst hwx hwa; go_simp
    have x10A : wx.cell? ⟨wr.heap.size, 10, none⟩ = some (.int .i64 (U (zA.toNat * 12 + 10))) := by subst hwx hwa; go_simp
    have x11A : wx.cell? ⟨wr.heap.size, 11, none⟩ = some (.int .i64 (U (zA.toNat * 12 + 11))) := by subst hwx hwa; go_simp
    have x0B : wx.cell? ⟨wr.heap.size + 1, 0, none⟩ = some (.int .i64 (U (zB.toNat * 12))) := by subst hwx hwa; go_simp
    have x1B : wx.cell? ⟨wr.heap.size + 1, 1, none⟩ = some (.int .i64 (U (zB.toNat * 12 + 1))) := by subst hwx hwa; go_simp
    have x2B : wx.cell? ⟨wr.heap.size + 1, 2, none⟩ = some (.int .i64 (U (zB.toNat * 12 + 2))) := by subst hwx hwa; go_simp
    have x3B : wx.cell? ⟨wr.heap.size + 1, 3, none⟩ = some (.int .i64 (U (zB.toNat * 12 + 3))) := by subst hwx hwa; go_simp
    have x4B : wx.cell? ⟨wr.heap.size + 1, 4, none⟩ = some (.int .i64 (U (zB.toNat * 12 + 4))) := by subst hwx hwa; go_simp
    have x5B : wx.cell? ⟨wr.heap.size + 1, 5, none⟩ = some (.int .i64 (U (zB.toNat * 12 + 5))) := by subst hwx hwa; go_simp
    have x6B : wx.cell? ⟨wr.heap.size + 1, 6, none⟩ = some (.int .i64 (U (zB.toNat * 12 + 6))) := by subst hwx hwa; go_simp
    have x7B : wx.cell? ⟨wr.heap.size + 1, 7, none⟩ = some (.int .i64 (U (zB.toNat * 12 + 7))) := by subst hwx hwa; go_simp
    have x8B : wx.cell? ⟨wr.heap.size + 1, 8, none⟩ = some (.int .i64 (U (zB.toNat * 12 + 8))) := by subst hwx hwa; go_simp
    have x9B : wx.cell? ⟨wr.heap.size + 1, 9, none⟩ = some (.int .i64 (U (zB.toNat * 12 + 9))) := by subst hwx hwa; go_simp
    have x10B : wx.cell? ⟨wr.heap.size + 1, 10, none⟩ = some (.int .i64 (U (zB.toNat * 12 + 10))) := by subst hwx hwa; go_simp
    have x11B : wx.cell? ⟨wr.heap.size + 1, 11, none⟩ = some (.int .i64 (U (zB.toNat * 12 + 11))) := by subst hwx hwa; go_simp
    have hla : wr.heap.size < wx.heap.size := by subst hwx hwa; simp; omega
    have hlb : wr.heap.size + 1 < wx.heap.size := by subst hwx hwa; simp
    have hrk : ∀ j, j < 5 → wx.cell? ⟨b2, o2 + (k * 5 + j), none⟩ = wr.cell? ⟨b2, o2 + (k * 5 + j), none⟩ := fun j hj => by subst hwx hwa; go_simp
    rw [hwa, hwx]
    clear hwx hwa
    generalize wr.heap.size + 1 = bb at hlb x0B x1B x2B x3B x4B x5B x6B x7B x8B x9B x10B x11B ⊢
    clear hL p0 q0 p1 q1 p2 q2 p3 q3 p4 q4 p5 q5 p6 q6 p7 q7 p8 q8 p9 q9 p10 q10 p11 q11 r0 r1 r2 r3 r4 hrk hE2
    generalize wr.heap.size = ba at hla hE1 x0A x1A x2A x3A x4A x5A x6A x7A x8A x9A x10A x11A ⊢
    clear hE1
    obtain ⟨SA, hSA⟩ : ∃ b, decide (8 ≤ (rowU U zA) 11) = b := ⟨_, rfl⟩
    obtain ⟨SB, hSB⟩ : ∃ b, decide (8 ≤ (rowU U zB) 11) = b := ⟨_, rfl⟩
    go_cut [49] (fun s wc => s = .bool LV ∧ LsV w wc 85 5 a1 m1 c1 (liveL U C k))
    case first =>
     by_cases hmA : 0 < U (zA.toNat * 12 + 8)
     · cases SA with
       | false =>
        have LA : Shut (liveV (rowU U zA) = true) := live_t (V := rowU U zA) hmA hSA
        go_wp2_with (go_at_call 49; refine (l6Sleeps_k (rowU U zA) _ false hSA).mono ?_; rintro e w7 ⟨rfl, hb7⟩)
        go_meet
        exact ⟨by rw [← hLV.out]; unfold liveC; rw [hzA.out, hzB.out, LA.out]; rfl, (hL2.below hb7)⟩
       | true =>
        have LA : Shut (liveV (rowU U zA) = false) := live_s hSA
        by_cases hmB : 0 < U (zB.toNat * 12 + 8)
        · cases SB with
          | true =>
           have LB : Shut (liveV (rowU U zB) = false) := live_s hSB
           go_wp2_with (first
            | (have _ := hb7; go_at_call 49; refine (l6Sleeps_k (rowU U zB) _ true hSB).mono ?_; rintro e w8 ⟨rfl, hb8⟩)
            | (go_at_call 49; refine (l6Sleeps_k (rowU U zA) _ true hSA).mono ?_; rintro e w7 ⟨rfl, hb7⟩; obtain ⟨hc7, hf7⟩ := bcell hb7; have y0 := (hc7 bb 0 hlb).trans x0B; have y1 := (hc7 bb 1 hlb).trans x1B; have y2 := (hc7 bb 2 hlb).trans x2B; have y3 := (hc7 bb 3 hlb).trans x3B; have y4 := (hc7 bb 4 hlb).trans x4B; have y5 := (hc7 bb 5 hlb).trans x5B; have y6 := (hc7 bb 6 hlb).trans x6B; have y7 := (hc7 bb 7 hlb).trans x7B; have y8 := (hc7 bb 8 hlb).trans x8B; have y9 := (hc7 bb 9 hlb).trans x9B; have y10 := (hc7 bb 10 hlb).trans x10B; have y11 := (hc7 bb 11 hlb).trans x11B; clear hc7 hf7))
           go_meet
           exact ⟨by rw [← hLV.out]; unfold liveC; rw [hzA.out, hzB.out, LA.out, LB.out]; rfl, ((hL2.below hb7).below hb8)⟩
          | false =>
           have LB : Shut (liveV (rowU U zB) = true) := live_t (V := rowU U zB) hmB hSB
           go_wp2_with (first
            | (have _ := hb7; go_at_call 49; refine (l6Sleeps_k (rowU U zB) _ false hSB).mono ?_; rintro e w8 ⟨rfl, hb8⟩)
            | (go_at_call 49; refine (l6Sleeps_k (rowU U zA) _ true hSA).mono ?_; rintro e w7 ⟨rfl, hb7⟩; obtain ⟨hc7, hf7⟩ := bcell hb7; have y0 := (hc7 bb 0 hlb).trans x0B; have y1 := (hc7 bb 1 hlb).trans x1B; have y2 := (hc7 bb 2 hlb).trans x2B; have y3 := (hc7 bb 3 hlb).trans x3B; have y4 := (hc7 bb 4 hlb).trans x4B; have y5 := (hc7 bb 5 hlb).trans x5B; have y6 := (hc7 bb 6 hlb).trans x6B; have y7 := (hc7 bb 7 hlb).trans x7B; have y8 := (hc7 bb 8 hlb).trans x8B; have y9 := (hc7 bb 9 hlb).trans x9B; have y10 := (hc7 bb 10 hlb).trans x10B; have y11 := (hc7 bb 11 hlb).trans x11B; clear hc7 hf7))
           go_meet
           exact ⟨by rw [← hLV.out]; unfold liveC; rw [hzA.out, hzB.out, LA.out, LB.out]; rfl, ((hL2.below hb7).below hb8)⟩
        · have LB : Shut (liveV (rowU U zB) = false) := live_m (V := rowU U zB) hmB
          go_wp2_with (go_at_call 49; refine (l6Sleeps_k (rowU U zA) _ true hSA).mono ?_; rintro e w7 ⟨rfl, hb7⟩; obtain ⟨hc7, hf7⟩ := bcell hb7; have y0 := (hc7 bb 0 hlb).trans x0B; have y1 := (hc7 bb 1 hlb).trans x1B; have y2 := (hc7 bb 2 hlb).trans x2B; have y3 := (hc7 bb 3 hlb).trans x3B; have y4 := (hc7 bb 4 hlb).trans x4B; have y5 := (hc7 bb 5 hlb).trans x5B; have y6 := (hc7 bb 6 hlb).trans x6B; have y7 := (hc7 bb 7 hlb).trans x7B; have y8 := (hc7 bb 8 hlb).trans x8B; have y9 := (hc7 bb 9 hlb).trans x9B; have y10 := (hc7 bb 10 hlb).trans x10B; have y11 := (hc7 bb 11 hlb).trans x11B; clear hc7 hf7)
          go_meet
          exact ⟨by rw [← hLV.out]; unfold liveC; rw [hzA.out, hzB.out, LA.out, LB.out]; rfl, (hL2.below hb7)⟩
     · have LA : Shut (liveV (rowU U zA) = false) := live_m (V := rowU U zA) hmA
       by_cases hmB : 0 < U (zB.toNat * 12 + 8)
       · cases SB with
         | true =>
          have LB : Shut (liveV (rowU U zB) = false) := live_s hSB
          go_wp2_with (go_at_call 49; refine (l6Sleeps_k (rowU U zB) _ true hSB).mono ?_; rintro e w8 ⟨rfl, hb8⟩)
          go_meet
          exact ⟨by rw [← hLV.out]; unfold liveC; rw [hzA.out, hzB.out, LA.out, LB.out]; rfl, (hL2.below hb8)⟩
         | false =>
          have LB : Shut (liveV (rowU U zB) = true) := live_t (V := rowU U zB) hmB hSB
          go_wp2_with (go_at_call 49; refine (l6Sleeps_k (rowU U zB) _ false hSB).mono ?_; rintro e w8 ⟨rfl, hb8⟩)
          go_meet
          exact ⟨by rw [← hLV.out]; unfold liveC; rw [hzA.out, hzB.out, LA.out, LB.out]; rfl, (hL2.below hb8)⟩
       · have LB : Shut (liveV (rowU U zB) = false) := live_m (V := rowU U zB) hmB
         go_wp2_with fail
         go_meet
         exact ⟨by rw [← hLV.out]; unfold liveC; rw [hzA.out, hzB.out, LA.out, LB.out]; rfl, hL2⟩
    case rest =>
    clear hL2 hla hlb hSA hSB x0A x0B x1A x1B x2A x2B x3A x3B x4A x4B x5A x5B x6A x6B x7A x7B x8A x8B x9A x9B x10A x10B x11A x11B
    obtain ⟨rfl, hL⟩ := hcut
    cases LV with
    | false =>
     have HNO : Shut (liveL U C (k + 1) = liveL U C k) := liveL_no hLV.out
     go_wp2_with fail
     go_roundw
     case rel => exact ⟨k + 1, _, _, _, by omega, by go_num, rfl, by rw [HNO.out]; exact hL⟩
     case measure => simp [intOf]; omega
    | true =>
     have HYE : Shut (liveL U C (k + 1) = liveL U C k ++ [zA, zB, C (k * 5 + 2), C (k * 5 + 3), C (k * 5 + 4)]) := by show _ = _; rw [liveL_yes hLV.out, hzA.out, hzB.out]
     obtain ⟨b2', o2', e2, hbl2', hc2⟩ := (h2.below hL.bel) (by omega)
     simp only [Option.some.injEq, Addr.mk.injEq, and_true] at e2
     obtain ⟨rfl, rfl⟩ := e2
     have r0 := hc2 (k * 5) (by omega)
     have r1 := hc2 (k * 5 + 1) (by omega)
     have r2 := hc2 (k * 5 + 2) (by omega)
     have r3 := hc2 (k * 5 + 3) (by omega)
     have r4 := hc2 (k * 5 + 4) (by omega)
     simp only [← Nat.add_assoc] at r0 r1 r2 r3 r4
     rw [hzA.out] at r0
     rw [hzB.out] at r1
     clear hc2
     have hle := liveL_len U C k
     have hlen := hL.len
     have hwz := hL.bel.size
     go_wp2_with (refine wpList_app rfl _ _ _ rfl w.heap.size 85 5 40 zcCon Tryz.underlying53 infoCon rfl (by decide) (.slice a1 m1 c1) m1 (ofL (liveL U C k)) rfl (hL.below ((Below.refl _ _).alloc (Nat.le_refl _) _)).own _ 1 _ (ofL [zA, zB, C (k * 5 + 2), C (k * 5 + 3), C (k * 5 + 4)]) rfl (flatC _ _ _ _ _ _ _) (by unfold maxLen; omega) (by omega) (by simp only [World.size_alloc]; omega) ?_; intro a3 c3 w3 ho3 hg3)
     have hP := (hL.below ((Below.refl _ _).alloc (Nat.le_refl _) _)).push (x := [zA, zB, C (k * 5 + 2), C (k * 5 + 3), C (k * 5 + 4)]) rfl hg3 ho3
     go_roundw
     case rel => exact ⟨k + 1, _, _, _, by omega, by go_num, rfl, by rw [HYE.out]; exact hP⟩
     case measure => simp [intOf]; omega
  · obtain rfl : k = m := by omega
    go_wp2_with fail
    go_ret
    exact ⟨_, _, _, rfl, hL.len, hL.out (Below.refl _ _)⟩
def valN (U G : Nat → Int) (i : Nat) : Int :=
 bif decide (U (i * 12 + 8) = 0) then -1 else bif decide (atOf (numS U G i).2 (G i) (numS U G i).2.length < 0) then ((numS U G i).2.length : Int) else atOf (numS U G i).2 (G i) (numS U G i).2.length
theorem numS_1 (U G : Nat → Int) (i : Nat) : (numS U G (i + 1)).1 = (numS U G i).1 ++ [valN U G i] := by
 unfold valN
 by_cases h : U (i * 12 + 8) = 0
 · rw [numS_z h, decide_eq_true h]; rfl
 · rw [decide_eq_false h]
   by_cases k : atOf (numS U G i).2 (G i) (numS U G i).2.length < 0
   · rw [numS_n h k, decide_eq_true k]; rfl
   · rw [numS_o h k, decide_eq_false k]; rfl
theorem ofL_num (U G : Nat → Int) : ∀ n i, i < n → ofL (numS U G n).1 i = valN U G i
 | 0, i, h => by omega
 | n + 1, i, h => by
  rw [numS_1]
  have hl := (numS_len U G n).1
  by_cases e : i = n
  · subst e; rw [ofL_r (by omega), hl, Nat.sub_self]; rfl
  · rw [ofL_l (by omega)]; exact ofL_num U G n i (by omega)
theorem val_cases (U G : Nat → Int) (i : Nat) :
 (valN U G i = -1 ∧ (numS U G (i + 1)).2.length = (numS U G i).2.length) ∨ (U (i * 12 + 8) ≠ 0 ∧ valN U G i = ((numS U G i).2.length : Int) ∧ (numS U G (i + 1)).2.length = (numS U G i).2.length + 1) ∨ (U (i * 12 + 8) ≠ 0 ∧ 0 ≤ valN U G i ∧ valN U G i < ((numS U G i).2.length : Int) ∧ (numS U G (i + 1)).2.length = (numS U G i).2.length) := by
 unfold valN
 by_cases h : U (i * 12 + 8) = 0
 · rw [numS_z h, decide_eq_true h]; exact .inl ⟨rfl, rfl⟩
 · rw [decide_eq_false h]
   by_cases k : atOf (numS U G i).2 (G i) (numS U G i).2.length < 0
   · rw [numS_n h k, decide_eq_true k]; exact .inr (.inl ⟨h, rfl, by rw [List.length_append]; rfl⟩)
   · rw [numS_o h k, decide_eq_false k]
     refine .inr (.inr ⟨h, ?_, ?_, rfl⟩)
     · show 0 ≤ atOf _ _ _; omega
     · show atOf (numS U G i).2 (G i) (numS U G i).2.length < _
       rcases atOf_bd (numS U G i).2 (G i) (numS U G i).2.length with q | q <;> omega
theorem awP_g (l : List Bool) (g : Int) (s : Bool) : (awP l g s).length = if g = (l.length : Int) then l.length + 1 else l.length := by
 unfold awP
 by_cases e : g = (l.length : Int)
 · rw [if_pos e, decide_eq_true e]
   cases decide (0 ≤ g) <;> simp
 · rw [if_neg e, decide_eq_false e]
   cases decide (0 ≤ g) <;> simp
theorem aw_len (U Gr G : Nat → Int) (n : Nat) (hG : ∀ i, i < n → G i = valN U Gr i) : ∀ i, i ≤ n → (awL U G i).length = (numS U Gr i).2.length
 | 0, _ => rfl
 | i + 1, h => by
  have ih := aw_len U Gr G n hG i (by omega)
  rw [awL, awP_g, ih, hG i (by omega)]
  rcases val_cases U Gr i with ⟨a, b⟩ | ⟨_, a, b⟩ | ⟨_, a, b, c⟩
  · rw [if_neg (by omega), b]
  · rw [if_pos (by omega), b]
  · rw [if_neg (by omega), c]
theorem num2_mono (U Gr : Nat → Int) : ∀ j i, i ≤ j → (numS U Gr i).2.length ≤ (numS U Gr j).2.length
 | 0, i, h => by
  obtain rfl : i = 0 := by omega
  exact Nat.le_refl _
 | j + 1, i, h => by
  by_cases e : i = j + 1
  · rw [e]; exact Nat.le_refl _
  · have := num2_mono U Gr j i (by omega)
    rcases val_cases U Gr j with ⟨a, b⟩ | ⟨_, a, b⟩ | ⟨_, a, b, c⟩ <;> omega
theorem grp_bd (U Gr G : Nat → Int) (n : Nat) (hG : ∀ i, i < n → G i = valN U Gr i) : ∀ i, i < n → (-1 ≤ G i ∧ G i ≤ ((awL U G i).length : Int)) ∧ G i < ((awL U G n).length : Int) ∧ (0 ≤ G i → U (i * 12 + 8) ≠ 0) := by
 intro i hi
 have h1 := aw_len U Gr G n hG i (by omega)
 have h2 := aw_len U Gr G n hG n (Nat.le_refl _)
 have h3 := num2_mono U Gr n (i + 1) (by omega)
 have h4 := num2_mono U Gr (i + 1) i (by omega)
 rw [h1, h2, hG i hi]
 rcases val_cases U Gr i with ⟨a, b⟩ | ⟨m, a, b⟩ | ⟨m, a, b, c⟩
 · exact ⟨by omega, by omega, fun q => by omega⟩
 · exact ⟨by omega, by omega, fun _ => m⟩
 · exact ⟨by omega, by omega, fun _ => m⟩
theorem live_ok {U C : Nat → Int} {n m : Nat} (h : ∀ k, k < m → CtP n (C (k * 5)) (C (k * 5 + 1)) (C (k * 5 + 2)) (C (k * 5 + 3)) (C (k * 5 + 4))) : ∀ k, k ≤ m → Fives (CtP n) (liveL U C k)
 | 0, _ => Fives.nil _
 | k + 1, hk => by
  have ih := live_ok (U := U) h k (by omega)
  cases e : liveC U C k with
  | true => rw [liveL_yes e]; exact ih.app (Fives.one (h k (by omega)))
  | false => rw [liveL_no e]; exact ih
theorem con_P (C : Nat → Nat → Int) {n m : Nat} (e : (conL C n).length = m * 5) : ∀ k, k < m → CtP n (ofL (conL C n) (k * 5)) (ofL (conL C n) (k * 5 + 1)) (ofL (conL C n) (k * 5 + 2)) (ofL (conL C n) (k * 5 + 3)) (ofL (conL C n) (k * 5 + 4)) := by
 obtain ⟨m', e', p⟩ := conOut_ok C n (n := n)
 obtain rfl : m' = m := by unfold conL at e; omega
 exact p
def ApartDoes : Prop := ∀ (base g n c : Nat) (U : Nat → Int) (A B : Nat) (X Y D : Int) (w : World), OwnL w base 39 12 (.slice (some ⟨g, 0, none⟩) n c) n U → n ≤ 1048576 → A < n → B < n → Bods n U → (-256 ≤ X ∧ X ≤ 256) → (-256 ≤ Y ∧ Y ≤ 256) → (0 ≤ D ∧ D ≤ 102400) → Calls Tryz.prog 52 #[.slice (some ⟨g, 0, none⟩) n c, .agg #[.int .i64 (A : Int), .int .i64 (B : Int), .int .i64 X, .int .i64 Y, .int .i64 D]] w fun e w' => e = .returned (.tuple #[]) ∧ OwnL w' base 39 12 (.slice (some ⟨g, 0, none⟩) n c) n (apartU U A B X Y D) ∧ Fr (fun b => b = g) w w'
theorem l8Aparts_of (HA : ApartDoes) (a : Option Addr) (n c : Nat) (U : Nat → Int) (ac : Option Addr) (m cc : Nat) (C : Nat → Int) (w : World) (h : Flat w a (n * 12) U) (hn : n ≤ 1048576) (hm : m ≤ 1048576) (h2 : Flat w ac (m * 5) C) (hbb : Bods n U) (hC : CtOk n m C) :
 Calls Tryz.prog 30 #[.slice a n c, .slice ac m cc] w fun e w' => ∃ a1 c1, e = .returned (.slice a1 n c1) ∧ OutL w w' 39 12 a1 n c1 (apartN C U m) := by
 have hset := cset_map
 go_enter Tryz.func30, Tryz.ntmps30
 go_upto_region 1 with fail
 go_cut [5] (fun s0 wc => ∃ a1 c1, s0 = .slice a1 n c1 ∧ OutL w wc 39 12 a1 n c1 U)
 case first =>
  go_wp2_with (go_at_call 19; refine (l8Copy_any a n c U _ h hn).mono ?_; rintro e w3 ⟨a1, c1, rfl, hO⟩)
  go_meet
  exact ⟨_, _, rfl, hO⟩
 case rest =>
 obtain ⟨a1, c1, rfl, hO⟩ := hcut
 go_upto_region 3 with fail
 go_loopw [6] (fun s wr => ∃ k : Nat, k ≤ m ∧ s = .int .i64 (k : Int) ∧ OutL w wr 39 12 a1 n c1 (apartN C U k)) (fun s _ => m - (intOf s).toNat)
 case atStart => exact ⟨0, Nat.zero_le _, rfl, hO⟩
 case round =>
  clear hO
  obtain ⟨k, hk, rfl, hO⟩ := hrel
  by_cases hlt : k < m
  · have hkm : (k : Int) < (m : Int) := by omega
    have ca := hC.a k hlt
    have cb := hC.b k hlt
    have cx := hC.x k hlt
    have cy := hC.y k hlt
    have cd := hC.d k hlt
    have hB := (hbb.aparts hC k hk).1
    obtain ⟨b2, o2, e2, hbl2, hc2⟩ := (h2.below hO.bel) (by omega)
    have r0 := hc2 (k * 5) (by omega)
    have r1 := hc2 (k * 5 + 1) (by omega)
    have r2 := hc2 (k * 5 + 2) (by omega)
    have r3 := hc2 (k * 5 + 3) (by omega)
    have r4 := hc2 (k * 5 + 4) (by omega)
    simp only [← Nat.add_assoc] at r0 r1 r2 r3 r4
    clear hc2
    subst e2
    have HN : Shut (apartN C U (k + 1) = apartU (apartN C U k) (C (k * 5)).toNat (C (k * 5 + 1)).toNat (C (k * 5 + 2)) (C (k * 5 + 3)) (C (k * 5 + 4))) := by show _ = _; rw [apartN]
    obtain ⟨A, hA⟩ : ∃ A : Nat, C (k * 5) = (A : Int) := ⟨(C (k * 5)).toNat, by omega⟩
    obtain ⟨B, hBB⟩ : ∃ B : Nat, C (k * 5 + 1) = (B : Int) := ⟨(C (k * 5 + 1)).toNat, by omega⟩
    rw [hA, hBB, Int.toNat_natCast, Int.toNat_natCast] at HN
    rw [hA] at ca r0
    rw [hBB] at cb r1
    clear hA hBB
    obtain ⟨g, rfl, hg1, hg2⟩ := hO.own.loc (by omega)
    go_wp2_with (go_at_call 52; refine (HA w.heap.size g n c1 (apartN C U k) A B _ _ _ _ hO.own hn (by omega) (by omega) hB cx cy cd).mono ?_; rintro e w5 ⟨rfl, ho5, hf5⟩)
    have hB5 : Below w.heap.size w w5 := hO.bel.trans (hf5.below (by have := hO.bel.size; omega) (fun b e => by omega))
    go_roundw
    case rel => exact ⟨k + 1, by omega, by go_num, hB5, by rw [HN.out]; exact ho5⟩
    case measure => simp [intOf]; omega
  · obtain rfl : k = m := by omega
    go_wp2_with fail
    go_ret
    exact ⟨_, _, rfl, hO⟩
end Go.Proofs.YtmnhankcbkfhaaaGreatDoor
