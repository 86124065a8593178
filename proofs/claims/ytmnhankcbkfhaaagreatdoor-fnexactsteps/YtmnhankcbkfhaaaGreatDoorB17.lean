/- Texts of a proof. -/
import Derived.Test.YtmnhankcbkfhaaaGreatDoorB3
import Derived.Test.YtmnhankcbkfhaaaGreatDoorB4
import Derived.Test.YtmnhankcbkfhaaaGreatDoorB12
import Derived.Test.YtmnhankcbkfhaaaGreatDoorB10
import Derived.Test.YtmnhankcbkfhaaaGreatDoorB7
import Derived.Deep.RegionHeld3
import Derived.Deep.DeepCutAuto
import Derived.Test.YtmnhankcbkfhaaaGreatDoorB15
set_option maxHeartbeats 16000000
set_option maxRecDepth 20000
namespace Go.Proofs.YtmnhankcbkfhaaaGreatDoor
open Go.RowKit
set_option linter.unusedVariables false
set_option linter.unusedSimpArgs false
structure TB (w wx : World) (V : Nat → Int) (m : Nat) : Prop where
 inn : ∀ j, j < 12 → wx.cell? ⟨w.heap.size, j, none⟩ = some (.int .i64 (V j))
 out : ∀ j, j < 12 → wx.cell? ⟨w.heap.size + 1 + 1, j, none⟩ = some (.int .i64 (if j < m then V j else 0))
 res : ∀ j, j < 12 → wx.cell? ⟨w.heap.size + 1, j, none⟩ = some (.int .i64 0)
 nfo : ∀ j, j < 12 → wx.frozen? ⟨w.heap.size + 1 + 1, j, none⟩ = false
 nfr : ∀ j, j < 12 → wx.frozen? ⟨w.heap.size + 1, j, none⟩ = false
 bel : Below w.heap.size w wx
 big : w.heap.size + 1 + 1 < wx.heap.size
theorem TB.below {w wx w1 : World} {V : Nat → Int} {m : Nat} (h : TB w wx V m) (hb : Below wx.heap.size wx w1) : TB w w1 V m := by
 have big := h.big
 exact ⟨fun j hj => (hb.cell (by simp; omega)).trans (h.inn j hj), fun j hj => (hb.cell (by simp; omega)).trans (h.out j hj), fun j hj => (hb.cell (by simp; omega)).trans (h.res j hj), fun j hj => (hb.frozen (by simp; omega)).trans (h.nfo j hj), fun j hj => (hb.frozen (by simp; omega)).trans (h.nfr j hj), h.bel.trans (hb.mono (by omega)), Nat.lt_of_lt_of_le big hb.size⟩
theorem TB.step {w w1 : World} {V : Nat → Int} {m : Nat} (h : TB w w1 V m) (hm : m < 12) : TB w (w1.setCell ⟨w.heap.size + 1 + 1, m, none⟩ (.int .i64 (V m))) V (m + 1) := by
 have big := h.big
 refine ⟨fun j hj => ?_, fun j hj => ?_, fun j hj => ?_, fun j hj => ?_, fun j hj => ?_, ?_, ?_⟩
 · rw [cset_far (by simp; omega)]; exact h.inn j hj
 · by_cases e : j = m
   · subst e; rw [cset_same (h.out j hj), if_pos (by omega)]
   · rw [cset_other (by intro q; injection q with q1 q2; exact e q2.symm), h.out j hj]
     by_cases q : j < m
     · rw [if_pos q, if_pos (by omega)]
     · rw [if_neg q, if_neg (by omega)]
 · rw [cset_far (by simp)]; exact h.res j hj
 · rw [World.frozen?_setCell]; exact h.nfo j hj
 · rw [World.frozen?_setCell]; exact h.nfr j hj
 · exact h.bel.setCell (by simp; omega) _
 · simpa using big
theorem toBody_any (V : Nat → Int) (w : World) :
 Calls Tryz.prog 17 #[bodyW V] w fun e w' => e = .returned (bodyW V) ∧ Below w.heap.size w w' := by
 have hset := cset_map
 go_enter Tryz.func17, Tryz.ntmps17
 go_upto_region 2 with fail
 have h0 : TB w (((w.alloc (.cells #[.int .i64 (V 0), .int .i64 (V 1), .int .i64 (V 2), .int .i64 (V 3), .int .i64 (V 4), .int .i64 (V 5), .int .i64 (V 6), .int .i64 (V 7), .int .i64 (V 8), .int .i64 (V 9), .int .i64 (V 10), .int .i64 (V 11)] 44)).alloc (.cells #[.int .i64 0, .int .i64 0, .int .i64 0, .int .i64 0, .int .i64 0, .int .i64 0, .int .i64 0, .int .i64 0, .int .i64 0, .int .i64 0, .int .i64 0, .int .i64 0] 39)).alloc (.cells #[.int .i64 0, .int .i64 0, .int .i64 0, .int .i64 0, .int .i64 0, .int .i64 0, .int .i64 0, .int .i64 0, .int .i64 0, .int .i64 0, .int .i64 0, .int .i64 0] 39)) V 0 := ⟨(by intro i hi; rcases (show i = 0 ∨ i = 1 ∨ i = 2 ∨ i = 3 ∨ i = 4 ∨ i = 5 ∨ i = 6 ∨ i = 7 ∨ i = 8 ∨ i = 9 ∨ i = 10 ∨ i = 11 by omega) with rfl | rfl | rfl | rfl | rfl | rfl | rfl | rfl | rfl | rfl | rfl | rfl <;> (first | (go_simp; done) | (simp; done))), (by intro i hi; rcases (show i = 0 ∨ i = 1 ∨ i = 2 ∨ i = 3 ∨ i = 4 ∨ i = 5 ∨ i = 6 ∨ i = 7 ∨ i = 8 ∨ i = 9 ∨ i = 10 ∨ i = 11 by omega) with rfl | rfl | rfl | rfl | rfl | rfl | rfl | rfl | rfl | rfl | rfl | rfl <;> (first | (go_simp; done) | (simp; done))), (by intro i hi; rcases (show i = 0 ∨ i = 1 ∨ i = 2 ∨ i = 3 ∨ i = 4 ∨ i = 5 ∨ i = 6 ∨ i = 7 ∨ i = 8 ∨ i = 9 ∨ i = 10 ∨ i = 11 by omega) with rfl | rfl | rfl | rfl | rfl | rfl | rfl | rfl | rfl | rfl | rfl | rfl <;> (first | (go_simp; done) | (simp; done))), (by intro i hi; rcases (show i = 0 ∨ i = 1 ∨ i = 2 ∨ i = 3 ∨ i = 4 ∨ i = 5 ∨ i = 6 ∨ i = 7 ∨ i = 8 ∨ i = 9 ∨ i = 10 ∨ i = 11 by omega) with rfl | rfl | rfl | rfl | rfl | rfl | rfl | rfl | rfl | rfl | rfl | rfl <;> (first | (go_simp; done) | (simp; done))), (by intro i hi; rcases (show i = 0 ∨ i = 1 ∨ i = 2 ∨ i = 3 ∨ i = 4 ∨ i = 5 ∨ i = 6 ∨ i = 7 ∨ i = 8 ∨ i = 9 ∨ i = 10 ∨ i = 11 by omega) with rfl | rfl | rfl | rfl | rfl | rfl | rfl | rfl | rfl | rfl | rfl | rfl <;> (first | (go_simp; done) | (simp; done))), bel_a, by simp⟩
 generalize (((w.alloc (.cells #[.int .i64 (V 0), .int .i64 (V 1), .int .i64 (V 2), .int .i64 (V 3), .int .i64 (V 4), .int .i64 (V 5), .int .i64 (V 6), .int .i64 (V 7), .int .i64 (V 8), .int .i64 (V 9), .int .i64 (V 10), .int .i64 (V 11)] 44)).alloc (.cells #[.int .i64 0, .int .i64 0, .int .i64 0, .int .i64 0, .int .i64 0, .int .i64 0, .int .i64 0, .int .i64 0, .int .i64 0, .int .i64 0, .int .i64 0, .int .i64 0] 39)).alloc (.cells #[.int .i64 0, .int .i64 0, .int .i64 0, .int .i64 0, .int .i64 0, .int .i64 0, .int .i64 0, .int .i64 0, .int .i64 0, .int .i64 0, .int .i64 0, .int .i64 0] 39)) = wx0 at h0 ⊢
 have i0 := h0.inn 0 (by omega)
 have o0 := h0.out 0 (by omega)
 have f0 := h0.nfo 0 (by omega)
 have z0 := h0.big
 go_cut [] (fun wc => TB w wc V 1)
 case first =>
  go_wp2_with fail
  go_meet
  exact (h0.step (by omega))
 case rest =>
 have h1 := hcut
 clear hcut z0 h0 i0 o0 f0
 go_upto_region 3 with fail
 have i1 := h1.inn 1 (by omega)
 have o1 := h1.out 1 (by omega)
 have f1 := h1.nfo 1 (by omega)
 have i2 := h1.inn 2 (by omega)
 have o2 := h1.out 2 (by omega)
 have f2 := h1.nfo 2 (by omega)
 have i3 := h1.inn 3 (by omega)
 have o3 := h1.out 3 (by omega)
 have f3 := h1.nfo 3 (by omega)
 have z0 := h1.big
 go_cut [] (fun wc => TB w wc V 4)
 case first =>
  go_wp2_with (go_at_call 34; refine (toShape_any _ _ _ _).mono ?_; rintro e w1 ⟨rfl, hb1⟩; have hz1 := hb1.size; (try simp only [zz] at hz1); have := kfa hb1 w.heap.size; have := kfa hb1 (w.heap.size + 1 + 1))
  go_meet
  exact ((((TB.below h1 hb1).step (by omega)).step (by omega)).step (by omega))
 case rest =>
 have h2 := hcut
 clear hcut z0 h1 i1 o1 f1 i2 o2 f2 i3 o3 f3
 go_upto_region 4 with fail
 have i4 := h2.inn 4 (by omega)
 have o4 := h2.out 4 (by omega)
 have f4 := h2.nfo 4 (by omega)
 have i5 := h2.inn 5 (by omega)
 have o5 := h2.out 5 (by omega)
 have f5 := h2.nfo 5 (by omega)
 have z0 := h2.big
 go_cut [] (fun wc => TB w wc V 6)
 case first =>
  go_wp2_with (go_at_call 35; refine (toVec_any _ _ _).mono ?_; rintro e w1 ⟨rfl, hb1⟩; have hz1 := hb1.size; (try simp only [zz] at hz1); have := kfa hb1 w.heap.size; have := kfa hb1 (w.heap.size + 1 + 1))
  go_meet
  exact (((TB.below h2 hb1).step (by omega)).step (by omega))
 case rest =>
 have h3 := hcut
 clear hcut z0 h2 i4 o4 f4 i5 o5 f5
 go_upto_region 5 with fail
 have i6 := h3.inn 6 (by omega)
 have o6 := h3.out 6 (by omega)
 have f6 := h3.nfo 6 (by omega)
 have i7 := h3.inn 7 (by omega)
 have o7 := h3.out 7 (by omega)
 have f7 := h3.nfo 7 (by omega)
 have z0 := h3.big
 go_cut [] (fun wc => TB w wc V 8)
 case first =>
  go_wp2_with (go_at_call 35; refine (toVec_any _ _ _).mono ?_; rintro e w1 ⟨rfl, hb1⟩; have hz1 := hb1.size; (try simp only [zz] at hz1); have := kfa hb1 w.heap.size; have := kfa hb1 (w.heap.size + 1 + 1))
  go_meet
  exact (((TB.below h3 hb1).step (by omega)).step (by omega))
 case rest =>
 have h4 := hcut
 clear hcut z0 h3 i6 o6 f6 i7 o7 f7
 go_upto_region 6 with fail
 have i8 := h4.inn 8 (by omega)
 have o8 := h4.out 8 (by omega)
 have f8 := h4.nfo 8 (by omega)
 have z0 := h4.big
 go_cut [] (fun wc => TB w wc V 9)
 case first =>
  go_wp2_with fail
  go_meet
  exact (h4.step (by omega))
 case rest =>
 have h5 := hcut
 clear hcut z0 h4 i8 o8 f8
 go_upto_region 7 with fail
 have i9 := h5.inn 9 (by omega)
 have o9 := h5.out 9 (by omega)
 have f9 := h5.nfo 9 (by omega)
 have z0 := h5.big
 go_cut [] (fun wc => TB w wc V 10)
 case first =>
  go_wp2_with fail
  go_meet
  exact (h5.step (by omega))
 case rest =>
 have h6 := hcut
 clear hcut z0 h5 i9 o9 f9
 go_upto_region 8 with fail
 have i10 := h6.inn 10 (by omega)
 have o10 := h6.out 10 (by omega)
 have f10 := h6.nfo 10 (by omega)
 have z0 := h6.big
 go_cut [] (fun wc => TB w wc V 11)
 case first =>
  go_wp2_with fail
  go_meet
  exact (h6.step (by omega))
 case rest =>
 have h7 := hcut
 clear hcut z0 h6 i10 o10 f10
 go_upto_region 9 with fail
 have i11 := h7.inn 11 (by omega)
 have o11 := h7.out 11 (by omega)
 have f11 := h7.nfo 11 (by omega)
 have z0 := h7.big
 go_cut [] (fun wc => TB w wc V 12)
 case first =>
  go_wp2_with fail
  go_meet
  exact (h7.step (by omega))
 case rest =>
 have h8 := hcut
 clear hcut z0 h7 i11 o11 f11
 go_upto_region 10 with fail
 have o0 : wc.cell? ⟨w.heap.size + 1 + 1, 0, none⟩ = some (.int .i64 (V 0)) := h8.out 0 (by omega)
 have r0 := h8.res 0 (by omega)
 have f0 := h8.nfr 0 (by omega)
 have o1 : wc.cell? ⟨w.heap.size + 1 + 1, 1, none⟩ = some (.int .i64 (V 1)) := h8.out 1 (by omega)
 have r1 := h8.res 1 (by omega)
 have f1 := h8.nfr 1 (by omega)
 have o2 : wc.cell? ⟨w.heap.size + 1 + 1, 2, none⟩ = some (.int .i64 (V 2)) := h8.out 2 (by omega)
 have r2 := h8.res 2 (by omega)
 have f2 := h8.nfr 2 (by omega)
 have o3 : wc.cell? ⟨w.heap.size + 1 + 1, 3, none⟩ = some (.int .i64 (V 3)) := h8.out 3 (by omega)
 have r3 := h8.res 3 (by omega)
 have f3 := h8.nfr 3 (by omega)
 have o4 : wc.cell? ⟨w.heap.size + 1 + 1, 4, none⟩ = some (.int .i64 (V 4)) := h8.out 4 (by omega)
 have r4 := h8.res 4 (by omega)
 have f4 := h8.nfr 4 (by omega)
 have o5 : wc.cell? ⟨w.heap.size + 1 + 1, 5, none⟩ = some (.int .i64 (V 5)) := h8.out 5 (by omega)
 have r5 := h8.res 5 (by omega)
 have f5 := h8.nfr 5 (by omega)
 have o6 : wc.cell? ⟨w.heap.size + 1 + 1, 6, none⟩ = some (.int .i64 (V 6)) := h8.out 6 (by omega)
 have r6 := h8.res 6 (by omega)
 have f6 := h8.nfr 6 (by omega)
 have o7 : wc.cell? ⟨w.heap.size + 1 + 1, 7, none⟩ = some (.int .i64 (V 7)) := h8.out 7 (by omega)
 have r7 := h8.res 7 (by omega)
 have f7 := h8.nfr 7 (by omega)
 have o8 : wc.cell? ⟨w.heap.size + 1 + 1, 8, none⟩ = some (.int .i64 (V 8)) := h8.out 8 (by omega)
 have r8 := h8.res 8 (by omega)
 have f8 := h8.nfr 8 (by omega)
 have o9 : wc.cell? ⟨w.heap.size + 1 + 1, 9, none⟩ = some (.int .i64 (V 9)) := h8.out 9 (by omega)
 have r9 := h8.res 9 (by omega)
 have f9 := h8.nfr 9 (by omega)
 have o10 : wc.cell? ⟨w.heap.size + 1 + 1, 10, none⟩ = some (.int .i64 (V 10)) := h8.out 10 (by omega)
 have r10 := h8.res 10 (by omega)
 have f10 := h8.nfr 10 (by omega)
 have o11 : wc.cell? ⟨w.heap.size + 1 + 1, 11, none⟩ = some (.int .i64 (V 11)) := h8.out 11 (by omega)
 have r11 := h8.res 11 (by omega)
 have f11 := h8.nfr 11 (by omega)
 have z0 := h8.big
 have hbel := h8.bel
 clear h8
 go_wp2_with fail
 exact bodyPost_ret (v := bodyW V) (by simp [results, Tryz.results17, go_sem, *]) rfl ⟨rfl, bel_a⟩
def mvX (V : Nat → Int) (p : Int) : Int := clampZ 2560000 (V 4 + p)
def mvY (V : Nat → Int) (q : Int) : Int := clampZ 2560000 (V 5 + q)
def moveV (V : Nat → Int) (p q : Int) : Nat → Int := setV (setV (setV (setV V 4 (mvX V p)) 5 (mvY V q)) 6 (if mvX V p = V 4 + p then V 6 else 0)) 7 (if mvY V q = V 5 + q then V 7 else 0)
theorem setV_self (V : Nat → Int) (k : Nat) : setV V k (V k) = V := by funext j; unfold setV; split <;> simp_all
theorem setV_at (V : Nat → Int) (k j : Nat) (a : Int) (h : j ≠ k) : setV V k a j = V j := by unfold setV; rw [if_neg h]
theorem setV_is (V : Nat → Int) (k : Nat) (a : Int) : setV V k a k = a := by unfold setV; rw [if_pos rfl]
theorem l6Within_q (n m a : Int) (w : World) (h0 : 0 ≤ m) (h1 : m ≤ 4000000000) (e : clampZ m n = a) :
 Calls Tryz.prog 51 #[.int .i64 n, .int .i64 m] w fun e w' => e = .returned (.int .i64 a) ∧ w' = w := by
 subst e; exact l6Within_any n m w h0 h1
theorem l6Move_c (V : Nat → Int) (p q A B C D : Int) (w : World) (b4 : -2560000 ≤ V 4 ∧ V 4 ≤ 2560000) (b5 : -2560000 ≤ V 5 ∧ V 5 ≤ 2560000) (bp : -20000000 ≤ p ∧ p ≤ 20000000) (bq : -20000000 ≤ q ∧ q ≤ 20000000)
 (eA : clampZ 2560000 (V 4 + p) = A) (eB : clampZ 2560000 (V 5 + q) = B) (eC : (if A = V 4 + p then V 6 else 0) = C) (eD : (if B = V 5 + q then V 7 else 0) = D) :
 Calls Tryz.prog 53 #[bodyW V, vv p q] w fun e w' => e = .returned (bodyW (setV (setV (setV (setV V 4 A) 5 B) 6 C) 7 D)) ∧ Below w.heap.size w w' := by
 have hset := cset_map
 obtain ⟨U, hU⟩ : ∃ U, setV (setV V 4 A) 5 B = U := ⟨_, rfl⟩
 obtain ⟨X, hX⟩ : ∃ X, setV (setV U 6 C) 7 D = X := ⟨_, rfl⟩
 have i6U : U 6 = V 6 := by rw [← hU, setV_at _ _ _ _ (by omega), setV_at _ _ _ _ (by omega)]
 have i7U : U 7 = V 7 := by rw [← hU, setV_at _ _ _ _ (by omega), setV_at _ _ _ _ (by omega)]
 have i4U : U 4 = A := by rw [← hU, setV_at _ _ _ _ (by omega), setV_is]
 have i5U : U 5 = B := by rw [← hU, setV_is]
 rw [hU, hX]
 go_enter Tryz.func53, Tryz.ntmps53
 go_upto_region 1 with fail
 have h0 := PB.start w V p q
 generalize (((w.alloc (.cells #[.int .i64 (V 0), .int .i64 (V 1), .int .i64 (V 2), .int .i64 (V 3), .int .i64 (V 4), .int .i64 (V 5), .int .i64 (V 6), .int .i64 (V 7), .int .i64 (V 8), .int .i64 (V 9), .int .i64 (V 10), .int .i64 (V 11)] 39)).alloc (.cells #[.int .i64 p, .int .i64 q] 37)).alloc (.cells #[.int .i64 0, .int .i64 0, .int .i64 0, .int .i64 0, .int .i64 0, .int .i64 0, .int .i64 0, .int .i64 0, .int .i64 0, .int .i64 0, .int .i64 0, .int .i64 0] 39)) = wx0 at h0 ⊢
 have i4 := h0.inn 4 (by omega)
 have i5 := h0.inn 5 (by omega)
 have n4 := h0.nfi 4 (by omega)
 have n5 := h0.nfi 5 (by omega)
 have y0 := h0.v0
 have y1 := h0.v1
 go_upto_region 3 with fail
 go_cut [] (fun wc => PB w wc U p q)
 case first =>
  go_wp2_with (go_at_call 51; refine (l6Within_q _ _ _ _ (by omega) (by omega) (by with_reducible assumption)).mono ?_; rintro e w' ⟨rfl, rfl⟩)
  go_meet
  have q9 := PB.set (PB.set h0 (k := 4) (by omega) A) (k := 5) (by omega) B
  rw [hU] at q9
  exact q9
 case rest =>
 have h1 := hcut
 clear i4 i5 n4 n5 y0 y1 h0 hcut
 have i4 := h1.inn 4 (by omega)
 have i5 := h1.inn 5 (by omega)
 have i6 := h1.inn 6 (by omega)
 have i7 := h1.inn 7 (by omega)
 have n6 := h1.nfi 6 (by omega)
 have n7 := h1.nfi 7 (by omega)
 rw [i4U] at i4
 rw [i5U] at i5
 by_cases cA : A = V 4 + p
 focus
  rw [if_pos cA] at eC; subst eC
  by_cases cB : B = V 5 + q
  focus
   rw [if_pos cB] at eD; subst eD
   have hXU : X = U := by rw [← hX, ← i6U, setV_self, ← i7U, setV_self]
   go_upto_region 8 with fail
   have h3 := h1
   rw [← hXU] at h3
   generalize wc = wq at h3 ⊢
  rotate_left
  focus
   rw [if_neg cB] at eD; subst eD
   have hXU : X = (setV U 7 0) := by rw [← hX, ← i6U, setV_self]
   go_upto_region 8 with fail
   have h3 := (PB.set h1 (k := 7) (by omega) 0)
   rw [← hXU] at h3
   generalize (wc.setCell ⟨w.heap.size, 7, none⟩ (.int .i64 0)) = wq at h3 ⊢
 rotate_left 2
 focus
  rw [if_neg cA] at eC; subst eC
  by_cases cB : B = V 5 + q
  focus
   rw [if_pos cB] at eD; subst eD
   have hXU : X = (setV U 6 0) := by rw [← hX, ← i7U, ← setV_at U 6 7 0 (by omega), setV_self]
   go_upto_region 8 with fail
   have h3 := (PB.set h1 (k := 6) (by omega) 0)
   rw [← hXU] at h3
   generalize (wc.setCell ⟨w.heap.size, 6, none⟩ (.int .i64 0)) = wq at h3 ⊢
  rotate_left
  focus
   rw [if_neg cB] at eD; subst eD
   have hXU : X = (setV (setV U 6 0) 7 0) := by rw [← hX]
   go_upto_region 8 with fail
   have h3 := (PB.set (PB.set h1 (k := 6) (by omega) 0) (k := 7) (by omega) 0)
   rw [← hXU] at h3
   generalize ((wc.setCell ⟨w.heap.size, 6, none⟩ (.int .i64 0)).setCell ⟨w.heap.size, 7, none⟩ (.int .i64 0)) = wq at h3 ⊢
 all_goals
  clear i4 i5 i6 i7 n6 n7 h1 hXU hX hU i6U i7U i4U i5U cA cB eA eB
  have o0 := h3.inn 0 (by omega)
  have r0 := h3.res 0 (by omega)
  have f0 := h3.nfr 0 (by omega)
  have o1 := h3.inn 1 (by omega)
  have r1 := h3.res 1 (by omega)
  have f1 := h3.nfr 1 (by omega)
  have o2 := h3.inn 2 (by omega)
  have r2 := h3.res 2 (by omega)
  have f2 := h3.nfr 2 (by omega)
  have o3 := h3.inn 3 (by omega)
  have r3 := h3.res 3 (by omega)
  have f3 := h3.nfr 3 (by omega)
  have o4 := h3.inn 4 (by omega)
  have r4 := h3.res 4 (by omega)
  have f4 := h3.nfr 4 (by omega)
  have o5 := h3.inn 5 (by omega)
  have r5 := h3.res 5 (by omega)
  have f5 := h3.nfr 5 (by omega)
  have o6 := h3.inn 6 (by omega)
  have r6 := h3.res 6 (by omega)
  have f6 := h3.nfr 6 (by omega)
  have o7 := h3.inn 7 (by omega)
  have r7 := h3.res 7 (by omega)
  have f7 := h3.nfr 7 (by omega)
  have o8 := h3.inn 8 (by omega)
  have r8 := h3.res 8 (by omega)
  have f8 := h3.nfr 8 (by omega)
  have o9 := h3.inn 9 (by omega)
  have r9 := h3.res 9 (by omega)
  have f9 := h3.nfr 9 (by omega)
  have o10 := h3.inn 10 (by omega)
  have r10 := h3.res 10 (by omega)
  have f10 := h3.nfr 10 (by omega)
  have o11 := h3.inn 11 (by omega)
  have r11 := h3.res 11 (by omega)
  have f11 := h3.nfr 11 (by omega)
  have z0 := h3.big
  have hbel := h3.bel
  clear h3
  go_wp2_with fail
  exact bodyPost_ret (v := bodyW X) (by simp [results, Tryz.results53, go_sem, *]) rfl ⟨rfl, bel_a⟩
theorem l6Move_any (V : Nat → Int) (p q : Int) (w : World) (b4 : -2560000 ≤ V 4 ∧ V 4 ≤ 2560000) (b5 : -2560000 ≤ V 5 ∧ V 5 ≤ 2560000) (bp : -20000000 ≤ p ∧ p ≤ 20000000) (bq : -20000000 ≤ q ∧ q ≤ 20000000) :
 Calls Tryz.prog 53 #[bodyW V, vv p q] w fun e w' => e = .returned (bodyW (moveV V p q)) ∧ Below w.heap.size w w' :=
 l6Move_c V p q _ _ _ _ w b4 b5 bp bq rfl rfl rfl rfl
end Go.Proofs.YtmnhankcbkfhaaaGreatDoor
