/- A body that came in, turned into the program's own. A body that moves by a way, by the specification. All that is awake moves, by the specification. Two bodies are moved apart, by the specification. For how many steps each body was quiet, by the specification. Each part of a step keeps bodies ok: plain mathematics. Bodies moved apart stay ok; all contacts, one behind the other. Two bodies of columns, moved apart: what it comes to. A body of columns that is changed: its place. A body of columns that moves by a way, by the program. What a body takes of a way apart, by the program. A contract of spans. How two round shapes touch, by the program; what it is made of. Two bodies of columns, moved apart, by the program. All meetings of a ring, moved apart. -/
import Derived.Test.YtejminehbnebmaaGreatB11
import Derived.Test.YtejminehbnebmaaGreatB3
import Derived.Test.YtejminehbnebmaaGreatB4
import Derived.Deep.RegionHeld3
import Derived.Deep.DeepCutAuto
import Derived.Test.YtejminehbnebmaaGreatB12
import Derived.Test.YtejminehbnebmaaGreatB7
import Derived.Handy
import Derived.Deep.QuietTactic
import Derived.BigQuiet
import Derived.Deep.RegionWith
namespace Go.Proofs.YtejminehbnebmaaGreat
open Go.RowKit
set_option linter.unusedVariables false
set_option linter.unusedSimpArgs false

structure TB (w wx : World) (V : Nat → Int) (m : Nat) : Prop where
  inn : ∀ j, j < 12 → wx.cell? ⟨w.heap.size, j, none⟩ = some (.int .i64 (V j))
  out : ∀ j, j < 12 → wx.cell? ⟨w.heap.size + 1 + 1, j, none⟩ = some (.int .i64 (if j < m then V j else 0))
  res : ∀ j, j < 12 → wx.cell? ⟨w.heap.size + 1, j, none⟩ = some (.int .i64 0)
  nfo : ∀ j, j < 12 → wx.frozen? ⟨w.heap.size + 1 + 1, j, none⟩ = false
  nfr : ∀ j, j < 12 → wx.frozen? ⟨w.heap.size + 1, j, none⟩ = false
  bel : Below w.heap.size w wx
  big : w.heap.size + 1 + 1 < wx.heap.size
theorem TB.below {w wx w1 : World} {V : Nat → Int} {m : Nat} (h : TB w wx V m) (hb : Below wx.heap.size wx w1) : TB w w1 V m := by
  have big := h.big
  exact ⟨fun j hj => (hb.cell (by simp; omega)).trans (h.inn j hj), fun j hj => (hb.cell (by simp; omega)).trans (h.out j hj), fun j hj => (hb.cell (by simp; omega)).trans (h.res j hj), fun j hj => (hb.frozen (by simp; omega)).trans (h.nfo j hj), fun j hj => (hb.frozen (by simp; omega)).trans (h.nfr j hj), h.bel.trans (hb.mono (by omega)), Nat.lt_of_lt_of_le big hb.size⟩
theorem TB.step {w w1 : World} {V : Nat → Int} {m : Nat} (h : TB w w1 V m) (hm : m < 12) : TB w (w1.setCell ⟨w.heap.size + 1 + 1, m, none⟩ (.int .i64 (V m))) V (m + 1) := by
  have big := h.big
  refine ⟨fun j hj => ?_, fun j hj => ?_, fun j hj => ?_, fun j hj => ?_, fun j hj => ?_, ?_, ?_⟩
  · rw [cset_far (by simp; omega)]; exact h.inn j hj
  · by_cases e : j = m
    · subst e; rw [cset_same (h.out j hj), if_pos (by omega)]
    · rw [cset_other (by intro q; injection q with q1 q2; exact e q2.symm), h.out j hj]
      by_cases q : j < m
      · rw [if_pos q, if_pos (by omega)]
      · rw [if_neg q, if_neg (by omega)]
  · rw [cset_far (by simp)]; exact h.res j hj
  · rw [World.frozen?_setCell]; exact h.nfo j hj
  · rw [World.frozen?_setCell]; exact h.nfr j hj
  · exact h.bel.setCell (by simp; omega) _
  · simpa using big
set_option maxRecDepth 20000 in
set_option maxHeartbeats 8000000 in
theorem toBody_any (V : Nat → Int) (w : World) :
    Calls Tryz.prog 18 #[bodyW V] w fun e w' => e = .returned (bodyW V) ∧ Below w.heap.size w w' := by
  have hset := cset_map
  go_enter Tryz.func18, Tryz.ntmps18
  go_upto_region 2 with fail
  have h0 : TB w (((w.alloc (.cells #[.int .i64 (V 0), .int .i64 (V 1), .int .i64 (V 2), .int .i64 (V 3), .int .i64 (V 4), .int .i64 (V 5), .int .i64 (V 6), .int .i64 (V 7), .int .i64 (V 8), .int .i64 (V 9), .int .i64 (V 10), .int .i64 (V 11)] 48)).alloc (.cells #[.int .i64 0, .int .i64 0, .int .i64 0, .int .i64 0, .int .i64 0, .int .i64 0, .int .i64 0, .int .i64 0, .int .i64 0, .int .i64 0, .int .i64 0, .int .i64 0] 43)).alloc (.cells #[.int .i64 0, .int .i64 0, .int .i64 0, .int .i64 0, .int .i64 0, .int .i64 0, .int .i64 0, .int .i64 0, .int .i64 0, .int .i64 0, .int .i64 0, .int .i64 0] 43)) V 0 := ⟨(by intro i hi; rcases (show i = 0 ∨ i = 1 ∨ i = 2 ∨ i = 3 ∨ i = 4 ∨ i = 5 ∨ i = 6 ∨ i = 7 ∨ i = 8 ∨ i = 9 ∨ i = 10 ∨ i = 11 by omega) with rfl | rfl | rfl | rfl | rfl | rfl | rfl | rfl | rfl | rfl | rfl | rfl <;> (first | (go_simp; done) | (simp; done))), (by intro i hi; rcases (show i = 0 ∨ i = 1 ∨ i = 2 ∨ i = 3 ∨ i = 4 ∨ i = 5 ∨ i = 6 ∨ i = 7 ∨ i = 8 ∨ i = 9 ∨ i = 10 ∨ i = 11 by omega) with rfl | rfl | rfl | rfl | rfl | rfl | rfl | rfl | rfl | rfl | rfl | rfl <;> (first | (go_simp; done) | (simp; done))), (by intro i hi; rcases (show i = 0 ∨ i = 1 ∨ i = 2 ∨ i = 3 ∨ i = 4 ∨ i = 5 ∨ i = 6 ∨ i = 7 ∨ i = 8 ∨ i = 9 ∨ i = 10 ∨ i = 11 by omega) with rfl | rfl | rfl | rfl | rfl | rfl | rfl | rfl | rfl | rfl | rfl | rfl <;> (first | (go_simp; done) | (simp; done))), (by intro i hi; rcases (show i = 0 ∨ i = 1 ∨ i = 2 ∨ i = 3 ∨ i = 4 ∨ i = 5 ∨ i = 6 ∨ i = 7 ∨ i = 8 ∨ i = 9 ∨ i = 10 ∨ i = 11 by omega) with rfl | rfl | rfl | rfl | rfl | rfl | rfl | rfl | rfl | rfl | rfl | rfl <;> (first | (go_simp; done) | (simp; done))), (by intro i hi; rcases (show i = 0 ∨ i = 1 ∨ i = 2 ∨ i = 3 ∨ i = 4 ∨ i = 5 ∨ i = 6 ∨ i = 7 ∨ i = 8 ∨ i = 9 ∨ i = 10 ∨ i = 11 by omega) with rfl | rfl | rfl | rfl | rfl | rfl | rfl | rfl | rfl | rfl | rfl | rfl <;> (first | (go_simp; done) | (simp; done))), bel_a, by simp⟩
  generalize (((w.alloc (.cells #[.int .i64 (V 0), .int .i64 (V 1), .int .i64 (V 2), .int .i64 (V 3), .int .i64 (V 4), .int .i64 (V 5), .int .i64 (V 6), .int .i64 (V 7), .int .i64 (V 8), .int .i64 (V 9), .int .i64 (V 10), .int .i64 (V 11)] 48)).alloc (.cells #[.int .i64 0, .int .i64 0, .int .i64 0, .int .i64 0, .int .i64 0, .int .i64 0, .int .i64 0, .int .i64 0, .int .i64 0, .int .i64 0, .int .i64 0, .int .i64 0] 43)).alloc (.cells #[.int .i64 0, .int .i64 0, .int .i64 0, .int .i64 0, .int .i64 0, .int .i64 0, .int .i64 0, .int .i64 0, .int .i64 0, .int .i64 0, .int .i64 0, .int .i64 0] 43)) = wx0 at h0 ⊢
  have i0 := h0.inn 0 (by omega)
  have o0 := h0.out 0 (by omega)
  have f0 := h0.nfo 0 (by omega)
  have z0 := h0.big
  go_cut [] (fun wc => TB w wc V 1)
  case first =>
    go_wp2_with fail
    go_meet
    exact (h0.step (by omega))
  case rest =>
  have h1 := hcut
  clear hcut z0 h0 i0 o0 f0
  go_upto_region 3 with fail
  have i1 := h1.inn 1 (by omega)
  have o1 := h1.out 1 (by omega)
  have f1 := h1.nfo 1 (by omega)
  have i2 := h1.inn 2 (by omega)
  have o2 := h1.out 2 (by omega)
  have f2 := h1.nfo 2 (by omega)
  have i3 := h1.inn 3 (by omega)
  have o3 := h1.out 3 (by omega)
  have f3 := h1.nfo 3 (by omega)
  have z0 := h1.big
  go_cut [] (fun wc => TB w wc V 4)
  case first =>
    go_wp2_with (go_at_call 30; refine (toShape_any _ _ _ _).mono ?_; rintro e w1 ⟨rfl, hb1⟩; obtain ⟨hc1, hf1⟩ := bcell hb1; have hz1 := hb1.size; (try simp only [World.size_drew, World.size_alloc, World.size_setCell] at hc1 hf1 hz1); have hk1x0 := fun o => hc1 (w.heap.size) o (by omega); have hj1x0 := fun o => hf1 (w.heap.size) o (by omega); have hq1x0 : w.heap.size < w1.heap.size := (by omega); have hk1x1 := fun o => hc1 (w.heap.size + 1 + 1) o (by omega); have hj1x1 := fun o => hf1 (w.heap.size + 1 + 1) o (by omega); have hq1x1 : w.heap.size + 1 + 1 < w1.heap.size := (by omega); clear hc1 hf1)
    go_meet
    exact ((((TB.below h1 hb1).step (by omega)).step (by omega)).step (by omega))
  case rest =>
  have h2 := hcut
  clear hcut z0 h1 i1 o1 f1 i2 o2 f2 i3 o3 f3
  go_upto_region 4 with fail
  have i4 := h2.inn 4 (by omega)
  have o4 := h2.out 4 (by omega)
  have f4 := h2.nfo 4 (by omega)
  have i5 := h2.inn 5 (by omega)
  have o5 := h2.out 5 (by omega)
  have f5 := h2.nfo 5 (by omega)
  have z0 := h2.big
  go_cut [] (fun wc => TB w wc V 6)
  case first =>
    go_wp2_with (go_at_call 31; refine (toVec_any _ _ _).mono ?_; rintro e w1 ⟨rfl, hb1⟩; obtain ⟨hc1, hf1⟩ := bcell hb1; have hz1 := hb1.size; (try simp only [World.size_drew, World.size_alloc, World.size_setCell] at hc1 hf1 hz1); have hk1x0 := fun o => hc1 (w.heap.size) o (by omega); have hj1x0 := fun o => hf1 (w.heap.size) o (by omega); have hq1x0 : w.heap.size < w1.heap.size := (by omega); have hk1x1 := fun o => hc1 (w.heap.size + 1 + 1) o (by omega); have hj1x1 := fun o => hf1 (w.heap.size + 1 + 1) o (by omega); have hq1x1 : w.heap.size + 1 + 1 < w1.heap.size := (by omega); clear hc1 hf1)
    go_meet
    exact (((TB.below h2 hb1).step (by omega)).step (by omega))
  case rest =>
  have h3 := hcut
  clear hcut z0 h2 i4 o4 f4 i5 o5 f5
  go_upto_region 5 with fail
  have i6 := h3.inn 6 (by omega)
  have o6 := h3.out 6 (by omega)
  have f6 := h3.nfo 6 (by omega)
  have i7 := h3.inn 7 (by omega)
  have o7 := h3.out 7 (by omega)
  have f7 := h3.nfo 7 (by omega)
  have z0 := h3.big
  go_cut [] (fun wc => TB w wc V 8)
  case first =>
    go_wp2_with (go_at_call 31; refine (toVec_any _ _ _).mono ?_; rintro e w1 ⟨rfl, hb1⟩; obtain ⟨hc1, hf1⟩ := bcell hb1; have hz1 := hb1.size; (try simp only [World.size_drew, World.size_alloc, World.size_setCell] at hc1 hf1 hz1); have hk1x0 := fun o => hc1 (w.heap.size) o (by omega); have hj1x0 := fun o => hf1 (w.heap.size) o (by omega); have hq1x0 : w.heap.size < w1.heap.size := (by omega); have hk1x1 := fun o => hc1 (w.heap.size + 1 + 1) o (by omega); have hj1x1 := fun o => hf1 (w.heap.size + 1 + 1) o (by omega); have hq1x1 : w.heap.size + 1 + 1 < w1.heap.size := (by omega); clear hc1 hf1)
    go_meet
    exact (((TB.below h3 hb1).step (by omega)).step (by omega))
  case rest =>
  have h4 := hcut
  clear hcut z0 h3 i6 o6 f6 i7 o7 f7
  go_upto_region 6 with fail
  have i8 := h4.inn 8 (by omega)
  have o8 := h4.out 8 (by omega)
  have f8 := h4.nfo 8 (by omega)
  have z0 := h4.big
  go_cut [] (fun wc => TB w wc V 9)
  case first =>
    go_wp2_with fail
    go_meet
    exact (h4.step (by omega))
  case rest =>
  have h5 := hcut
  clear hcut z0 h4 i8 o8 f8
  go_upto_region 7 with fail
  have i9 := h5.inn 9 (by omega)
  have o9 := h5.out 9 (by omega)
  have f9 := h5.nfo 9 (by omega)
  have z0 := h5.big
  go_cut [] (fun wc => TB w wc V 10)
  case first =>
    go_wp2_with fail
    go_meet
    exact (h5.step (by omega))
  case rest =>
  have h6 := hcut
  clear hcut z0 h5 i9 o9 f9
  go_upto_region 8 with fail
  have i10 := h6.inn 10 (by omega)
  have o10 := h6.out 10 (by omega)
  have f10 := h6.nfo 10 (by omega)
  have z0 := h6.big
  go_cut [] (fun wc => TB w wc V 11)
  case first =>
    go_wp2_with fail
    go_meet
    exact (h6.step (by omega))
  case rest =>
  have h7 := hcut
  clear hcut z0 h6 i10 o10 f10
  go_upto_region 9 with fail
  have i11 := h7.inn 11 (by omega)
  have o11 := h7.out 11 (by omega)
  have f11 := h7.nfo 11 (by omega)
  have z0 := h7.big
  go_cut [] (fun wc => TB w wc V 12)
  case first =>
    go_wp2_with fail
    go_meet
    exact (h7.step (by omega))
  case rest =>
  have h8 := hcut
  clear hcut z0 h7 i11 o11 f11
  go_upto_region 10 with fail
  have o0 : wc.cell? ⟨w.heap.size + 1 + 1, 0, none⟩ = some (.int .i64 (V 0)) := h8.out 0 (by omega)
  have r0 := h8.res 0 (by omega)
  have f0 := h8.nfr 0 (by omega)
  have o1 : wc.cell? ⟨w.heap.size + 1 + 1, 1, none⟩ = some (.int .i64 (V 1)) := h8.out 1 (by omega)
  have r1 := h8.res 1 (by omega)
  have f1 := h8.nfr 1 (by omega)
  have o2 : wc.cell? ⟨w.heap.size + 1 + 1, 2, none⟩ = some (.int .i64 (V 2)) := h8.out 2 (by omega)
  have r2 := h8.res 2 (by omega)
  have f2 := h8.nfr 2 (by omega)
  have o3 : wc.cell? ⟨w.heap.size + 1 + 1, 3, none⟩ = some (.int .i64 (V 3)) := h8.out 3 (by omega)
  have r3 := h8.res 3 (by omega)
  have f3 := h8.nfr 3 (by omega)
  have o4 : wc.cell? ⟨w.heap.size + 1 + 1, 4, none⟩ = some (.int .i64 (V 4)) := h8.out 4 (by omega)
  have r4 := h8.res 4 (by omega)
  have f4 := h8.nfr 4 (by omega)
  have o5 : wc.cell? ⟨w.heap.size + 1 + 1, 5, none⟩ = some (.int .i64 (V 5)) := h8.out 5 (by omega)
  have r5 := h8.res 5 (by omega)
  have f5 := h8.nfr 5 (by omega)
  have o6 : wc.cell? ⟨w.heap.size + 1 + 1, 6, none⟩ = some (.int .i64 (V 6)) := h8.out 6 (by omega)
  have r6 := h8.res 6 (by omega)
  have f6 := h8.nfr 6 (by omega)
  have o7 : wc.cell? ⟨w.heap.size + 1 + 1, 7, none⟩ = some (.int .i64 (V 7)) := h8.out 7 (by omega)
  have r7 := h8.res 7 (by omega)
  have f7 := h8.nfr 7 (by omega)
  have o8 : wc.cell? ⟨w.heap.size + 1 + 1, 8, none⟩ = some (.int .i64 (V 8)) := h8.out 8 (by omega)
  have r8 := h8.res 8 (by omega)
  have f8 := h8.nfr 8 (by omega)
  have o9 : wc.cell? ⟨w.heap.size + 1 + 1, 9, none⟩ = some (.int .i64 (V 9)) := h8.out 9 (by omega)
  have r9 := h8.res 9 (by omega)
  have f9 := h8.nfr 9 (by omega)
  have o10 : wc.cell? ⟨w.heap.size + 1 + 1, 10, none⟩ = some (.int .i64 (V 10)) := h8.out 10 (by omega)
  have r10 := h8.res 10 (by omega)
  have f10 := h8.nfr 10 (by omega)
  have o11 : wc.cell? ⟨w.heap.size + 1 + 1, 11, none⟩ = some (.int .i64 (V 11)) := h8.out 11 (by omega)
  have r11 := h8.res 11 (by omega)
  have f11 := h8.nfr 11 (by omega)
  have z0 := h8.big
  have hbel := h8.bel
  clear h8
  go_wp2_with fail
  exact bodyPost_ret (v := bodyW V) (by simp [results, Tryz.results18, go_sem, *]) rfl ⟨rfl, bel_a⟩
end Go.Proofs.YtejminehbnebmaaGreat
namespace Go.Proofs.YtejminehbnebmaaGreat
open Go.RowKit
set_option linter.unusedVariables false
set_option linter.unusedSimpArgs false

def mvX (V : Nat → Int) (p : Int) : Int := clampZ 2560000 (V 4 + p)
def mvY (V : Nat → Int) (q : Int) : Int := clampZ 2560000 (V 5 + q)
def moveV (V : Nat → Int) (p q : Int) : Nat → Int := setV (setV (setV (setV V 4 (mvX V p)) 5 (mvY V q)) 6 (if mvX V p = V 4 + p then V 6 else 0)) 7 (if mvY V q = V 5 + q then V 7 else 0)
theorem setV_self (V : Nat → Int) (k : Nat) : setV V k (V k) = V := by funext j; unfold setV; split <;> simp_all
theorem setV_at (V : Nat → Int) (k j : Nat) (a : Int) (h : j ≠ k) : setV V k a j = V j := by unfold setV; rw [if_neg h]
theorem setV_is (V : Nat → Int) (k : Nat) (a : Int) : setV V k a k = a := by unfold setV; rw [if_pos rfl]

theorem l6Within_q (n m a : Int) (w : World) (h0 : 0 ≤ m) (h1 : m ≤ 4000000000) (e : clampZ m n = a) :
    Calls Tryz.prog 72 #[.int .i64 n, .int .i64 m] w fun e w' => e = .returned (.int .i64 a) ∧ w' = w := by
  subst e; exact l6Within_any n m w h0 h1

end Go.Proofs.YtejminehbnebmaaGreat
namespace Go.Proofs.YtejminehbnebmaaGreat
open Go.RowKit
set_option linter.unusedVariables false
set_option linter.unusedSimpArgs false
theorem sp_bd {V : Nat → Int} (b6 : -20000000 ≤ V 6 ∧ V 6 ≤ 20000000) (b7 : -20000000 ≤ V 7 ∧ V 7 ≤ 20000000) : (-20000000 ≤ spX V ∧ spX V ≤ 20000000) ∧ (-20000000 ≤ spY V ∧ spY V ≤ 20000000) := by
  have t6 := tdiv_bd (x := V 6) (B := 20000000) (V 8) (by omega)
  have t7 := tdiv_bd (x := V 7) (B := 20000000) (V 8) (by omega)
  unfold spX spY
  by_cases m : V 8 = 0
  · rw [if_pos m, if_pos m]; omega
  · rw [if_neg m, if_neg m]; omega
def goV (V : Nat → Int) : Nat → Int := bif liveV V then moveV V (spX V) (spY V) else V
end Go.Proofs.YtejminehbnebmaaGreat
namespace Go.Proofs.YtejminehbnebmaaGreat
open Go.RowKit
set_option linter.unusedVariables false
set_option linter.unusedSimpArgs false
structure Hide (p : Prop) : Prop where
  out : p
theorem tdiv_le {x B m : Int} (hm : 0 < m) (hB : 0 ≤ B) (h : -(B * m) ≤ x ∧ x ≤ B * m) : -B ≤ x.tdiv m ∧ x.tdiv m ≤ B := by
  by_cases h0 : 0 ≤ x
  · rw [Int.tdiv_eq_ediv_of_nonneg h0]
    have q1 := Int.ediv_nonneg h0 (Int.le_of_lt hm)
    exact ⟨by omega, Int.ediv_le_of_le_mul hm h.2⟩
  · have e : x.tdiv m = -((-x) / m) := by rw [← Int.tdiv_eq_ediv_of_nonneg (show 0 ≤ -x by omega), Int.neg_tdiv, Int.neg_neg]
    rw [e]
    have q1 := Int.ediv_nonneg (show 0 ≤ -x by omega) (Int.le_of_lt hm)
    have q2 := Int.ediv_le_of_le_mul hm (show -x ≤ B * m by omega)
    omega
/-- what a body takes of a way apart -/
def shareV (V W : Nat → Int) (n : Int) : Int := bif decide (V 8 = 0) then 0 else bif decide (W 8 = 0) then n else (n * W 8).tdiv (V 8 + W 8)
theorem share_bd {V W : Nat → Int} {n : Int} (h0 : 0 ≤ V 8) (h1 : 0 ≤ W 8) (hn : 0 ≤ n) : 0 ≤ shareV V W n ∧ shareV V W n ≤ n := by
  unfold shareV
  by_cases m0 : V 8 = 0
  · rw [decide_eq_true m0]; exact ⟨Int.le_refl _, hn⟩
  · rw [decide_eq_false m0]
    by_cases m1 : W 8 = 0
    · rw [decide_eq_true m1]; exact ⟨hn, Int.le_refl _⟩
    · rw [decide_eq_false m1]
      show 0 ≤ (n * W 8).tdiv (V 8 + W 8) ∧ (n * W 8).tdiv (V 8 + W 8) ≤ n
      have p0 : 0 ≤ n * W 8 := Int.mul_nonneg hn h1
      rw [Int.tdiv_eq_ediv_of_nonneg p0]
      refine ⟨Int.ediv_nonneg p0 (by omega), ?_⟩
      refine Int.ediv_le_of_le_mul (by omega) ?_
      exact Int.mul_le_mul_of_nonneg_left (by omega) hn
/-- two bodies of a list moved apart -/
def apartU (U : Nat → Int) (A B : Nat) (X Y D : Int) : Nat → Int :=
  bif decide (0 < (D - 64).tdiv 4) then
    (let U1 := bif decide (0 < U (A * 12 + 8)) then putRow U A (moveV (fun j => U (A * 12 + j)) ((-X * shareV (fun j => U (A * 12 + j)) (fun j => U (B * 12 + j)) ((D - 64).tdiv 4)).tdiv 256) ((-Y * shareV (fun j => U (A * 12 + j)) (fun j => U (B * 12 + j)) ((D - 64).tdiv 4)).tdiv 256)) else U
     bif decide (0 < U (B * 12 + 8)) then putRow U1 B (moveV (fun j => U (B * 12 + j)) ((X * shareV (fun j => U (B * 12 + j)) (fun j => U (A * 12 + j)) ((D - 64).tdiv 4)).tdiv 256) ((Y * shareV (fun j => U (B * 12 + j)) (fun j => U (A * 12 + j)) ((D - 64).tdiv 4)).tdiv 256)) else U1)
  else U
structure Ap8 (w wc : World) (A B : Nat) (X Y D : Int) (ba bb : Nat) (VA VB : Nat → Int) : Prop where
  k0 : wc.cell? ⟨w.heap.size, 0, none⟩ = some (.int .i64 (A : Int))
  k1 : wc.cell? ⟨w.heap.size, 1, none⟩ = some (.int .i64 (B : Int))
  k2 : wc.cell? ⟨w.heap.size, 2, none⟩ = some (.int .i64 X)
  k3 : wc.cell? ⟨w.heap.size, 3, none⟩ = some (.int .i64 Y)
  k4 : wc.cell? ⟨w.heap.size, 4, none⟩ = some (.int .i64 D)
  ca : ∀ j, j < 12 → wc.cell? ⟨ba, j, none⟩ = some (.int .i64 (VA j))
  cb : ∀ j, j < 12 → wc.cell? ⟨bb, j, none⟩ = some (.int .i64 (VB j))
  l0 : w.heap.size < wc.heap.size
  la : ba < wc.heap.size
  lb : bb < wc.heap.size
  ga : w.heap.size < ba
  gb : w.heap.size < bb
theorem Ap8.on {w wc w' : World} {A B : Nat} {X Y D : Int} {ba bb : Nat} {VA VB : Nat → Int} (h : Ap8 w wc A B X Y D ba bb VA VB) (hb : Below wc.heap.size wc w') : Ap8 w w' A B X Y D ba bb VA VB :=
  have k := fun j => hb.cell (p := ⟨w.heap.size, j, none⟩) h.l0
  ⟨(k 0).trans h.k0, (k 1).trans h.k1, (k 2).trans h.k2, (k 3).trans h.k3, (k 4).trans h.k4, fun j hj => (hb.cell (p := ⟨ba, j, none⟩) h.la).trans (h.ca j hj), fun j hj => (hb.cell (p := ⟨bb, j, none⟩) h.lb).trans (h.cb j hj), Nat.lt_of_lt_of_le h.l0 hb.size, Nat.lt_of_lt_of_le h.la hb.size, Nat.lt_of_lt_of_le h.lb hb.size, h.ga, h.gb⟩
theorem Ap8.fr {w wc w' : World} {A B g : Nat} {X Y D : Int} {ba bb : Nat} {VA VB : Nat → Int} (h : Ap8 w wc A B X Y D ba bb VA VB) (hs : Fr (fun b => b = g) wc w') (hg : g < w.heap.size) : Ap8 w w' A B X Y D ba bb VA VB := by
  have ga := h.ga
  have gb := h.gb
  have k := fun j => hs.cell (p := ⟨w.heap.size, j, none⟩) h.l0 (by simp; omega)
  exact ⟨(k 0).trans h.k0, (k 1).trans h.k1, (k 2).trans h.k2, (k 3).trans h.k3, (k 4).trans h.k4, fun j hj => (hs.cell (p := ⟨ba, j, none⟩) h.la (by simp; omega)).trans (h.ca j hj), fun j hj => (hs.cell (p := ⟨bb, j, none⟩) h.lb (by simp; omega)).trans (h.cb j hj), Nat.lt_of_lt_of_le h.l0 hs.size, Nat.lt_of_lt_of_le h.la hs.size, Nat.lt_of_lt_of_le h.lb hs.size, h.ga, h.gb⟩
end Go.Proofs.YtejminehbnebmaaGreat
namespace Go.Proofs.YtejminehbnebmaaGreat
open Go.RowKit
set_option linter.unusedVariables false
set_option linter.unusedSimpArgs false
/-- a body's count of quiet steps: V now, r what it was -/
def quietV (r : Int) (V : Nat → Int) : Nat → Int := bif decide (V 8 = 0) || decide (8 ≤ V 11) then V else setV V 11 (bif decide (-8 ≤ spX V ∧ spX V ≤ 8) && decide (-8 ≤ spY V ∧ spY V ≤ 8) then mn (r + 1) 7 else 0)
end Go.Proofs.YtejminehbnebmaaGreat
namespace Go.Proofs.YtejminehbnebmaaGreat
open Go.RowKit
set_option linter.unusedVariables false
set_option linter.unusedSimpArgs false
/-- a body that is ok, said plainly -/
structure BOk (V : Nat → Int) : Prop where
  i0 : 0 ≤ V 0 ∧ V 0 ≤ 999999999
  sh : shB (V 1) (V 2) (V 3) = true
  a4 : -2560000 ≤ V 4 ∧ V 4 ≤ 2560000
  a5 : -2560000 ≤ V 5 ∧ V 5 ≤ 2560000
  d6 : -20000000 ≤ V 6 ∧ V 6 ≤ 20000000
  d7 : -20000000 ≤ V 7 ∧ V 7 ≤ 20000000
  m8 : 0 ≤ V 8 ∧ V 8 ≤ 1000
  b9 : 0 ≤ V 9 ∧ V 9 ≤ 256
  r10 : 0 ≤ V 10 ∧ V 10 ≤ 256
  q11 : 0 ≤ V 11 ∧ V 11 ≤ 8
  fx : V 8 = 0 → V 11 = 0
  rs : (V 8 ≠ 0 ∧ V 11 ≠ 8) ∨ (V 6 = 0 ∧ V 7 = 0)
theorem BOk.of {V : Nat → Int} (h : bodyB V = true) : BOk V := by
  unfold bodyB restB inB at h
  simp only [Bool.and_eq_true, decide_eq_true_eq] at h
  obtain ⟨a0, a1, a2, a3, a4, a5, a6, a7, a8, a9⟩ := h
  exact ⟨a0, a1, by omega, by omega, by omega, by omega, a4, a5, a6, a7, a8, a9⟩
theorem BOk.to {V : Nat → Int} (h : BOk V) : bodyB V = true := by
  obtain ⟨a0, a1, a2, a3, a4, a5, a6, a7, a8, a9, b0, b1⟩ := h
  unfold bodyB restB inB
  simp only [Bool.and_eq_true, decide_eq_true_eq]
  exact ⟨a0, a1, by omega, by omega, a6, a7, a8, a9, b0, b1⟩
theorem clampZ_in (l n : Int) (h : 0 ≤ l) : -l ≤ clampZ l n ∧ clampZ l n ≤ l := by unfold clampZ; repeat (first | omega | split)
theorem setV_ne {V : Nat → Int} {k j : Nat} {a : Int} (h : j ≠ k) : setV V k a j = V j := by unfold setV; rw [if_neg h]
theorem setV_eq {V : Nat → Int} {k : Nat} {a : Int} : setV V k a k = a := by unfold setV; rw [if_pos rfl]
theorem pull_ok {V : Nat → Int} (g : Int) (h : BOk V) : BOk (pullV g V) := by
  unfold pullV
  cases hl : liveV V with
  | false => exact h
  | true =>
    unfold liveV at hl
    simp only [Bool.and_eq_true, decide_eq_true_eq, Bool.not_eq_true', decide_eq_false_iff_not] at hl
    have c := clampZ_in 20000000 (V 7 - g * V 8) (by omega)
    generalize clampZ 20000000 (V 7 - g * V 8) = y at c
    show BOk (setV V 7 y)
    obtain ⟨a0, a1, a2, a3, a4, a5, a6, a7, a8, a9, b0, b1⟩ := h
    constructor <;> simp only [setV, reduceIte] <;> (first | assumption | omega | (simp; assumption) | (simp; omega))
theorem setV4 (V : Nat → Int) (x y u v : Int) : (∀ j, j ≠ 4 → j ≠ 5 → j ≠ 6 → j ≠ 7 → setV (setV (setV (setV V 4 x) 5 y) 6 u) 7 v j = V j) ∧ setV (setV (setV (setV V 4 x) 5 y) 6 u) 7 v 4 = x ∧ setV (setV (setV (setV V 4 x) 5 y) 6 u) 7 v 5 = y ∧ setV (setV (setV (setV V 4 x) 5 y) 6 u) 7 v 6 = u ∧ setV (setV (setV (setV V 4 x) 5 y) 6 u) 7 v 7 = v := by
  refine ⟨fun j h4 h5 h6 h7 => ?_, ?_, ?_, ?_, setV_eq⟩
  · rw [setV_ne h7, setV_ne h6, setV_ne h5, setV_ne h4]
  · rw [setV_ne (by decide), setV_ne (by decide), setV_ne (by decide), setV_eq]
  · rw [setV_ne (by decide), setV_ne (by decide), setV_eq]
  · rw [setV_ne (by decide), setV_eq]
theorem setV3 (V : Nat → Int) (x y u : Int) : (∀ j, j ≠ 6 → j ≠ 7 → j ≠ 11 → setV (setV (setV V 6 x) 7 y) 11 u j = V j) ∧ setV (setV (setV V 6 x) 7 y) 11 u 6 = x ∧ setV (setV (setV V 6 x) 7 y) 11 u 7 = y ∧ setV (setV (setV V 6 x) 7 y) 11 u 11 = u := by
  refine ⟨fun j h6 h7 h11 => ?_, ?_, ?_, setV_eq⟩
  · rw [setV_ne h11, setV_ne h7, setV_ne h6]
  · rw [setV_ne (by decide), setV_ne (by decide), setV_eq]
  · rw [setV_ne (by decide), setV_eq]
theorem move_ok {V : Nat → Int} (p q : Int) (h : BOk V) (hm : V 8 ≠ 0) : BOk (moveV V p q) := by
  have c1 := clampZ_in 2560000 (V 4 + p) (by omega)
  have c2 := clampZ_in 2560000 (V 5 + q) (by omega)
  unfold moveV mvX mvY
  generalize clampZ 2560000 (V 4 + p) = x at c1
  generalize clampZ 2560000 (V 5 + q) = y at c2
  obtain ⟨a0, a1, a2, a3, a4, a5, a6, a7, a8, a9, b0, b1⟩ := h
  obtain ⟨u, hu⟩ : ∃ u, (if x = V 4 + p then V 6 else 0) = u := ⟨_, rfl⟩
  obtain ⟨v, hv⟩ : ∃ v, (if y = V 5 + q then V 7 else 0) = v := ⟨_, rfl⟩
  rw [hu, hv]
  have bu : (-20000000 ≤ u ∧ u ≤ 20000000) ∧ (V 6 = 0 → u = 0) := by rw [← hu]; split <;> constructor <;> (try intro) <;> omega
  have bv : (-20000000 ≤ v ∧ v ≤ 20000000) ∧ (V 7 = 0 → v = 0) := by rw [← hv]; split <;> constructor <;> (try intro) <;> omega
  obtain ⟨e, e4, e5, e6, e7⟩ := setV4 V x y u v
  generalize setV (setV (setV (setV V 4 x) 5 y) 6 u) 7 v = W at e e4 e5 e6 e7
  have w0 := e 0 (by decide) (by decide) (by decide) (by decide)
  have w1 := e 1 (by decide) (by decide) (by decide) (by decide)
  have w2 := e 2 (by decide) (by decide) (by decide) (by decide)
  have w3 := e 3 (by decide) (by decide) (by decide) (by decide)
  have w8 := e 8 (by decide) (by decide) (by decide) (by decide)
  have w9 := e 9 (by decide) (by decide) (by decide) (by decide)
  have wa := e 10 (by decide) (by decide) (by decide) (by decide)
  have wb := e 11 (by decide) (by decide) (by decide) (by decide)
  exact ⟨by rw [w0]; exact a0, by rw [w1, w2, w3]; exact a1, by rw [e4]; exact c1, by rw [e5]; exact c2, by rw [e6]; exact bu.1, by rw [e7]; exact bv.1, by rw [w8]; exact a6, by rw [w9]; exact a7, by rw [wa]; exact a8, by rw [wb]; exact a9, by rw [w8, wb]; exact b0, by rw [w8, wb, e6, e7]; rcases b1 with q | q; exact .inl q; exact .inr ⟨bu.2 q.1, bv.2 q.2⟩⟩
theorem go_ok {V : Nat → Int} (h : BOk V) : BOk (goV V) := by
  unfold goV
  cases hl : liveV V with
  | false => exact h
  | true =>
    unfold liveV at hl
    simp only [Bool.and_eq_true, decide_eq_true_eq, Bool.not_eq_true', decide_eq_false_iff_not] at hl
    exact move_ok _ _ h (by omega)
theorem quiet_ok {V : Nat → Int} (r : Int) (h : BOk V) (hr : 0 ≤ r ∧ r ≤ 8) : BOk (quietV r V) := by
  unfold quietV
  cases hl : (decide (V 8 = 0) || decide (8 ≤ V 11)) with
  | true => exact h
  | false =>
    simp only [Bool.or_eq_false_iff, decide_eq_false_iff_not] at hl
    obtain ⟨z, hz⟩ : ∃ z, (bif decide (-8 ≤ spX V ∧ spX V ≤ 8) && decide (-8 ≤ spY V ∧ spY V ≤ 8) then mn (r + 1) 7 else 0) = z := ⟨_, rfl⟩
    rw [hz]
    have bz : 0 ≤ z ∧ z ≤ 7 := by
      rw [← hz]
      cases (decide (-8 ≤ spX V ∧ spX V ≤ 8) && decide (-8 ≤ spY V ∧ spY V ≤ 8))
      · exact ⟨by show (0 : Int) ≤ 0; omega, by show (0 : Int) ≤ 7; omega⟩
      · show 0 ≤ mn (r + 1) 7 ∧ mn (r + 1) 7 ≤ 7
        unfold mn
        split <;> omega
    show BOk (setV V 11 z)
    obtain ⟨a0, a1, a2, a3, a4, a5, a6, a7, a8, a9, b0, b1⟩ := h
    constructor <;> simp only [setV, reduceIte] <;> (first | assumption | omega | (simp; assumption) | (simp; omega))
theorem push_ok {V : Nat → Int} (p q : Int) (h : BOk V) : BOk (pushV V p q) := by
  unfold pushV
  by_cases m : V 8 = 0
  · rw [if_pos m]; exact h
  · rw [if_neg m]
    have c1 := clampZ_in 20000000 (V 6 + p) (by omega)
    have c2 := clampZ_in 20000000 (V 7 + q) (by omega)
    generalize clampZ 20000000 (V 6 + p) = x at c1
    generalize clampZ 20000000 (V 7 + q) = y at c2
    obtain ⟨a0, a1, a2, a3, a4, a5, a6, a7, a8, a9, b0, b1⟩ := h
    obtain ⟨e, e6, e7, eb⟩ := setV3 V x y 0
    generalize setV (setV (setV V 6 x) 7 y) 11 0 = W at e e6 e7 eb
    have w0 := e 0 (by decide) (by decide) (by decide)
    have w1 := e 1 (by decide) (by decide) (by decide)
    have w2 := e 2 (by decide) (by decide) (by decide)
    have w3 := e 3 (by decide) (by decide) (by decide)
    have w4 := e 4 (by decide) (by decide) (by decide)
    have w5 := e 5 (by decide) (by decide) (by decide)
    have w8 := e 8 (by decide) (by decide) (by decide)
    have w9 := e 9 (by decide) (by decide) (by decide)
    have wa := e 10 (by decide) (by decide) (by decide)
    exact ⟨by rw [w0]; exact a0, by rw [w1, w2, w3]; exact a1, by rw [w4]; exact a2, by rw [w5]; exact a3, by rw [e6]; exact c1, by rw [e7]; exact c2, by rw [w8]; exact a6, by rw [w9]; exact a7, by rw [wa]; exact a8, by rw [eb]; omega, by rw [eb]; exact fun _ => rfl, .inl ⟨by rw [w8]; exact m, by rw [eb]; decide⟩⟩
/-- one row replaced by a body with the same number -/
theorem Bods.put {n : Nat} {U : Nat → Int} {k : Nat} {V : Nat → Int} (h : Bods n U) (hk : k < n) (hV : BOk V) (h0 : V 0 = U (k * 12)) : Bods n (putRow U k V) := by
  have at_ : ∀ i j, i ≠ k → j < 12 → putRow U k V (i * 12 + j) = U (i * 12 + j) := fun i j hi hj => by unfold putRow; rw [if_neg (by omega)]
  have at0 : ∀ i, putRow U k V (i * 12) = U (i * 12) := fun i => by
    by_cases e : i = k
    · subst e; unfold putRow; rw [if_pos (by omega), Nat.sub_self]; exact h0
    · have := at_ i 0 e (by omega); simpa using this
  refine ⟨h.le, fun i hi => ?_, fun i hi => ?_⟩
  · by_cases e : i = k
    · subst e
      rw [bodyB_cong (W := V) (fun j hj => by unfold putRow; rw [if_pos (by omega), Nat.add_sub_cancel_left])]
      exact hV.to
    · rw [bodyB_cong (W := fun j => U (i * 12 + j)) (fun j hj => at_ i j e hj)]
      exact h.ok i hi
  · rw [at0, at0]; exact h.asc i hi
theorem Bods.row {n : Nat} {U : Nat → Int} (h : Bods n U) {k : Nat} (hk : k < n) : BOk (fun j => U (k * 12 + j)) := BOk.of (h.ok k hk)
theorem Bods.pull {n : Nat} {U : Nat → Int} (h : Bods n U) (g : Int) : Bods n (mapR (fun _ V => pullV g V) U n) :=
  h.map (fun k hk => (pull_ok g (h.row hk)).to) (fun k hk => by show pullV g (fun j => U (k * 12 + j)) 0 = _; unfold pullV; cases liveV (fun j => U (k * 12 + j)) <;> rfl)
theorem Bods.go {n : Nat} {U : Nat → Int} (h : Bods n U) : Bods n (mapR (fun _ V => goV V) U n) :=
  h.map (fun k hk => (go_ok (h.row hk)).to) (fun k hk => by show goV (fun j => U (k * 12 + j)) 0 = _; unfold goV; cases liveV (fun j => U (k * 12 + j)) <;> rfl)
theorem Bods.quiet {n : Nat} {U U2 : Nat → Int} (h : Bods n U) (h2 : Bods n U2) : Bods n (mapR (fun i V => quietV (U2 (i * 12 + 11)) V) U n) :=
  h.map (fun k hk => (quiet_ok _ (h.row hk) (h2.row hk).q11).to) (fun k hk => by show quietV _ (fun j => U (k * 12 + j)) 0 = _; unfold quietV; cases (decide ((fun j => U (k * 12 + j)) 8 = 0) || decide (8 ≤ (fun j => U (k * 12 + j)) 11)) <;> rfl)
end Go.Proofs.YtejminehbnebmaaGreat
namespace Go.Proofs.YtejminehbnebmaaGreat
open Go.RowKit
set_option linter.unusedVariables false
set_option linter.unusedSimpArgs false
theorem moveV_0 (V : Nat → Int) (p q : Int) : moveV V p q 0 = V 0 := rfl
theorem moveV_8 (V : Nat → Int) (p q : Int) : moveV V p q 8 = V 8 := rfl
theorem putRow_8 {U V : Nat → Int} {k i : Nat} (h : V 8 = U (k * 12 + 8)) : putRow U k V (i * 12 + 8) = U (i * 12 + 8) := by
  unfold putRow
  by_cases e : i = k
  · subst e; rw [if_pos (by omega), Nat.add_sub_cancel_left]; exact h
  · rw [if_neg (by omega)]
theorem putRow_else {U V : Nat → Int} {k i j : Nat} (e : i ≠ k) (hj : j < 12) : putRow U k V (i * 12 + j) = U (i * 12 + j) := by unfold putRow; rw [if_neg (by omega)]
theorem Bods.apart {n : Nat} {U : Nat → Int} (h : Bods n U) {A B : Nat} (hA : A < n) (hB : B < n) (hAB : A ≠ B) (X Y D : Int) : Bods n (apartU U A B X Y D) ∧ ∀ i, apartU U A B X Y D (i * 12 + 8) = U (i * 12 + 8) := by
  unfold apartU
  cases decide (0 < (D - 64).tdiv 4) with
  | false => exact ⟨h, fun i => rfl⟩
  | true =>
    simp only [cond_true]
    generalize (-X * shareV (fun j => U (A * 12 + j)) (fun j => U (B * 12 + j)) ((D - 64).tdiv 4)).tdiv 256 = p
    generalize (-Y * shareV (fun j => U (A * 12 + j)) (fun j => U (B * 12 + j)) ((D - 64).tdiv 4)).tdiv 256 = q
    generalize (X * shareV (fun j => U (B * 12 + j)) (fun j => U (A * 12 + j)) ((D - 64).tdiv 4)).tdiv 256 = r
    generalize (Y * shareV (fun j => U (B * 12 + j)) (fun j => U (A * 12 + j)) ((D - 64).tdiv 4)).tdiv 256 = s
    have key : ∀ U1 : Nat → Int, Bods n U1 → (∀ i, U1 (i * 12 + 8) = U (i * 12 + 8)) → (U1 (B * 12) = U (B * 12)) → Bods n (bif decide (0 < U (B * 12 + 8)) then putRow U1 B (moveV (fun j => U (B * 12 + j)) r s) else U1) ∧ ∀ i, (bif decide (0 < U (B * 12 + 8)) then putRow U1 B (moveV (fun j => U (B * 12 + j)) r s) else U1) (i * 12 + 8) = U (i * 12 + 8) := by
      intro U1 h1 h8 h0
      by_cases m : 0 < U (B * 12 + 8)
      · rw [decide_eq_true m]
        exact ⟨h1.put hB (move_ok r s (h.row hB) (by show U (B * 12 + 8) ≠ 0; omega)) (by rw [moveV_0, h0]; rfl), fun i => (putRow_8 (by rw [moveV_8, h8])).trans (h8 i)⟩
      · rw [decide_eq_false m]; exact ⟨h1, h8⟩
    by_cases m : 0 < U (A * 12 + 8)
    · rw [decide_eq_true m]
      refine key _ (h.put hA (move_ok p q (h.row hA) (by show U (A * 12 + 8) ≠ 0; omega)) (by rw [moveV_0]; rfl)) (fun i => putRow_8 (by rw [moveV_8])) ?_
      have := putRow_else (U := U) (V := moveV (fun j => U (A * 12 + j)) p q) (k := A) (i := B) (j := 0) (fun e => hAB e.symm) (by omega)
      simpa using this
    · rw [decide_eq_false m]; exact key U h (fun i => rfl) rfl
def apartN (C U : Nat → Int) : Nat → Nat → Int
  | 0 => U
  | k + 1 => apartU (apartN C U k) (C (k * 5)).toNat (C (k * 5 + 1)).toNat (C (k * 5 + 2)) (C (k * 5 + 3)) (C (k * 5 + 4))
/-- contacts that are ok: places of bodies, two different ones; the hit within limits -/
structure CtOk (n m : Nat) (C : Nat → Int) : Prop where
  a : ∀ k, k < m → 0 ≤ C (k * 5) ∧ C (k * 5) < (n : Int)
  b : ∀ k, k < m → 0 ≤ C (k * 5 + 1) ∧ C (k * 5 + 1) < (n : Int)
  ne : ∀ k, k < m → C (k * 5) ≠ C (k * 5 + 1)
  x : ∀ k, k < m → -256 ≤ C (k * 5 + 2) ∧ C (k * 5 + 2) ≤ 256
  y : ∀ k, k < m → -256 ≤ C (k * 5 + 3) ∧ C (k * 5 + 3) ≤ 256
  d : ∀ k, k < m → 0 ≤ C (k * 5 + 4) ∧ C (k * 5 + 4) ≤ 102400
theorem Bods.aparts {n m : Nat} {U C : Nat → Int} (h : Bods n U) (hC : CtOk n m C) : ∀ k, k ≤ m → Bods n (apartN C U k) ∧ ∀ i, apartN C U k (i * 12 + 8) = U (i * 12 + 8)
  | 0, _ => ⟨h, fun i => rfl⟩
  | k + 1, hk => by
    obtain ⟨h1, h2⟩ := Bods.aparts h hC k (by omega)
    have ha := hC.a k (by omega)
    have hb := hC.b k (by omega)
    have hn := hC.ne k (by omega)
    obtain ⟨q1, q2⟩ := h1.apart (A := (C (k * 5)).toNat) (B := (C (k * 5 + 1)).toNat) (by omega) (by omega) (by omega) (C (k * 5 + 2)) (C (k * 5 + 3)) (C (k * 5 + 4))
    exact ⟨q1, fun i => (q2 i).trans (h2 i)⟩
end Go.Proofs.YtejminehbnebmaaGreat
namespace Go.Proofs.YtejminehbnebmaaGreat
open Go.RowKit
set_option linter.unusedVariables false
set_option linter.unusedSimpArgs false

theorem col_put {U V : Nat → Int} {k i j : Nat} (hi : i < 12) : colOf (putRow U k V) i j = if j = k then V i else colOf U i j := by
  unfold colOf putRow
  by_cases e : j = k
  · subst e; rw [if_pos (by omega), if_pos rfl, Nat.add_sub_cancel_left]
  · rw [if_neg (by omega), if_neg e]
theorem putRow_self (U : Nat → Int) (k : Nat) : putRow U k (fun j => U (k * 12 + j)) = U := by
  funext q
  unfold putRow
  by_cases e : k * 12 ≤ q ∧ q < k * 12 + 12
  · rw [if_pos e]; exact congrArg U (by omega)
  · rw [if_neg e]
theorem shareV_congr {V W V' W' : Nat → Int} (m : Int) (h1 : V 8 = V' 8) (h2 : W 8 = W' 8) : shareV V W m = shareV V' W' m := by unfold shareV; rw [h1, h2]
theorem moveV_zero {V : Nat → Int} (a4 : -2560000 ≤ V 4 ∧ V 4 ≤ 2560000) (a5 : -2560000 ≤ V 5 ∧ V 5 ≤ 2560000) : moveV V 0 0 = V := by
  have e4 : clampZ 2560000 (V 4 + 0) = V 4 := by unfold clampZ; repeat' split
                                                 all_goals omega
  have e5 : clampZ 2560000 (V 5 + 0) = V 5 := by unfold clampZ; repeat' split
                                                 all_goals omega
  unfold moveV mvX mvY
  rw [e4, e5, if_pos (by omega), if_pos (by omega)]
  funext j
  unfold setV
  repeat' split
  all_goals (first | rfl | (subst_vars; rfl))
theorem row_else {U V : Nat → Int} {k l : Nat} (h : l ≠ k) : ∀ j, j < 12 → putRow U k V (l * 12 + j) = U (l * 12 + j) := fun j hj => putRow_else h hj
theorem row_is {U V : Nat → Int} {k : Nat} : ∀ j, j < 12 → putRow U k V (k * 12 + j) = V j := fun j hj => by unfold putRow; rw [if_pos (by omega), Nat.add_sub_cancel_left]
theorem putRow_congr {U V W : Nat → Int} {k : Nat} (h : ∀ j, j < 12 → V j = W j) : putRow U k V = putRow U k W := by
  funext q
  unfold putRow
  by_cases e : k * 12 ≤ q ∧ q < k * 12 + 12
  · rw [if_pos e, if_pos e]; exact h _ (by omega)
  · rw [if_neg e, if_neg e]
theorem moveV_congr {V W : Nat → Int} (p q : Int) (h : ∀ j, j < 12 → V j = W j) : ∀ j, j < 12 → moveV V p q j = moveV W p q j := fun j hj => by
  unfold moveV mvX mvY setV
  rw [h 4 (by omega), h 5 (by omega), h 6 (by omega), h 7 (by omega), h j hj]
/-- one behind the other, they are moved apart -/
theorem apart_two {U : Nat → Int} {A B : Nat} {x y d p q r s : Int} (hAB : A ≠ B) (hA : BOk (fun j => U (A * 12 + j))) (hB : BOk (fun j => U (B * 12 + j))) (hm : 0 < (d - 64).tdiv 4)
    (ep : (-x * shareV (fun j => U (A * 12 + j)) (fun j => U (B * 12 + j)) ((d - 64).tdiv 4)).tdiv 256 = p) (eq : (-y * shareV (fun j => U (A * 12 + j)) (fun j => U (B * 12 + j)) ((d - 64).tdiv 4)).tdiv 256 = q)
    (er : (x * shareV (fun j => U (B * 12 + j)) (fun j => U (A * 12 + j)) ((d - 64).tdiv 4)).tdiv 256 = r) (es : (y * shareV (fun j => U (B * 12 + j)) (fun j => U (A * 12 + j)) ((d - 64).tdiv 4)).tdiv 256 = s) :
    putRow (putRow U A (moveV (fun j => U (A * 12 + j)) p q)) B (moveV (fun j => putRow U A (moveV (fun j => U (A * 12 + j)) p q) (B * 12 + j)) r s) = apartU U A B x y d := by
  have e1 : putRow U A (moveV (fun j => U (A * 12 + j)) p q) = bif decide (0 < U (A * 12 + 8)) then putRow U A (moveV (fun j => U (A * 12 + j)) p q) else U := by
    by_cases z : 0 < U (A * 12 + 8)
    · rw [decide_eq_true z, cond_true]
    · rw [decide_eq_false z, cond_false]
      have z8 : U (A * 12 + 8) = 0 := by have := hA.m8; omega
      have s0 : shareV (fun j => U (A * 12 + j)) (fun j => U (B * 12 + j)) ((d - 64).tdiv 4) = 0 := by unfold shareV; rw [show decide (U (A * 12 + 8) = 0) = true from decide_eq_true z8]; rfl
      rw [s0, Int.mul_zero] at ep eq
      have p0 : p = 0 := ep.symm
      have q0 : q = 0 := eq.symm
      rw [p0, q0, moveV_zero hA.a4 hA.a5, putRow_self]
  have e2 : ∀ U1 : Nat → Int, (∀ j, j < 12 → U1 (B * 12 + j) = U (B * 12 + j)) → putRow U1 B (moveV (fun j => U1 (B * 12 + j)) r s) = bif decide (0 < U (B * 12 + 8)) then putRow U1 B (moveV (fun j => U (B * 12 + j)) r s) else U1 := by
    intro U1 h1
    by_cases z : 0 < U (B * 12 + 8)
    · rw [decide_eq_true z, cond_true]
      exact putRow_congr (moveV_congr r s h1)
    · rw [decide_eq_false z, cond_false]
      have z8 : U (B * 12 + 8) = 0 := by have := hB.m8; omega
      have s0 : shareV (fun j => U (B * 12 + j)) (fun j => U (A * 12 + j)) ((d - 64).tdiv 4) = 0 := by unfold shareV; rw [show decide (U (B * 12 + 8) = 0) = true from decide_eq_true z8]; rfl
      rw [s0, Int.mul_zero] at er es
      have r0 : r = 0 := er.symm
      have s0 : s = 0 := es.symm
      have a4 := hB.a4
      have a5 := hB.a5
      rw [r0, s0, moveV_zero (V := fun j => U1 (B * 12 + j)) (by rw [h1 4 (by omega)]; exact a4) (by rw [h1 5 (by omega)]; exact a5), putRow_self]
  rw [e2 _ (row_else (fun e => hAB e.symm)), e1]
  unfold apartU
  rw [decide_eq_true hm, ep, eq, er, es]
  rfl
end Go.Proofs.YtejminehbnebmaaGreat
namespace Go.Proofs.YtejminehbnebmaaGreat
open Go.RowKit
set_option linter.unusedVariables false
set_option linter.unusedSimpArgs false

end Go.Proofs.YtejminehbnebmaaGreat
namespace Go.Proofs.YtejminehbnebmaaGreat
open Go.RowKit
set_option linter.unusedVariables false
set_option linter.unusedSimpArgs false

theorem wayHeld_z (x y l a b : Int) (w : World) (h0 : 0 ≤ l) (h1 : l ≤ 4000000000) (ea : clampZ l x = a) (eb : clampZ l y = b) :
    Calls Tryz.prog 84 #[vv x y, .int .i64 l] w fun e w' => e = .returned (vv a b) ∧ Below w.heap.size w w' := by
  subst ea eb; exact wayHeld_any x y l w h0 h1
end Go.Proofs.YtejminehbnebmaaGreat
namespace Go.Proofs.YtejminehbnebmaaGreat
open Go.RowKit
set_option linter.unusedVariables false
set_option linter.unusedSimpArgs false

end Go.Proofs.YtejminehbnebmaaGreat
namespace Go.Proofs.YtejminehbnebmaaGreat
open Go.RowKit
set_option linter.unusedVariables false
set_option linter.unusedSimpArgs false

end Go.Proofs.YtejminehbnebmaaGreat
namespace Go.Proofs.YtejminehbnebmaaGreat
open Go.RowKit
set_option linter.unusedVariables false
set_option linter.unusedSimpArgs false

set_option maxHeartbeats 4000000 in
theorem opp_z (x y : Int) (w : World) (hx : -2000000000 ≤ x ∧ x ≤ 2000000000) (hy : -2000000000 ≤ y ∧ y ≤ 2000000000) :
    Calls Tryz.prog 54 #[vv x y] w fun e w' => e = .returned (vv (-x) (-y)) ∧ Below w.heap.size w w' := by
  have hset := cset_map
  have w1 := i64w (n := -x) (by omega)
  have w2 := i64w (n := -y) (by omega)
  go_enter Tryz.func54, Tryz.ntmps54
  go_wp2_with fail
  exact bodyPost_ret (v := vv (-x) (-y)) (by simp [results, Tryz.results54, go_sem, *]) rfl ⟨rfl, bel_a⟩
end Go.Proofs.YtejminehbnebmaaGreat
namespace Go.Proofs.YtejminehbnebmaaGreat
open Go.RowKit
set_option linter.unusedVariables false
set_option linter.unusedSimpArgs false

theorem td_sh {x m : Int} (hx : -256 ≤ x ∧ x ≤ 256) (hm : 0 ≤ m ∧ m ≤ 30000) : -30000 ≤ (x * m).tdiv 256 ∧ (x * m).tdiv 256 ≤ 30000 ∧ fc ((x * m).tdiv 256) = (x * m).tdiv 256 := by
  have p := mul_bd (a := x) (b := m) (A := 256) (B := 30000) hx (by omega)
  have t := tdiv_le (x := x * m) (B := 30000) (m := 256) (by omega) (by omega) (by omega)
  exact ⟨t.1, t.2, fc_id (by omega) (by omega)⟩
end Go.Proofs.YtejminehbnebmaaGreat
namespace Go.Proofs.YtejminehbnebmaaGreat
open Go.RowKit
set_option linter.unusedVariables false
set_option linter.unusedSimpArgs false

end Go.Proofs.YtejminehbnebmaaGreat
