/- BodyPush, by the specification; two bodies that are the same; the walk of the exact law of BodyPush. -/
import Derived.Test.YtflgmpppnobogaaSPush
import Derived.Test.YtflgmpppnobogaaBPu1
import Derived.Test.YtflgmpppnobogaaBPu2
import Derived.Test.YtflgmpppnobogaaBPu3
import Derived.Test.YtflgmpppnobogaaToBody
import Derived.Deep.RegionHeld3
import Derived.Deep.DeepCutAuto
namespace Go.Proofs.Ytflgmpppnobogaa
open Go.RowKit
set_option linter.unusedVariables false
set_option linter.unusedSimpArgs false

set_option maxRecDepth 20000 in
set_option maxHeartbeats 8000000 in
theorem sBodyPush_1 (V : Nat → Int) (p q : Int) (w : World) (eb : bodyB V = false) :
    Calls Try.prog 25 #[bodyW V, vv p q] w fun e w' => e = .returned (bodyW (fun _ => 0)) ∧ Below w.heap.size w w' := by
  have hset := cset_map
  go_enter Try.func25, Try.ntmps25
  go_upto_region 1 with fail
  have h0 := PB.start w V p q
  generalize (((w.alloc (.cells #[.int .i64 (V 0), .int .i64 (V 1), .int .i64 (V 2), .int .i64 (V 3), .int .i64 (V 4), .int .i64 (V 5), .int .i64 (V 6), .int .i64 (V 7), .int .i64 (V 8), .int .i64 (V 9), .int .i64 (V 10), .int .i64 (V 11)] 28)).alloc (.cells #[.int .i64 p, .int .i64 q] 26)).alloc (.cells #[.int .i64 0, .int .i64 0, .int .i64 0, .int .i64 0, .int .i64 0, .int .i64 0, .int .i64 0, .int .i64 0, .int .i64 0, .int .i64 0, .int .i64 0, .int .i64 0] 28)) = wx0 at h0 ⊢
  have o0 := h0.inn 0 (by omega)
  have r0 := h0.res 0 (by omega)
  have f0 := h0.nfr 0 (by omega)
  have o1 := h0.inn 1 (by omega)
  have r1 := h0.res 1 (by omega)
  have f1 := h0.nfr 1 (by omega)
  have o2 := h0.inn 2 (by omega)
  have r2 := h0.res 2 (by omega)
  have f2 := h0.nfr 2 (by omega)
  have o3 := h0.inn 3 (by omega)
  have r3 := h0.res 3 (by omega)
  have f3 := h0.nfr 3 (by omega)
  have o4 := h0.inn 4 (by omega)
  have r4 := h0.res 4 (by omega)
  have f4 := h0.nfr 4 (by omega)
  have o5 := h0.inn 5 (by omega)
  have r5 := h0.res 5 (by omega)
  have f5 := h0.nfr 5 (by omega)
  have o6 := h0.inn 6 (by omega)
  have r6 := h0.res 6 (by omega)
  have f6 := h0.nfr 6 (by omega)
  have o7 := h0.inn 7 (by omega)
  have r7 := h0.res 7 (by omega)
  have f7 := h0.nfr 7 (by omega)
  have o8 := h0.inn 8 (by omega)
  have r8 := h0.res 8 (by omega)
  have f8 := h0.nfr 8 (by omega)
  have o9 := h0.inn 9 (by omega)
  have r9 := h0.res 9 (by omega)
  have f9 := h0.nfr 9 (by omega)
  have o10 := h0.inn 10 (by omega)
  have r10 := h0.res 10 (by omega)
  have f10 := h0.nfr 10 (by omega)
  have o11 := h0.inn 11 (by omega)
  have r11 := h0.res 11 (by omega)
  have f11 := h0.nfr 11 (by omega)
  have z0 := h0.big
  have hbel := h0.bel
  have y0 := h0.v0
  have y1 := h0.v1
  clear h0
  go_wp2_with (go_at_call 19; refine (sBodyOk_q V _ _ (by with_reducible assumption)).mono ?_; rintro e w1 ⟨rfl, hb1⟩; obtain ⟨hc1, hf1⟩ := bcell hb1; have hz1 := hb1.size; (try simp only [World.size_drew, World.size_alloc, World.size_setCell] at hc1 hf1 hz1); have hk1x0 := fun o => hc1 (w.heap.size) o (by omega); have hj1x0 := fun o => hf1 (w.heap.size) o (by omega); have hq1x0 : w.heap.size < w1.heap.size := (by omega); have hk1x1 := fun o => hc1 (w.heap.size + 1) o (by omega); have hj1x1 := fun o => hf1 (w.heap.size + 1) o (by omega); have hq1x1 : w.heap.size + 1 < w1.heap.size := (by omega); have hk1x2 := fun o => hc1 (w.heap.size + 1 + 1) o (by omega); have hj1x2 := fun o => hf1 (w.heap.size + 1 + 1) o (by omega); have hq1x2 : w.heap.size + 1 + 1 < w1.heap.size := (by omega); clear hc1 hf1)
  exact bodyPost_ret (v := bodyW (fun _ => 0)) (by simp [results, Try.results25, go_sem, *]) rfl ⟨rfl, by repeat (first | with_reducible apply Below.refl | (with_reducible apply Below.setCell; rotate_left; focus (first | omega | (simp; done) | (simp; omega))) | (with_reducible apply Below.alloc; rotate_left; focus (first | omega | (simp; done) | (simp; omega))) | with_reducible apply Below.drew | with_reducible apply belowDrewN | (with_reducible apply Below.trans; rotate_left; with_reducible apply Below.mono; with_reducible assumption; focus (first | omega | (simp; done) | (simp; omega))))⟩

set_option maxRecDepth 20000 in
set_option maxHeartbeats 8000000 in
theorem sBodyPush_2 (V : Nat → Int) (p q : Int) (w : World) (eb : bodyB V = true) (ed : inB 20000000 p q = false) :
    Calls Try.prog 25 #[bodyW V, vv p q] w fun e w' => e = .returned (bodyW (fun _ => 0)) ∧ Below w.heap.size w w' := by
  have hset := cset_map
  go_enter Try.func25, Try.ntmps25
  go_upto_region 1 with fail
  have h0 := PB.start w V p q
  generalize (((w.alloc (.cells #[.int .i64 (V 0), .int .i64 (V 1), .int .i64 (V 2), .int .i64 (V 3), .int .i64 (V 4), .int .i64 (V 5), .int .i64 (V 6), .int .i64 (V 7), .int .i64 (V 8), .int .i64 (V 9), .int .i64 (V 10), .int .i64 (V 11)] 28)).alloc (.cells #[.int .i64 p, .int .i64 q] 26)).alloc (.cells #[.int .i64 0, .int .i64 0, .int .i64 0, .int .i64 0, .int .i64 0, .int .i64 0, .int .i64 0, .int .i64 0, .int .i64 0, .int .i64 0, .int .i64 0, .int .i64 0] 28)) = wx0 at h0 ⊢
  have o0 := h0.inn 0 (by omega)
  have r0 := h0.res 0 (by omega)
  have f0 := h0.nfr 0 (by omega)
  have o1 := h0.inn 1 (by omega)
  have r1 := h0.res 1 (by omega)
  have f1 := h0.nfr 1 (by omega)
  have o2 := h0.inn 2 (by omega)
  have r2 := h0.res 2 (by omega)
  have f2 := h0.nfr 2 (by omega)
  have o3 := h0.inn 3 (by omega)
  have r3 := h0.res 3 (by omega)
  have f3 := h0.nfr 3 (by omega)
  have o4 := h0.inn 4 (by omega)
  have r4 := h0.res 4 (by omega)
  have f4 := h0.nfr 4 (by omega)
  have o5 := h0.inn 5 (by omega)
  have r5 := h0.res 5 (by omega)
  have f5 := h0.nfr 5 (by omega)
  have o6 := h0.inn 6 (by omega)
  have r6 := h0.res 6 (by omega)
  have f6 := h0.nfr 6 (by omega)
  have o7 := h0.inn 7 (by omega)
  have r7 := h0.res 7 (by omega)
  have f7 := h0.nfr 7 (by omega)
  have o8 := h0.inn 8 (by omega)
  have r8 := h0.res 8 (by omega)
  have f8 := h0.nfr 8 (by omega)
  have o9 := h0.inn 9 (by omega)
  have r9 := h0.res 9 (by omega)
  have f9 := h0.nfr 9 (by omega)
  have o10 := h0.inn 10 (by omega)
  have r10 := h0.res 10 (by omega)
  have f10 := h0.nfr 10 (by omega)
  have o11 := h0.inn 11 (by omega)
  have r11 := h0.res 11 (by omega)
  have f11 := h0.nfr 11 (by omega)
  have z0 := h0.big
  have hbel := h0.bel
  have y0 := h0.v0
  have y1 := h0.v1
  clear h0
  go_wp2_with (first
      | (go_at_call 50; refine (l6Drive_q _ _ _ _ (by with_reducible assumption)).mono ?_; rintro e w2 ⟨rfl, hb2⟩; obtain ⟨hc2, hf2⟩ := bcell hb2; have hz2 := hb2.size; (try simp only [World.size_drew, World.size_alloc, World.size_setCell] at hc2 hf2 hz2); have hk2x0 := fun o => hc2 (w.heap.size) o (by omega); have hj2x0 := fun o => hf2 (w.heap.size) o (by omega); have hq2x0 : w.heap.size < w2.heap.size := (by omega); have hk2x1 := fun o => hc2 (w.heap.size + 1) o (by omega); have hj2x1 := fun o => hf2 (w.heap.size + 1) o (by omega); have hq2x1 : w.heap.size + 1 < w2.heap.size := (by omega); have hk2x2 := fun o => hc2 (w.heap.size + 1 + 1) o (by omega); have hj2x2 := fun o => hf2 (w.heap.size + 1 + 1) o (by omega); have hq2x2 : w.heap.size + 1 + 1 < w2.heap.size := (by omega); clear hc2 hf2)
      | (go_at_call 19; refine (sBodyOk_q V _ _ (by with_reducible assumption)).mono ?_; rintro e w1 ⟨rfl, hb1⟩; obtain ⟨hc1, hf1⟩ := bcell hb1; have hz1 := hb1.size; (try simp only [World.size_drew, World.size_alloc, World.size_setCell] at hc1 hf1 hz1); have hk1x0 := fun o => hc1 (w.heap.size) o (by omega); have hj1x0 := fun o => hf1 (w.heap.size) o (by omega); have hq1x0 : w.heap.size < w1.heap.size := (by omega); have hk1x1 := fun o => hc1 (w.heap.size + 1) o (by omega); have hj1x1 := fun o => hf1 (w.heap.size + 1) o (by omega); have hq1x1 : w.heap.size + 1 < w1.heap.size := (by omega); have hk1x2 := fun o => hc1 (w.heap.size + 1 + 1) o (by omega); have hj1x2 := fun o => hf1 (w.heap.size + 1 + 1) o (by omega); have hq1x2 : w.heap.size + 1 + 1 < w1.heap.size := (by omega); clear hc1 hf1))
  exact bodyPost_ret (v := bodyW (fun _ => 0)) (by simp [results, Try.results25, go_sem, *]) rfl ⟨rfl, by repeat (first | with_reducible apply Below.refl | (with_reducible apply Below.setCell; rotate_left; focus (first | omega | (simp; done) | (simp; omega))) | (with_reducible apply Below.alloc; rotate_left; focus (first | omega | (simp; done) | (simp; omega))) | with_reducible apply Below.drew | with_reducible apply belowDrewN | (with_reducible apply Below.trans; rotate_left; with_reducible apply Below.mono; with_reducible assumption; focus (first | omega | (simp; done) | (simp; omega))))⟩

set_option maxRecDepth 20000 in
set_option maxHeartbeats 8000000 in
theorem sBodyPush_3 (V : Nat → Int) (p q : Int) (w : World) (eb : bodyB V = true) (ed : inB 20000000 p q = true) :
    Calls Try.prog 25 #[bodyW V, vv p q] w fun e w' => e = .returned (bodyW (pushV V p q)) ∧ Below w.heap.size w w' := by
  have hset := cset_map
  obtain ⟨⟨m0, m1⟩, ⟨n0, n1⟩, ⟨x0, x1⟩, ⟨y0, y1⟩, ⟨u0, u1⟩, ⟨v0, v1⟩, _⟩ := bodyB_bd eb
  obtain ⟨⟨p0, p1⟩, ⟨q0, q1⟩⟩ := inB_of ed
  go_enter Try.func25, Try.ntmps25
  go_upto_region 1 with fail
  have h0 := PB.start w V p q
  generalize (((w.alloc (.cells #[.int .i64 (V 0), .int .i64 (V 1), .int .i64 (V 2), .int .i64 (V 3), .int .i64 (V 4), .int .i64 (V 5), .int .i64 (V 6), .int .i64 (V 7), .int .i64 (V 8), .int .i64 (V 9), .int .i64 (V 10), .int .i64 (V 11)] 28)).alloc (.cells #[.int .i64 p, .int .i64 q] 26)).alloc (.cells #[.int .i64 0, .int .i64 0, .int .i64 0, .int .i64 0, .int .i64 0, .int .i64 0, .int .i64 0, .int .i64 0, .int .i64 0, .int .i64 0, .int .i64 0, .int .i64 0] 28)) = wx0 at h0 ⊢
  have o0 := h0.inn 0 (by omega)
  have r0 := h0.res 0 (by omega)
  have f0 := h0.nfr 0 (by omega)
  have o1 := h0.inn 1 (by omega)
  have r1 := h0.res 1 (by omega)
  have f1 := h0.nfr 1 (by omega)
  have o2 := h0.inn 2 (by omega)
  have r2 := h0.res 2 (by omega)
  have f2 := h0.nfr 2 (by omega)
  have o3 := h0.inn 3 (by omega)
  have r3 := h0.res 3 (by omega)
  have f3 := h0.nfr 3 (by omega)
  have o4 := h0.inn 4 (by omega)
  have r4 := h0.res 4 (by omega)
  have f4 := h0.nfr 4 (by omega)
  have o5 := h0.inn 5 (by omega)
  have r5 := h0.res 5 (by omega)
  have f5 := h0.nfr 5 (by omega)
  have o6 := h0.inn 6 (by omega)
  have r6 := h0.res 6 (by omega)
  have f6 := h0.nfr 6 (by omega)
  have o7 := h0.inn 7 (by omega)
  have r7 := h0.res 7 (by omega)
  have f7 := h0.nfr 7 (by omega)
  have o8 := h0.inn 8 (by omega)
  have r8 := h0.res 8 (by omega)
  have f8 := h0.nfr 8 (by omega)
  have o9 := h0.inn 9 (by omega)
  have r9 := h0.res 9 (by omega)
  have f9 := h0.nfr 9 (by omega)
  have o10 := h0.inn 10 (by omega)
  have r10 := h0.res 10 (by omega)
  have f10 := h0.nfr 10 (by omega)
  have o11 := h0.inn 11 (by omega)
  have r11 := h0.res 11 (by omega)
  have f11 := h0.nfr 11 (by omega)
  have z0 := h0.big
  have hbel := h0.bel
  have y0 := h0.v0
  have y1 := h0.v1
  clear h0
  go_wp2_with (first
      | (go_at_call 60; refine (l6Push_any V p q _ (by omega) (by omega) (by omega) (by omega)).mono ?_; rintro e w3 ⟨rfl, hb3⟩; obtain ⟨hc3, hf3⟩ := bcell hb3; have hz3 := hb3.size; (try simp only [World.size_drew, World.size_alloc, World.size_setCell] at hc3 hf3 hz3); have hk3x0 := fun o => hc3 (w.heap.size) o (by omega); have hj3x0 := fun o => hf3 (w.heap.size) o (by omega); have hq3x0 : w.heap.size < w3.heap.size := (by omega); have hk3x1 := fun o => hc3 (w.heap.size + 1) o (by omega); have hj3x1 := fun o => hf3 (w.heap.size + 1) o (by omega); have hq3x1 : w.heap.size + 1 < w3.heap.size := (by omega); have hk3x2 := fun o => hc3 (w.heap.size + 1 + 1) o (by omega); have hj3x2 := fun o => hf3 (w.heap.size + 1 + 1) o (by omega); have hq3x2 : w.heap.size + 1 + 1 < w3.heap.size := (by omega); clear hc3 hf3)
      | (go_at_call 50; refine (l6Drive_q _ _ _ _ (by with_reducible assumption)).mono ?_; rintro e w2 ⟨rfl, hb2⟩; obtain ⟨hc2, hf2⟩ := bcell hb2; have hz2 := hb2.size; (try simp only [World.size_drew, World.size_alloc, World.size_setCell] at hc2 hf2 hz2); have hk2x0 := fun o => hc2 (w.heap.size) o (by omega); have hj2x0 := fun o => hf2 (w.heap.size) o (by omega); have hq2x0 : w.heap.size < w2.heap.size := (by omega); have hk2x1 := fun o => hc2 (w.heap.size + 1) o (by omega); have hj2x1 := fun o => hf2 (w.heap.size + 1) o (by omega); have hq2x1 : w.heap.size + 1 < w2.heap.size := (by omega); have hk2x2 := fun o => hc2 (w.heap.size + 1 + 1) o (by omega); have hj2x2 := fun o => hf2 (w.heap.size + 1 + 1) o (by omega); have hq2x2 : w.heap.size + 1 + 1 < w2.heap.size := (by omega); clear hc2 hf2)
      | (go_at_call 19; refine (sBodyOk_q V _ _ (by with_reducible assumption)).mono ?_; rintro e w1 ⟨rfl, hb1⟩; obtain ⟨hc1, hf1⟩ := bcell hb1; have hz1 := hb1.size; (try simp only [World.size_drew, World.size_alloc, World.size_setCell] at hc1 hf1 hz1); have hk1x0 := fun o => hc1 (w.heap.size) o (by omega); have hj1x0 := fun o => hf1 (w.heap.size) o (by omega); have hq1x0 : w.heap.size < w1.heap.size := (by omega); have hk1x1 := fun o => hc1 (w.heap.size + 1) o (by omega); have hj1x1 := fun o => hf1 (w.heap.size + 1) o (by omega); have hq1x1 : w.heap.size + 1 < w1.heap.size := (by omega); have hk1x2 := fun o => hc1 (w.heap.size + 1 + 1) o (by omega); have hj1x2 := fun o => hf1 (w.heap.size + 1 + 1) o (by omega); have hq1x2 : w.heap.size + 1 + 1 < w1.heap.size := (by omega); clear hc1 hf1))
  exact bodyPost_ret (v := bodyW (pushV V p q)) (by simp [results, Try.results25, go_sem, *]) rfl ⟨rfl, by repeat (first | with_reducible apply Below.refl | (with_reducible apply Below.setCell; rotate_left; focus (first | omega | (simp; done) | (simp; omega))) | (with_reducible apply Below.alloc; rotate_left; focus (first | omega | (simp; done) | (simp; omega))) | with_reducible apply Below.drew | with_reducible apply belowDrewN | (with_reducible apply Below.trans; rotate_left; with_reducible apply Below.mono; with_reducible assumption; focus (first | omega | (simp; done) | (simp; omega))))⟩

theorem sBodyPush_q (V U : Nat → Int) (p q : Int) (w : World) (eU : bpV V p q = U) : Calls Try.prog 25 #[bodyW V, vv p q] w fun e w' => e = .returned (bodyW U) ∧ Below w.heap.size w w' := by
  subst eU
  unfold bpV
  cases eb : bodyB V with
  | false => rw [if_neg (by simp)]; exact sBodyPush_1 V p q w eb
  | true =>
    cases ed : inB 20000000 p q with
    | false => rw [if_neg (by simp)]; exact sBodyPush_2 V p q w eb ed
    | true => rw [if_pos (by simp)]; exact sBodyPush_3 V p q w eb ed

theorem bodyPush_q (V U : Nat → Int) (p q : Int) (w : World) (eU : bpV V p q = U) : Calls Try.prog 24 #[bodyW V, vv p q] w fun e w' => e = .returned (bodyW U) ∧ Below w.heap.size w w' := by
  subst eU
  unfold bpV
  cases eb : bodyB V with
  | false => rw [if_neg (by simp)]; exact bodyPush_1 V p q w eb
  | true =>
    cases ed : inB 20000000 p q with
    | false => rw [if_neg (by simp)]; exact bodyPush_2 V p q w eb ed
    | true => rw [if_pos (by simp)]; exact bodyPush_3 V p q w eb ed

set_option maxHeartbeats 2000000 in
theorem eqShape_same (k g h : Int) (w : World) :
    Calls Try.prog 74 #[s3 k g h, s3 k g h] w fun e w' => e = .returned (.bool true) ∧ Below w.heap.size w w' := by
  have hset := cset_map
  go_enter Try.func74, Try.ntmps74
  go_wp2
  go_ret
  exact ⟨rfl, by repeat (first | with_reducible apply Below.refl | (with_reducible apply Below.setCell; rotate_left; focus (first | omega | (simp; done) | (simp; omega))) | (with_reducible apply Below.alloc; rotate_left; focus (first | omega | (simp; done) | (simp; omega))) | with_reducible apply Below.drew | with_reducible apply belowDrewN | (with_reducible apply Below.trans; rotate_left; with_reducible apply Below.mono; with_reducible assumption; focus (first | omega | (simp; done) | (simp; omega))))⟩
set_option maxRecDepth 20000 in
set_option maxHeartbeats 8000000 in
theorem eqBody_same (V : Nat → Int) (w : World) :
    Calls Try.prog 39 #[bodyW V, bodyW V] w fun e w' => e = .returned (.bool true) ∧ Below w.heap.size w w' := by
  have hset := cset_map
  go_enter Try.func39, Try.ntmps39
  go_wp2_with (first
    | (have _ := hb2; go_at_call 37; refine (eqVec_same _ _ _).mono ?_; rintro e w3 ⟨rfl, hb3⟩; obtain ⟨hc3, hf3⟩ := bcell hb3; have hz3 := hb3.size; (try simp only [World.size_drew, World.size_alloc, World.size_setCell] at hc3 hf3 hz3); have hk3x0 := fun o => hc3 (w.heap.size) o (by omega); have hj3x0 := fun o => hf3 (w.heap.size) o (by omega); have hq3x0 : w.heap.size < w3.heap.size := (by omega); have hk3x1 := fun o => hc3 (w.heap.size + 1) o (by omega); have hj3x1 := fun o => hf3 (w.heap.size + 1) o (by omega); have hq3x1 : w.heap.size + 1 < w3.heap.size := (by omega); clear hc3 hf3)
    | (have _ := hb1; go_at_call 37; refine (eqVec_same _ _ _).mono ?_; rintro e w2 ⟨rfl, hb2⟩; obtain ⟨hc2, hf2⟩ := bcell hb2; have hz2 := hb2.size; (try simp only [World.size_drew, World.size_alloc, World.size_setCell] at hc2 hf2 hz2); have hk2x0 := fun o => hc2 (w.heap.size) o (by omega); have hj2x0 := fun o => hf2 (w.heap.size) o (by omega); have hq2x0 : w.heap.size < w2.heap.size := (by omega); have hk2x1 := fun o => hc2 (w.heap.size + 1) o (by omega); have hj2x1 := fun o => hf2 (w.heap.size + 1) o (by omega); have hq2x1 : w.heap.size + 1 < w2.heap.size := (by omega); clear hc2 hf2)
    | (go_at_call 74; refine (eqShape_same _ _ _ _).mono ?_; rintro e w1 ⟨rfl, hb1⟩; obtain ⟨hc1, hf1⟩ := bcell hb1; have hz1 := hb1.size; (try simp only [World.size_drew, World.size_alloc, World.size_setCell] at hc1 hf1 hz1); have hk1x0 := fun o => hc1 (w.heap.size) o (by omega); have hj1x0 := fun o => hf1 (w.heap.size) o (by omega); have hq1x0 : w.heap.size < w1.heap.size := (by omega); have hk1x1 := fun o => hc1 (w.heap.size + 1) o (by omega); have hj1x1 := fun o => hf1 (w.heap.size + 1) o (by omega); have hq1x1 : w.heap.size + 1 < w1.heap.size := (by omega); clear hc1 hf1))
  go_ret
  exact ⟨rfl, by repeat (first | with_reducible apply Below.refl | (with_reducible apply Below.setCell; rotate_left; focus (first | omega | (simp; done) | (simp; omega))) | (with_reducible apply Below.alloc; rotate_left; focus (first | omega | (simp; done) | (simp; omega))) | with_reducible apply Below.drew | with_reducible apply belowDrewN | (with_reducible apply Below.trans; rotate_left; with_reducible apply Below.mono; with_reducible assumption; focus (first | omega | (simp; done) | (simp; omega))))⟩
end Go.Proofs.Ytflgmpppnobogaa
