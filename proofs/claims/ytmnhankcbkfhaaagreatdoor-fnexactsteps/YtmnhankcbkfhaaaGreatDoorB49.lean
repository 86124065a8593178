/- Texts of a proof. -/
import Derived.Test.YtmnhankcbkfhaaaGreatDoorB48
import Derived.Test.YtmnhankcbkfhaaaGreatDoorB23
import Derived.Test.YtmnhankcbkfhaaaGreatDoorB24
import Derived.Deep.RegionHeld3
import Derived.Deep.DeepCutAuto
import Derived.Test.YtmnhankcbkfhaaaGreatDoorB25
import Derived.Test.YtmnhankcbkfhaaaGreatDoorB26
import Derived.Test.YtmnhankcbkfhaaaGreatDoorB38
set_option maxHeartbeats 16000000
set_option maxRecDepth 20000
namespace Go.Proofs.YtmnhankcbkfhaaaGreatDoor
open Go.RowKit
set_option linter.unusedVariables false
set_option linter.unusedSimpArgs false
theorem kPushU {cb n k : Nat} {U : Nat → Int} {S : Nat → Value} {w : World} (h : Cs w cb n (colOf U) S) (hk : k < n) (hn : n ≤ 1048576) (p q : Int) (b6 : -20000000 ≤ U (k * 12 + 6) ∧ U (k * 12 + 6) ≤ 20000000) (b7 : -20000000 ≤ U (k * 12 + 7) ∧ U (k * 12 + 7) ≤ 20000000) (bp : -20000000 ≤ p ∧ p ≤ 20000000) (bq : -20000000 ≤ q ∧ q ≤ 20000000) :
 Calls Tryz.prog 157 #[hdk cb k, vv p q] w fun e w' => e = .returned (.tuple #[]) ∧ Cs w' cb n (colOf (putRow U k (pushV (fun j => U (k * 12 + j)) p q))) S ∧ Fr (Xc S) w w' := by
 refine (kPush h hk hn p q b6 b7 (by omega) (by omega)).mono ?_
 rintro e w1 ⟨rfl, hC, hF⟩
 refine ⟨rfl, hC.congr fun i j hi hj => ?_, hF⟩
 rw [col_put hi]
 by_cases e : j = k
 · subst e
   rw [if_pos rfl]
   exact congrFun (pushC_V (colOf U) j p q) i
 · rw [if_neg e]
   unfold pushC setC
   split
   · rfl
   · simp only [e, and_false, if_false]
theorem oneU_no {U : Nat → Int} {A B : Nat} {x y P Q : Int} {bo : Bool} (hP : puX (fun j => U (A * 12 + j)) (fun j => U (B * 12 + j)) x y bo = P) (hQ : puY (fun j => U (A * 12 + j)) (fun j => U (B * 12 + j)) x y bo = Q) (h : ((P == 0 && Q == 0) || !fitsB (fun j => U (A * 12 + j)) (fun j => U (B * 12 + j)) P Q) = true) : oneU U A B x y bo = U := by
 unfold oneU
 rw [hP, hQ, h]; rfl
theorem oneU_yes {U : Nat → Int} {A B : Nat} {x y P Q : Int} {bo : Bool} (hP : puX (fun j => U (A * 12 + j)) (fun j => U (B * 12 + j)) x y bo = P) (hQ : puY (fun j => U (A * 12 + j)) (fun j => U (B * 12 + j)) x y bo = Q) (h : ((P == 0 && Q == 0) || !fitsB (fun j => U (A * 12 + j)) (fun j => U (B * 12 + j)) P Q) = false) : oneU U A B x y bo = putRow (putRow U A (pushV (fun j => U (A * 12 + j)) (-P) (-Q))) B (pushV (fun j => U (B * 12 + j)) P Q) := by
 unfold oneU
 rw [hP, hQ, h]; rfl
theorem mPush {cb n A B : Nat} {U : Nat → Int} {S : Nat → Value} {w : World} (x y d : Int) (bo : Bool) (h : Cs w cb n (colOf U) S) (hn : n ≤ 1048576) (hAn : A < n) (hBn : B < n) (hAB : A ≠ B) (oA : BOk (fun j => U (A * 12 + j))) (oB : BOk (fun j => U (B * 12 + j))) (hX : -256 ≤ x ∧ x ≤ 256) (hY : -256 ≤ y ∧ y ≤ 256) :
 Calls Tryz.prog 143 #[.agg #[.bool bo], (.agg #[.int .i64 x, .int .i64 y, .int .i64 d, .int .i64 (A : Int), .pointer (some ⟨cb, 0, none⟩), .int .i64 (B : Int), .pointer (some ⟨cb, 0, none⟩)])] w fun e w' => e = .returned (.tuple #[]) ∧ Cs w' cb n (colOf (oneU U A B x y bo)) S ∧ Fr (Xc S) w w' := by
 have hset := cset_map
 have hx : ∀ b, w.heap.size ≤ b → ¬ Xc S b := fun b hb x => by have := (h.xlt x).2; omega
 obtain ⟨P, hP⟩ : ∃ P, puX (fun j => U (A * 12 + j)) (fun j => U (B * 12 + j)) x y bo = P := ⟨_, rfl⟩
 obtain ⟨Q, hQ⟩ : ∃ Q, puY (fun j => U (A * 12 + j)) (fun j => U (B * 12 + j)) x y bo = Q := ⟨_, rfl⟩
 have bP : -20000000 ≤ P ∧ P ≤ 20000000 := hP ▸ puX_bd _ _ _ _ _
 have bQ : -20000000 ≤ Q ∧ Q ≤ 20000000 := hQ ▸ puY_bd _ _ _ _ _
 have pu : ∀ w', Below w.heap.size w w' → Calls Tryz.prog 154 #[(.agg #[.int .i64 x, .int .i64 y, .int .i64 d, .int .i64 (A : Int), .pointer (some ⟨cb, 0, none⟩), .int .i64 (B : Int), .pointer (some ⟨cb, 0, none⟩)]), .bool bo] w' fun e w'' => e = .returned (vv P Q) ∧ Below w'.heap.size w' w'' := fun w' hb => by
  have hC := h.below hb
  have := kPushed (fun j => U (A * 12 + j)) (fun j => U (B * 12 + j)) x y d cb n A B (gOf S) (gOf S) bo w' (hC.hat hAn hn) (hC.hat hBn hn) oA.m8 oB.m8 oA.d6 oA.d7 oB.d6 oB.d7 hX hY oA.b9 oB.b9 oA.r10 oB.r10
  rw [hP, hQ] at this
  exact this
 have ba : ∀ w', Below w.heap.size w w' → Calls Tryz.prog 156 #[hdk cb A, vv (-P) (-Q)] w' fun e w'' => e = .returned (.bool (decide (U (A * 12 + 8) = 0) || inB 20000000 (U (A * 12 + 6) - P) (U (A * 12 + 7) - Q))) ∧ Below w'.heap.size w' w'' := fun w' hb => by
  have := kBears ((h.below hb).hat hAn hn) (-P) (-Q) oA.d6 oA.d7 (by omega) (by omega)
  exact this
 have bb : ∀ w', Below w.heap.size w w' → Calls Tryz.prog 156 #[hdk cb B, vv P Q] w' fun e w'' => e = .returned (.bool (decide (U (B * 12 + 8) = 0) || inB 20000000 (U (B * 12 + 6) + P) (U (B * 12 + 7) + Q))) ∧ Below w'.heap.size w' w'' := fun w' hb => by
  have := kBears ((h.below hb).hat hBn hn) P Q oB.d6 oB.d7 (by omega) (by omega)
  exact this
 obtain ⟨fa, hfa⟩ : ∃ f, (decide (U (A * 12 + 8) = 0) || inB 20000000 (U (A * 12 + 6) - P) (U (A * 12 + 7) - Q)) = f := ⟨_, rfl⟩
 obtain ⟨fb, hfb⟩ : ∃ f, (decide (U (B * 12 + 8) = 0) || inB 20000000 (U (B * 12 + 6) + P) (U (B * 12 + 7) + Q)) = f := ⟨_, rfl⟩
 have hfit : fitsB (fun j => U (A * 12 + j)) (fun j => U (B * 12 + j)) P Q = (fa && fb) := by unfold fitsB; rw [← hfa, ← hfb]
 rw [hfa] at ba
 rw [hfb] at bb
 obtain ⟨z, hz0⟩ : ∃ z, (P == 0 && Q == 0) = z := ⟨_, rfl⟩
 have heq := eq_way0 P Q 0 0
 rw [hz0] at heq
 go_enter Tryz.func143, Tryz.ntmps143
 go_upto_region 1 with fail
 have hE : Below w.heap.size w ((w.alloc (.cells #[.bool bo] 210)).alloc (.cells #[.int .i64 x, .int .i64 y, .int .i64 d, .int .i64 (A : Int), .pointer (some ⟨cb, 0, none⟩), .int .i64 (B : Int), .pointer (some ⟨cb, 0, none⟩)] 204)) := bel_a
 have hcs : ((w.alloc (.cells #[.bool bo] 210)).alloc (.cells #[.int .i64 x, .int .i64 y, .int .i64 d, .int .i64 (A : Int), .pointer (some ⟨cb, 0, none⟩), .int .i64 (B : Int), .pointer (some ⟨cb, 0, none⟩)] 204)).cell? ⟨w.heap.size, 0, none⟩ = some (.bool bo) ∧ ((w.alloc (.cells #[.bool bo] 210)).alloc (.cells #[.int .i64 x, .int .i64 y, .int .i64 d, .int .i64 (A : Int), .pointer (some ⟨cb, 0, none⟩), .int .i64 (B : Int), .pointer (some ⟨cb, 0, none⟩)] 204)).cell? ⟨w.heap.size + 1, 0, none⟩ = some (.int .i64 x) ∧ ((w.alloc (.cells #[.bool bo] 210)).alloc (.cells #[.int .i64 x, .int .i64 y, .int .i64 d, .int .i64 (A : Int), .pointer (some ⟨cb, 0, none⟩), .int .i64 (B : Int), .pointer (some ⟨cb, 0, none⟩)] 204)).cell? ⟨w.heap.size + 1, 1, none⟩ = some (.int .i64 y) ∧ ((w.alloc (.cells #[.bool bo] 210)).alloc (.cells #[.int .i64 x, .int .i64 y, .int .i64 d, .int .i64 (A : Int), .pointer (some ⟨cb, 0, none⟩), .int .i64 (B : Int), .pointer (some ⟨cb, 0, none⟩)] 204)).cell? ⟨w.heap.size + 1, 2, none⟩ = some (.int .i64 d) ∧ ((w.alloc (.cells #[.bool bo] 210)).alloc (.cells #[.int .i64 x, .int .i64 y, .int .i64 d, .int .i64 (A : Int), .pointer (some ⟨cb, 0, none⟩), .int .i64 (B : Int), .pointer (some ⟨cb, 0, none⟩)] 204)).cell? ⟨w.heap.size + 1, 3, none⟩ = some (.int .i64 (A : Int)) ∧ ((w.alloc (.cells #[.bool bo] 210)).alloc (.cells #[.int .i64 x, .int .i64 y, .int .i64 d, .int .i64 (A : Int), .pointer (some ⟨cb, 0, none⟩), .int .i64 (B : Int), .pointer (some ⟨cb, 0, none⟩)] 204)).cell? ⟨w.heap.size + 1, 4, none⟩ = some (.pointer (some ⟨cb, 0, none⟩)) ∧ ((w.alloc (.cells #[.bool bo] 210)).alloc (.cells #[.int .i64 x, .int .i64 y, .int .i64 d, .int .i64 (A : Int), .pointer (some ⟨cb, 0, none⟩), .int .i64 (B : Int), .pointer (some ⟨cb, 0, none⟩)] 204)).cell? ⟨w.heap.size + 1, 5, none⟩ = some (.int .i64 (B : Int)) ∧ ((w.alloc (.cells #[.bool bo] 210)).alloc (.cells #[.int .i64 x, .int .i64 y, .int .i64 d, .int .i64 (A : Int), .pointer (some ⟨cb, 0, none⟩), .int .i64 (B : Int), .pointer (some ⟨cb, 0, none⟩)] 204)).cell? ⟨w.heap.size + 1, 6, none⟩ = some (.pointer (some ⟨cb, 0, none⟩)) := ⟨by go_simp, by go_simp, by go_simp, by go_simp, by go_simp, by go_simp, by go_simp, by go_simp⟩
 have hz : ((w.alloc (.cells #[.bool bo] 210)).alloc (.cells #[.int .i64 x, .int .i64 y, .int .i64 d, .int .i64 (A : Int), .pointer (some ⟨cb, 0, none⟩), .int .i64 (B : Int), .pointer (some ⟨cb, 0, none⟩)] 204)).heap.size = w.heap.size + 1 + 1 := by simp
 generalize ((w.alloc (.cells #[.bool bo] 210)).alloc (.cells #[.int .i64 x, .int .i64 y, .int .i64 d, .int .i64 (A : Int), .pointer (some ⟨cb, 0, none⟩), .int .i64 (B : Int), .pointer (some ⟨cb, 0, none⟩)] 204)) = w0 at hE hcs hz ⊢
 go_cut [4] (fun s wc => ∃ t, s = .pointer (some ⟨t, 0, none⟩) ∧ w.heap.size ≤ t ∧ Below w.heap.size w wc ∧ wc.cell? ⟨t, 0, none⟩ = some (.int .i64 P) ∧ wc.cell? ⟨t, 1, none⟩ = some (.int .i64 Q) ∧ wc.cell? ⟨w.heap.size, 0, none⟩ = some (.bool bo) ∧ wc.cell? ⟨w.heap.size + 1, 0, none⟩ = some (.int .i64 x) ∧ wc.cell? ⟨w.heap.size + 1, 1, none⟩ = some (.int .i64 y) ∧ wc.cell? ⟨w.heap.size + 1, 2, none⟩ = some (.int .i64 d) ∧ wc.cell? ⟨w.heap.size + 1, 3, none⟩ = some (.int .i64 (A : Int)) ∧ wc.cell? ⟨w.heap.size + 1, 4, none⟩ = some (.pointer (some ⟨cb, 0, none⟩)) ∧ wc.cell? ⟨w.heap.size + 1, 5, none⟩ = some (.int .i64 (B : Int)) ∧ wc.cell? ⟨w.heap.size + 1, 6, none⟩ = some (.pointer (some ⟨cb, 0, none⟩)))
 case first =>
  obtain ⟨m0, m1, m2, m3, m4, m5, m6, m7⟩ := hcs
  go_wp2_with (go_at_call 154; refine (pu _ hE).mono ?_; rintro e w1 ⟨rfl, hb1⟩)
  go_meet
  have hE1 : Below w1.heap.size w1 (w1.alloc (.cells #[.int .i64 P, .int .i64 Q] 147)) := (Below.refl _ _).alloc (Nat.le_refl _) _
  have hb1' : Below w0.heap.size w0 (w1.alloc (.cells #[.int .i64 P, .int .i64 Q] 147)) := hb1.trans (hE1.mono hb1.size)
  exact ⟨_, rfl, by have := hb1.size; omega, hE.trans (hb1'.mono (by omega)), by go_simp, by go_simp, keepk hb1' m0, keepk hb1' m1, keepk hb1' m2, keepk hb1' m3, keepk hb1' m4, keepk hb1' m5, keepk hb1' m6, keepk hb1' m7⟩
 case rest =>
 clear hcs
 obtain ⟨t, rfl, ht, hB, t0, t1, m0, m1, m2, m3, m4, m5, m6, m7⟩ := hcut
 obtain ⟨w2, rfl⟩ : ∃ x, x = wc := ⟨_, rfl⟩
 have hs2 := hB.size
 go_upto_region 2 with fail
 go_cut [5] (fun s wc => ∃ r, s = .pointer (some ⟨r, 0, none⟩) ∧ Below w2.heap.size w2 wc ∧ wc.cell? ⟨r, 0, none⟩ = some (.int .i64 (-P)) ∧ wc.cell? ⟨r, 1, none⟩ = some (.int .i64 (-Q)))
 case first =>
  go_wp2_with fail
  refine (opp_z _ _ _ (by omega) (by omega)).mono ?_; rintro e w1 ⟨rfl, hb1⟩
  go_wp2_with fail
  go_meet
  exact ⟨_, rfl, hb1.trans ((Below.refl _ _).alloc hb1.size _), by go_simp, by go_simp⟩
 case rest =>
 obtain ⟨r, rfl, hB3, r0, r1⟩ := hcut
 obtain ⟨w3, rfl⟩ : ∃ x, x = wc := ⟨_, rfl⟩
 have hBw : Below w.heap.size w w3 := hB.trans (hB3.mono hs2)
 replace t0 := keepk hB3 t0
 replace t1 := keepk hB3 t1
 replace m0 := keepk hB3 m0
 replace m1 := keepk hB3 m1
 replace m2 := keepk hB3 m2
 replace m3 := keepk hB3 m3
 replace m4 := keepk hB3 m4
 replace m5 := keepk hB3 m5
 replace m6 := keepk hB3 m6
 replace m7 := keepk hB3 m7
 clear hB hB3 hE hz
 go_upto_region 3 with fail
 go_cut [28] (fun s wc => s = .bool (z || !(fa && fb)) ∧ Below w3.heap.size w3 wc)
 case first =>
  clear hP hQ hz0 hfa hfb hfit oA oB bP bQ hX hY pu hx h hs2 ht
  cases z with
  | true =>
   go_wp2_with fail
   go_meet
   exact ⟨rfl, Below.refl _ _⟩
  | false =>
   cases fa with
   | false =>
    go_wp2_with (go_at_call 156; refine (ba _ hBw).mono ?_; rintro e w1 ⟨rfl, hb1⟩)
    go_meet
    exact ⟨rfl, hb1⟩
   | true =>
    go_wp2_with (first
     | (have _ := hb1; go_at_call 156; refine (bb _ (hBw.trans (hb1.mono hBw.size))).mono ?_; rintro e w4 ⟨rfl, hb4⟩)
     | (go_at_call 156; refine (ba _ hBw).mono ?_; rintro e w1 ⟨rfl, hb1⟩; have t01 := keepk hb1 t0; have t11 := keepk hb1 t1; have m51 := keepk hb1 m6; have m61 := keepk hb1 m7))
    go_meet
    exact ⟨(by cases fb <;> rfl), hb1.trans (hb4.mono hb1.size)⟩
 case rest =>
 obtain ⟨rfl, hB4⟩ := hcut
 obtain ⟨w4, rfl⟩ : ∃ x, x = wc := ⟨_, rfl⟩
 replace t0 := keepk hB4 t0
 replace t1 := keepk hB4 t1
 replace r0 := keepk hB4 r0
 replace r1 := keepk hB4 r1
 replace m0 := keepk hB4 m0
 replace m1 := keepk hB4 m1
 replace m2 := keepk hB4 m2
 replace m3 := keepk hB4 m3
 replace m4 := keepk hB4 m4
 replace m5 := keepk hB4 m5
 replace m6 := keepk hB4 m6
 replace m7 := keepk hB4 m7
 have hB5 : Below w.heap.size w w4 := hBw.trans (hB4.mono hBw.size)
 have hC4 := h.below hB5
 clear ba bb pu heq
 cases hsk : (z || !(fa && fb)) with
 | true =>
  have hno := oneU_no hP hQ (by rw [hz0, hfit]; exact hsk)
  go_wp2_with fail
  refine bodyPost_ret (results_none rfl _ _ _) rfl ?_
  exact ⟨rfl, by rw [hno]; exact hC4, Fr.of_below hB5⟩
 | false =>
  have hye := oneU_yes hP hQ (by rw [hz0, hfit]; exact hsk)
  have hlt : w.heap.size + 1 < w4.heap.size := cell_lt m1
  have htl := cell_lt t0
  have hrl := cell_lt r0
  simp only at htl hrl
  have nx : ∀ b, w.heap.size ≤ b → ¬ Xc S b := hx
  have htn : ¬ Xc S t := hx t ht
  have hmn : ¬ Xc S (w.heap.size + 1) := hx _ (by omega)
  obtain ⟨U1, hU1⟩ : ∃ U1, putRow U A (pushV (fun j => U (A * 12 + j)) (-P) (-Q)) = U1 := ⟨_, rfl⟩
  have row : ∀ j, j < 12 → U1 (B * 12 + j) = U (B * 12 + j) := hU1 ▸ row_else (Ne.symm hAB)
  have hrw : Shut (putRow U1 B (pushV (fun j => U1 (B * 12 + j)) P Q) = oneU U A B x y bo) := by
   show _ = _
   rw [hye, hU1]
   refine putRow_congr fun j hj => ?_
   unfold pushV setV
   simp only [row 8 (by omega), row 6 (by omega), row 7 (by omega)]
   split
   · exact row j hj
   · simp only [row j hj]
  have d6 : -20000000 ≤ U1 (B * 12 + 6) ∧ U1 (B * 12 + 6) ≤ 20000000 := by rw [row 6 (by omega)]; exact oB.d6
  have d7 : -20000000 ≤ U1 (B * 12 + 7) ∧ U1 (B * 12 + 7) ≤ 20000000 := by rw [row 7 (by omega)]; exact oB.d7
  have a6 := oA.d6
  have a7 := oA.d7
  have kp : ∀ w', Cs w' cb n (colOf U) S → Calls Tryz.prog 157 #[hdk cb A, vv (-P) (-Q)] w' fun e w'' => e = .returned (.tuple #[]) ∧ Cs w'' cb n (colOf U1) S ∧ Fr (Xc S) w' w'' := fun w' hc => hU1 ▸ kPushU hc hAn hn (-P) (-Q) a6 a7 (by omega) (by omega)
  have kq : ∀ w', Cs w' cb n (colOf U1) S → Calls Tryz.prog 157 #[hdk cb B, vv P Q] w' fun e w'' => e = .returned (.tuple #[]) ∧ Cs w'' cb n (colOf (putRow U1 B (pushV (fun j => U1 (B * 12 + j)) P Q))) S ∧ Fr (Xc S) w' w'' := fun w' hc => kPushU hc hBn hn P Q d6 d7 bP bQ
  obtain ⟨U2, hU2⟩ : ∃ U2, putRow U1 B (pushV (fun j => U1 (B * 12 + j)) P Q) = U2 := ⟨_, rfl⟩
  rw [hU2] at kq
  have hrw2 : Shut (U2 = oneU U A B x y bo) := by show _ = _; rw [← hU2]; exact hrw.out
  clear hrw hU1 hU2 row hye d6 d7 a6 a7 hP hQ hz0 hfa hfb hfit hsk nx oA oB bP bQ hX hY hAB h
  go_wp2_with (first
   | (have _ := hF5; go_at_call 157; refine (kq _ hC5).mono ?_; rintro e w6 ⟨rfl, hC6, hF6⟩)
   | (go_at_call 157; refine (kp _ hC4).mono ?_; rintro e w5 ⟨rfl, hC5, hF5⟩; have t05 := (hF5.cell (p := ⟨t, 0, none⟩) htl htn).trans t0; have t15 := (hF5.cell (p := ⟨t, 1, none⟩) htl htn).trans t1; have m55 := (hF5.cell (p := ⟨w.heap.size + 1, 5, none⟩) hlt hmn).trans m6; have m65 := (hF5.cell (p := ⟨w.heap.size + 1, 6, none⟩) hlt hmn).trans m7))
  go_end0
  exact ⟨rfl, hrw2.out ▸ hC6, (Fr.of_below hB5).trans (hF5.trans hF6)⟩
theorem goPush {w : World} {rb g m c cb n : Nat} {C U : Nat → Int} {S : Nat → Value} (bo : Bool) (hR0 : Rg w rb g m c cb C 0) (hC0 : Cs w cb n (colOf U) S) (hm : m ≤ 1048576) (hn : n ≤ 1048576) (hbb : Bods n U) (ct : CtOk n m C) (hrb : ¬ Xc S rb) (hg : ¬ Xc S g) (hcb : ¬ cb = rb) :
 Calls Tryz.prog 142 #[.pointer (some ⟨rb, 0, none⟩), (.func (.func 143) #[.agg #[.bool bo]] #[])] w fun e w' => e = .returned (.tuple #[]) ∧ Rg w' rb g m c cb C 0 ∧ Cs w' cb n (colOf (rndN C bo U m)) S ∧ Fr (fun b => Xc S b ∨ b = rb) w w' := by
 have hset := cset_map
 have hxr : ∀ b, Xc S b → ¬ b = rb := fun b hb e => hrb (e ▸ hb)
 have c0 := hR0.c0
 go_enter Tryz.func142, Tryz.ntmps142
 go_upto_region 1 with fail
 go_loopw [9] (fun s wr => ∃ k : Nat, k ≤ m ∧ s = .int .i64 (k : Int) ∧ Rg wr rb g m c cb C (k % m) ∧ Cs wr cb n (colOf (rndN C bo U k)) S ∧ Fr (fun b => Xc S b ∨ b = rb) w wr) (fun s _ => m - (intOf s).toNat)
 case atStart => exact ⟨0, Nat.zero_le _, rfl, by rw [Nat.zero_mod]; exact hR0, hC0, Fr.refl _ _⟩
 case round =>
  clear hR0 hC0 c0
  obtain ⟨k, hk, rfl, hR, hC, hF⟩ := hrel
  by_cases hlt : k < m
  · have hkm : (k : Int) < (m : Int) := by omega
    rw [Nat.mod_eq_of_lt hlt] at hR
    have ca := ct.a k hlt
    have cb_ := ct.b k hlt
    have cn := ct.ne k hlt
    have cx := ct.x k hlt
    have cy := ct.y k hlt
    have cd := ct.d k hlt
    have hB := (hbb.rnd ct bo k hk).1
    have HN : Shut (rndN C bo U (k + 1) = oneU (rndN C bo U k) (C (k * 5)).toNat (C (k * 5 + 1)).toNat (C (k * 5 + 2)) (C (k * 5 + 3)) bo) := by show _ = _; rw [rndN]
    obtain ⟨A, hA⟩ : ∃ A : Nat, C (k * 5) = (A : Int) := ⟨(C (k * 5)).toNat, by omega⟩
    obtain ⟨B, hBB⟩ : ∃ B : Nat, C (k * 5 + 1) = (B : Int) := ⟨(C (k * 5 + 1)).toNat, by omega⟩
    rw [hA, hBB, Int.toNat_natCast, Int.toNat_natCast] at HN
    rw [hA] at ca cn
    rw [hBB] at cb_ cn
    go_wp2_with (first
     | (have _ := hF4; go_at_call 143; refine (mPush _ _ _ bo (hC.frame hF4 hcb hxr) hn (by omega) (by omega) (by omega) (hB.row (by omega)) (hB.row (by omega)) cx cy).mono ?_; rintro e w5 ⟨rfl, hC5, hF5⟩)
     | (go_at_call 153; refine (take_q (j := k) hR hlt hm _ _ _ _ _ rfl rfl rfl hA hBB).mono ?_; rintro e w4 ⟨rfl, hR4, hF4⟩))
    have hF9 : Fr (fun b => Xc S b ∨ b = rb) w w5 := (hF.trans (hF4.mono fun _ _ e => .inr e)).trans (hF5.mono fun _ _ e => .inl e)
    have hR9 := hR4.fr hF5 hrb hg
    go_roundw
    case rel => exact ⟨k + 1, by omega, by go_num, hR9, by rw [HN.out]; exact hC5, hF9⟩
    case measure => simp [intOf]; omega
  · obtain rfl : k = m := by omega
    rw [Nat.mod_self] at hR
    go_wp2_with fail
    go_end0
    exact ⟨rfl, hR, hC, hF⟩
theorem goPush0 {w : World} {rb c : Nat} (bo : Bool) (c0 : w.cell? ⟨rb, 0, none⟩ = some (.slice none 0 c)) :
 Calls Tryz.prog 142 #[.pointer (some ⟨rb, 0, none⟩), (.func (.func 143) #[.agg #[.bool bo]] #[])] w fun e w' => e = .returned (.tuple #[]) ∧ w' = w := by
 go_enter Tryz.func142, Tryz.ntmps142
 go_upto_region 1 with fail
 refine wp_loop_rounds 1 ?_
 rw [rounds_succ]
 go_wp2_with fail
 go_end0
 exact ⟨rfl, rfl⟩
theorem pushAll_0 {w : World} {rb c : Nat} (c0 : w.cell? ⟨rb, 0, none⟩ = some (.slice none 0 c)) :
 Calls Tryz.prog 125 #[.pointer (some ⟨rb, 0, none⟩)] w fun e w' => e = .returned (.tuple #[]) ∧ w' = w := by
 go_enter Tryz.func125, Tryz.ntmps125
 go_wp2
 go_loopw [3] (fun s wr => ∃ r : Nat, r ≤ 4 ∧ s = .int .i64 (r : Int) ∧ wr = w) (fun s _ => 4 - (intOf s).toNat)
 case atStart => exact ⟨0, by omega, rfl, rfl⟩
 case round =>
  obtain ⟨r, hr, rfl, rfl⟩ := hrel
  by_cases hlt : r < 4
  · have h1 : (r : Int) < 4 := by omega
    go_wp2_with (go_at_call 142; refine (goPush0 _ c0).mono ?_; rintro e w1 ⟨rfl, rfl⟩)
    go_roundw
    case rel => exact ⟨r + 1, by omega, by go_num, by first | rfl | trivial⟩
    case measure => simp [intOf]; omega
  · have h1 : ¬ (r : Int) < 4 := by omega
    go_wp2
    go_end0
    exact ⟨rfl, rfl⟩
theorem pushAll_r {w : World} {rb g m c cb n : Nat} {C U : Nat → Int} {S : Nat → Value} (hR0 : Rg w rb g m c cb C 0) (hC0 : Cs w cb n (colOf U) S) (hm : m ≤ 1048576) (hn : n ≤ 1048576) (hbb : Bods n U) (ct : CtOk n m C) (hrb : ¬ Xc S rb) (hg : ¬ Xc S g) (hcb : ¬ cb = rb) :
 Calls Tryz.prog 125 #[.pointer (some ⟨rb, 0, none⟩)] w fun e w' => e = .returned (.tuple #[]) ∧ Rg w' rb g m c cb C 0 ∧ Cs w' cb n (colOf (allN C U m 4)) S ∧ Fr (fun b => Xc S b ∨ b = rb) w w' := by
 go_enter Tryz.func125, Tryz.ntmps125
 go_wp2
 go_loopw [3] (fun s wr => ∃ r : Nat, r ≤ 4 ∧ s = .int .i64 (r : Int) ∧ Rg wr rb g m c cb C 0 ∧ Cs wr cb n (colOf (allN C U m r)) S ∧ Fr (fun b => Xc S b ∨ b = rb) w wr) (fun s _ => 4 - (intOf s).toNat)
 case atStart => exact ⟨0, by omega, rfl, hR0, hC0, Fr.refl _ _⟩
 case round =>
  clear hR0 hC0
  obtain ⟨r, hr, rfl, hR, hC, hF⟩ := hrel
  have hB := (hbb.all ct r).1
  by_cases hlt : r < 4
  · have h1 : (r : Int) < 4 := by omega
    have HN : Shut (allN C U m (r + 1) = rndN C (((r : Nat) : Int) == 0) (allN C U m r) m) := by show _ = _; rw [allN]
    go_wp2_with (go_at_call 142; refine (goPush _ hR hC hm hn hB ct hrb hg hcb).mono ?_; rintro e w1 ⟨rfl, hR1, hC1, hF1⟩)
    go_roundw
    case rel => exact ⟨r + 1, by omega, by go_num, hR1, by rw [HN.out]; exact hC1, hF.trans hF1⟩
    case measure => simp [intOf]; omega
  · have h1 : ¬ (r : Int) < 4 := by omega
    obtain rfl : r = 4 := by omega
    go_wp2
    go_end0
    exact ⟨rfl, hR, hC, hF⟩
def Rv (w : World) (rb m cb : Nat) (C : Nat → Int) : Prop := (m = 0 ∧ ∃ c, w.cell? ⟨rb, 0, none⟩ = some (.slice none 0 c)) ∨ ∃ g c, Rg w rb g m c cb C 0 ∧ rb < g
theorem Rv.fr {X : Nat → Prop} {w w' : World} {rb m cb : Nat} {C : Nat → Int} (h : Rv w rb m cb C) (hF : Fr X w w') (hX : ∀ b, rb ≤ b → ¬ X b) : Rv w' rb m cb C := by
 rcases h with ⟨h1, c, h2⟩ | ⟨g, c, h1, h2⟩
 · exact .inl ⟨h1, c, (hF.cell (p := ⟨rb, 0, none⟩) (cell_lt (a := ⟨rb, 0, none⟩) h2) (hX _ (Nat.le_refl _))).trans h2⟩
 · exact .inr ⟨g, c, h1.fr hF (hX _ (Nat.le_refl _)) (hX _ (by omega)), h2⟩
theorem Rv.of_ml {w : World} {rb m cb : Nat} {C : Nat → Int} {v : Value} (h : ML w (rb + 1) cb v C m) (c0 : w.cell? ⟨rb, 0, none⟩ = some v) (c1 : w.cell? ⟨rb, 1, none⟩ = some (.int .i64 0)) (f1 : w.frozen? ⟨rb, 1, none⟩ = false) : Rv w rb m cb C := by
 rcases h.is with ⟨rfl, rfl⟩ | ⟨g, c, rfl⟩
 · exact .inl ⟨rfl, 0, c0⟩
 · have hg := (h.lt g rfl).1
   exact .inr ⟨g, c, h.rg c0 c1 f1 (by omega), by omega⟩
theorem pushAll_v {w : World} {rb m cb n : Nat} {C U : Nat → Int} {S : Nat → Value} (h : Rv w rb m cb C) (hC : Cs w cb n (colOf U) S) (hm : m ≤ 1048576) (hn : n ≤ 1048576) (hbb : Bods n U) (ct : CtOk n m C) (hcb : cb < rb) (hxr : ∀ b, Xc S b → b < rb) :
 Calls Tryz.prog 125 #[.pointer (some ⟨rb, 0, none⟩)] w fun e w' => e = .returned (.tuple #[]) ∧ Rv w' rb m cb C ∧ Cs w' cb n (colOf (allN C U m 4)) S ∧ Fr (fun b => Xc S b ∨ b = rb) w w' := by
 rcases h with ⟨rfl, c, h2⟩ | ⟨g, c, h1, h2⟩
 · refine (pushAll_0 h2).mono ?_
   rintro e w' ⟨rfl, rfl⟩
   have e4 : allN C U 0 4 = U := rfl
   exact ⟨rfl, .inl ⟨rfl, c, h2⟩, by rw [e4]; exact hC, Fr.refl _ _⟩
 · refine (pushAll_r h1 hC hm hn hbb ct (fun x => by have := hxr _ x; omega) (fun x => by have := hxr _ x; omega) (by omega)).mono ?_
   rintro e w' ⟨rfl, hR, h3, h4⟩
   exact ⟨rfl, .inr ⟨g, c, hR, h2⟩, h3, h4⟩
theorem moveApart_v {w : World} {rb m cb n : Nat} {C U : Nat → Int} {S : Nat → Value} (h : Rv w rb m cb C) (hC : Cs w cb n (colOf U) S) (hm : m ≤ 1048576) (hn : n ≤ 1048576) (hbb : Bods n U) (ct : CtOk n m C) (hcb : cb < rb) (hxr : ∀ b, Xc S b → b < rb) :
 Calls Tryz.prog 128 #[.pointer (some ⟨rb, 0, none⟩)] w fun e w' => e = .returned (.tuple #[]) ∧ Cs w' cb n (colOf (apartN C U m)) S ∧ Fr (fun b => Xc S b ∨ b = rb) w w' := by
 rcases h with ⟨rfl, c, h2⟩ | ⟨g, c, h1, h2⟩
 · refine (moveApart_0 h2).mono ?_
   rintro e w' ⟨rfl, rfl⟩
   exact ⟨rfl, hC, Fr.refl _ _⟩
 · exact moveApart_q h1 hC hm hn hbb ct (fun x => by have := hxr _ x; omega) (fun x => by have := hxr _ x; omega) (by omega)
end Go.Proofs.YtmnhankcbkfhaaaGreatDoor
