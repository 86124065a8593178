/- The walk of the law of promise 18. -/
import Derived.Test.YtbngdlbecdloiaaDrawBf
import Derived.Test.YtbngdlbecdloiaaB40
import Derived.Test.YtbngdlbecdloiaaPqI
import Derived.Test.YtbngdlbecdloiaaBrGo
import Derived.Deep.RegionHeld3
import Derived.Deep.DeepCutAuto
set_option maxHeartbeats 16000000
set_option maxRecDepth 20000
namespace Go.Proofs.Ytbngdlbecdloiaa
open Go.RowKit
set_option linter.unusedVariables false
set_option linter.unusedSimpArgs false
set_option maxRecDepth 20000 in
set_option maxHeartbeats 8000000 in
theorem fnBroadPut_walk (ac : Option Addr) (len cap : Nat) (w : World) (hb : Bytes w ac len cap) :
    Calls Try.prog 3 #[.slice ac len cap] w fun e w' => e = .returned (.bool true) ∧ Below w.heap.size w w' := by
  have hset := cset_map
  by_cases hlen : 1048576 < len
  · have hl : (1048576 : Int) < (len : Int) := by omega
    go_enter Try.func3, Try.ntmps3
    go_wp2_with fail
    go_ret
    exact ⟨rfl, Below.refl _ _⟩
  have hl : ¬ (1048576 : Int) < (len : Int) := by omega
  go_enter Try.func3, Try.ntmps3
  go_upto_region 3 with fail
  go_cut [3, 4] (fun s3 s4 wc => ∃ (bb xb : Nat) (a : Option Addr) (n c : Nat) (U X : Nat → Int), s3 = .pointer (some ⟨bb, 0, none⟩) ∧ s4 = .pointer (some ⟨xb, 0, none⟩) ∧ n ≤ 25 ∧ Below w.heap.size w wc ∧ Blk wc bb #[.slice a n c] 25 ∧ Blk wc xb #[.int .i64 (X 0), .int .i64 (X 1), .int .i64 (X 2), .int .i64 (X 3), .int .i64 (X 4)] 31 ∧ OwnL wc w.heap.size 31 5 (.slice a n c) n U)
  case first =>
    go_wp2_with (go_at_call 9; refine (drawBroadPut_k _ _ _ _ hb).mono ?_; rintro e w1 ⟨a, n, c, U, X, rfl, hn, hb1, hO1⟩)
    go_meet
    have q1 := Blk.new w1 #[.slice a n c] 25
    have q2 := Blk.new (w1.alloc (.cells #[.slice a n c] 25)) #[.int .i64 (X 0), .int .i64 (X 1), .int .i64 (X 2), .int .i64 (X 3), .int .i64 (X 4)] 31
    rw [show (w1.alloc (.cells #[.slice a n c] 25)).heap.size = w1.heap.size + 1 by simp] at q2
    exact ⟨_, _, a, n, c, U, X, rfl, rfl, hn, (hb1.alloc hb1.size _).alloc (by simp; have := hb1.size; omega) _, q1.al _, q2, (hO1.al _).al _⟩
  case rest =>
  obtain ⟨bb, xb, a, n, c, U, X, rfl, rfl, hn, bel, hA, hX, hO⟩ := hcut
  obtain ⟨k, hk⟩ := isAt_ex n U (X 0)
  obtain ⟨N, R, B, hPu, hN1, hN2⟩ := putIs_ex n U X k
  have hAc0 := hA.cell 0 rfl
  have hXc0 := hX.cell 0 rfl
  have hXc1 := hX.cell 1 rfl
  have hXc2 := hX.cell 2 rfl
  have hXc3 := hX.cell 3 rfl
  have hXc4 := hX.cell 4 rfl
  go_upto_region 4 with fail
  go_cut [5, 6] (fun s0 s1 wc => ∃ (yb : Nat) (a1 : Option Addr) (c1 : Nat), s0 = .pointer (some ⟨yb, 0, none⟩) ∧ s1 = .bool B ∧ Below w.heap.size w wc ∧ Blk wc bb #[.slice a n c] 25 ∧ Blk wc xb #[.int .i64 (X 0), .int .i64 (X 1), .int .i64 (X 2), .int .i64 (X 3), .int .i64 (X 4)] 31 ∧ Blk wc yb #[.slice a1 N c1] 25 ∧ OwnL wc w.heap.size 31 5 (.slice a n c) n U ∧ OwnL wc w.heap.size 31 5 (.slice a1 N c1) N R)
  case first =>
    go_wp2_with (go_at_call 10; refine (put_own w.heap.size a n c U X k _ hO (by omega) hk N R B hPu).mono ?_; rintro e w2 ⟨a1, c1, rfl, hOu⟩)
    go_meet
    have bz := hOu.bel.alloc hOu.bel.size (.cells #[.slice a1 N c1] 25)
    exact ⟨_, a1, c1, rfl, rfl, bel.trans (bz.mono bel.size), hA.on bz, hX.on bz, Blk.new _ _ _, hO.below bz, (hOu.own.base bel.size).al _⟩
  case rest =>
  clear bel hA hX hO hAc0 hXc0 hXc1 hXc2 hXc3 hXc4
  obtain ⟨yb, a1, c1, rfl, rfl, bel, hA, hX, hY, hO, hP⟩ := hcut
  have hAc0 := hA.cell 0 rfl
  have hXc0 := hX.cell 0 rfl
  have hXc1 := hX.cell 1 rfl
  have hXc2 := hX.cell 2 rfl
  have hXc3 := hX.cell 3 rfl
  have hXc4 := hX.cell 4 rfl
  have hYc0 := hY.cell 0 rfl
  go_upto_region 5 with fail
  go_cut [7, 8] (fun s0 s1 wc => ∃ (wb : Nat) (a2 : Option Addr) (c2 : Nat), s0 = .pointer (some ⟨wb, 0, none⟩) ∧ s1 = .bool B ∧ Below w.heap.size w wc ∧ Blk wc bb #[.slice a n c] 25 ∧ Blk wc xb #[.int .i64 (X 0), .int .i64 (X 1), .int .i64 (X 2), .int .i64 (X 3), .int .i64 (X 4)] 31 ∧ Blk wc yb #[.slice a1 N c1] 25 ∧ Blk wc wb #[.slice a2 N c2] 25 ∧ OwnL wc w.heap.size 31 5 (.slice a n c) n U ∧ OwnL wc w.heap.size 31 5 (.slice a1 N c1) N R ∧ OwnL wc w.heap.size 31 5 (.slice a2 N c2) N R)
  case first =>
    go_wp2_with (go_at_call 11; refine (sPut_own w.heap.size a n c U X k _ hO (by omega) hk N R B hPu).mono ?_; rintro e w2 ⟨a2, c2, rfl, hOu⟩)
    go_meet
    have bz := hOu.bel.alloc hOu.bel.size (.cells #[.slice a2 N c2] 25)
    exact ⟨_, a2, c2, rfl, rfl, bel.trans (bz.mono bel.size), hA.on bz, hX.on bz, hY.on bz, Blk.new _ _ _, hO.below bz, hP.below bz, (hOu.own.base bel.size).al _⟩
  case rest =>
  clear bel hA hX hY hO hP hAc0 hXc0 hXc1 hXc2 hXc3 hXc4 hYc0
  obtain ⟨wb, a2, c2, rfl, rfl, bel, hA, hX, hY, hW, hO, hP, hQ⟩ := hcut
  have hAc0 := hA.cell 0 rfl
  have hXc0 := hX.cell 0 rfl
  have hXc1 := hX.cell 1 rfl
  have hXc2 := hX.cell 2 rfl
  have hXc3 := hX.cell 3 rfl
  have hXc4 := hX.cell 4 rfl
  have hYc0 := hY.cell 0 rfl
  have hWc0 := hW.cell 0 rfl
  obtain ⟨OK, hOK0⟩ : ∃ b, broadB n U = b := ⟨_, rfl⟩
  have hOK : Shut (broadB n U = OK) := hOK0
  have HPu : Shut (PutIs n U X k N R B) := hPu
  clear hOK0 hPu
  have hBB : (B != B) = false := by simp
  have hBE : (B == B) = true := by simp
  have hKK2 : (OK != OK) = false := by simp
  go_upto_region 6 with fail
  go_cut [53] (fun s53 wc => s53 = .bool (!OK) ∧ Below w.heap.size w wc ∧ Blk wc bb #[.slice a n c] 25 ∧ Blk wc xb #[.int .i64 (X 0), .int .i64 (X 1), .int .i64 (X 2), .int .i64 (X 3), .int .i64 (X 4)] 31 ∧ Blk wc yb #[.slice a1 N c1] 25 ∧ Blk wc wb #[.slice a2 N c2] 25 ∧ OwnL wc w.heap.size 31 5 (.slice a n c) n U ∧ OwnL wc w.heap.size 31 5 (.slice a1 N c1) N R ∧ OwnL wc w.heap.size 31 5 (.slice a2 N c2) N R)
  case first =>
    refine wp_region_held_drew (S := fun w' => w'.cell? ⟨bb, 0, none⟩ = some (.slice a n c) ∧ w'.cell? ⟨yb, 0, none⟩ = some (.slice a1 N c1) ∧ w'.cell? ⟨wb, 0, none⟩ = some (.slice a2 N c2)) (by kernel_rfl) ?_ (fun hHeld => ?_)
    · (try dsimp only)
      (first | (go_simp; done) | (go_keep; done))
    refine tq 0 hHeld ?_
    refine tq 1 hHeld ?_
    refine tq 2 hHeld ?_
    refine tq 3 hHeld ?_
    refine tq 4 hHeld ?_
    refine tq 5 hHeld ?_
    refine tc 6 fun K hK => ?_
    (go_simp
     have bz := (Below.refl wc.heap.size wc).drew
     (go_at_call 12; refine (pqBroad_eq a1 a2 N _ _ R _ (by exact (hP.below bz).flat) (by exact (hQ.below bz).flat) (by omega)).mono ?_; rintro e w6 ⟨rfl, hb6⟩)
     replace bz := bz.trans (hb6.mono bz.size)
     clear hAc0 hYc0 hWc0
     have hAc0 := (hA.on bz).cell 0 rfl
     have hYc0 := (hY.on bz).cell 0 rfl
     have hWc0 := (hW.on bz).cell 0 rfl
     (try go_wp2_with fail)
     refine tr hK (fun hHeld => ?_)
     clear hK K)
    refine tq 7 hHeld ?_
    refine tq 8 hHeld ?_
    refine tq 9 hHeld ?_
    refine tq 10 hHeld ?_
    refine tq 12 hHeld ?_
    refine tc 11 fun K hK => ?_
    (go_simp
     (go_at_call 13; refine (broadOk_q a n c U OK _ (by exact (hO.below bz).flat) (by omega) hOK.out).mono ?_; rintro e w11 ⟨rfl, hb11⟩)
     replace bz := bz.trans (hb11.mono bz.size)
     clear hAc0 hYc0 hWc0
     have hAc0 := (hA.on bz).cell 0 rfl
     have hYc0 := (hY.on bz).cell 0 rfl
     have hWc0 := (hW.on bz).cell 0 rfl
     (try go_wp2_with fail)
     refine tr hK (fun hHeld => ?_)
     clear hK K)
    refine tc 13 fun K hK => ?_
    (go_simp
     (go_at_call 14; refine (sBroadOk_q a n c U OK _ (by exact (hO.below bz).flat) (by omega) hOK.out).mono ?_; rintro e w13 ⟨rfl, hb13⟩)
     replace bz := bz.trans (hb13.mono bz.size)
     clear hAc0 hYc0 hWc0
     have hAc0 := (hA.on bz).cell 0 rfl
     have hYc0 := (hY.on bz).cell 0 rfl
     have hWc0 := (hW.on bz).cell 0 rfl
     (try go_wp2_with fail)
     refine tr hK (fun hHeld => ?_)
     clear hK K)
    refine tq 14 hHeld ?_
    refine tq 15 hHeld ?_
    refine tq 16 hHeld ?_
    refine tq 17 hHeld ?_
    refine tc 18 fun K hK => ?_
    (go_simp
     (go_at_call 14; refine (sBroadOk_q a n c U OK _ (by exact (hO.below bz).flat) (by omega) hOK.out).mono ?_; rintro e w18 ⟨rfl, hb18⟩)
     replace bz := bz.trans (hb18.mono bz.size)
     clear hAc0 hYc0 hWc0
     have hAc0 := (hA.on bz).cell 0 rfl
     have hYc0 := (hY.on bz).cell 0 rfl
     have hWc0 := (hW.on bz).cell 0 rfl
     (try go_wp2_with fail)
     refine tr hK (fun hHeld => ?_)
     clear hK K)
    refine tq 19 hHeld ?_
    refine tq 20 hHeld ?_
    refine wpAnyH_done (by kernel_rfl) ?_ _
    go_wp2_with fail
    go_meet
    exact ⟨by simp, bel.trans (bz.mono bel.size), hA.on bz, hX.on bz, hY.on bz, hW.on bz, hO.below bz, hP.below bz, hQ.below bz⟩
  case rest =>
  clear bel hA hX hY hW hO hP hQ hAc0 hXc0 hXc1 hXc2 hXc3 hXc4 hYc0 hWc0
  obtain ⟨rfl, bel, hA, hX, hY, hW, hO, hP, hQ⟩ := hcut
  have hAc0 := hA.cell 0 rfl
  have hXc0 := hX.cell 0 rfl
  have hXc1 := hX.cell 1 rfl
  have hXc2 := hX.cell 2 rfl
  have hXc3 := hX.cell 3 rfl
  have hXc4 := hX.cell 4 rfl
  have hYc0 := hY.cell 0 rfl
  have hWc0 := hW.cell 0 rfl
  cases OK with
  | false =>
    go_upto_region 7 with fail
    refine wp_region_held_drew (S := fun w' => w'.cell? ⟨bb, 0, none⟩ = some (.slice a n c) ∧ w'.cell? ⟨yb, 0, none⟩ = some (.slice a1 N c1) ∧ w'.cell? ⟨wb, 0, none⟩ = some (.slice a2 N c2)) (by kernel_rfl) ?_ (fun hHeld => ?_)
    · (try dsimp only)
      (first | (go_simp; done) | (go_keep; done))
    refine tq 0 hHeld ?_
    refine tq 1 hHeld ?_
    refine tq 2 hHeld ?_
    refine tq 3 hHeld ?_
    refine tq 4 hHeld ?_
    refine tq 5 hHeld ?_
    refine tc 6 fun K hK => ?_
    (go_simp
     have bz := (Below.refl wc.heap.size wc).drew
     (go_at_call 12; refine (pqBroad_eq a1 a2 N _ _ R _ (by exact (hP.below bz).flat) (by exact (hQ.below bz).flat) (by omega)).mono ?_; rintro e w6 ⟨rfl, hb6⟩)
     replace bz := bz.trans (hb6.mono bz.size)
     clear hAc0 hYc0 hWc0
     have hAc0 := (hA.on bz).cell 0 rfl
     have hYc0 := (hY.on bz).cell 0 rfl
     have hWc0 := (hW.on bz).cell 0 rfl
     (try go_wp2_with fail)
     refine tr hK (fun hHeld => ?_)
     clear hK K)
    refine tq 7 hHeld ?_
    refine tq 8 hHeld ?_
    refine tq 9 hHeld ?_
    refine tq 11 hHeld ?_
    refine tc 10 fun K hK => ?_
    (go_simp
     (go_at_call 13; refine (broadOk_q a n c U false _ (by exact (hO.below bz).flat) (by omega) hOK.out).mono ?_; rintro e w10 ⟨rfl, hb10⟩)
     replace bz := bz.trans (hb10.mono bz.size)
     clear hAc0 hYc0 hWc0
     have hAc0 := (hA.on bz).cell 0 rfl
     have hYc0 := (hY.on bz).cell 0 rfl
     have hWc0 := (hW.on bz).cell 0 rfl
     (try go_wp2_with fail)
     refine tr hK (fun hHeld => ?_)
     clear hK K)
    refine tc 12 fun K hK => ?_
    (go_simp
     (go_at_call 14; refine (sBroadOk_q a n c U false _ (by exact (hO.below bz).flat) (by omega) hOK.out).mono ?_; rintro e w12 ⟨rfl, hb12⟩)
     replace bz := bz.trans (hb12.mono bz.size)
     clear hAc0 hYc0 hWc0
     have hAc0 := (hA.on bz).cell 0 rfl
     have hYc0 := (hY.on bz).cell 0 rfl
     have hWc0 := (hW.on bz).cell 0 rfl
     (try go_wp2_with fail)
     refine tr hK (fun hHeld => ?_)
     clear hK K)
    refine tq 13 hHeld ?_
    refine tq 14 hHeld ?_
    refine tq 15 hHeld ?_
    refine wpAnyH_done (by kernel_rfl) ?_ _
    go_wp2_with fail
    go_ret
    exact ⟨rfl, bel.trans (bz.mono bel.size)⟩
  | true =>
    clear hKK2
    cases B with
    | false =>
      obtain ⟨rfl, rfl⟩ := put_no HPu.out hOK.out
      go_wp2_with (go_at_call 12; refine (pqBroad_eq a1 a N _ _ R _ (by exact hP.flat) (by exact hO.flat) (by omega)).mono ?_; rintro e w6 ⟨rfl, hb6⟩)
      go_ret
      exact ⟨rfl, bel.trans (hb6.mono bel.size)⟩
    | true =>
      have hPt : Shut (Pt n N k X R) := pt_of HPu.out hk hOK.out
      have hge : (n : Int) ≤ (N : Int) := by have := hPt.out.ge; omega
      have hN24 := broad_le hPt.out.ok
      obtain ⟨M, hM0⟩ : ∃ M, M + 1 = N := ⟨N - 1, by have := hPt.out.lt; omega⟩
      have hM : Shut (M + 1 = N) := hM0
      have hM1 : M ≤ 24 := by omega
      have hMw : IntKind.i64.wrap ((M : Int) + 1) = (M : Int) + 1 := i64w (by omega)
      have hMe : (((M : Int) + 1) == (N : Int)) = true := by rw [beq_iff_eq]; omega
      clear hM0
      obtain ⟨L, hLe0⟩ : ∃ L, cat (k * 5) R (fun q => R (q + (k + 1) * 5)) = L := ⟨_, rfl⟩
      have hLe : Shut (cat (k * 5) R (fun q => R (q + (k + 1) * 5)) = L) := hLe0
      clear hLe0
      obtain ⟨J1, hJ10⟩ : ∃ j, (askL N R (X 1) (X 2) (X 3) (X 4)).length = j := ⟨_, rfl⟩
      have hJ1b : J1 ≤ 1000 := by have := askL_len N R (X 1) (X 2) (X 3) (X 4); omega
      have hJ1 : Shut ((askL N R (X 1) (X 2) (X 3) (X 4)).length = J1) := hJ10
      clear hJ10
      obtain ⟨J2, hJ20⟩ : ∃ j, (askL M L (X 1) (X 2) (X 3) (X 4)).length = j := ⟨_, rfl⟩
      have hJ2b : J2 ≤ 1000 := by have := askL_len M L (X 1) (X 2) (X 3) (X 4); omega
      have hJ2 : Shut ((askL M L (X 1) (X 2) (X 3) (X 4)).length = J2) := hJ20
      clear hJ20
      go_upto_region 10 with fail
      go_cut [9, 10] (fun s0 s1 wc => ∃ (zb : Nat) (a3 : Option Addr) (c3 : Nat), s0 = .pointer (some ⟨zb, 0, none⟩) ∧ s1 = .bool true ∧ Below w.heap.size w wc ∧ Blk wc bb #[.slice a n c] 25 ∧ Blk wc xb #[.int .i64 (X 0), .int .i64 (X 1), .int .i64 (X 2), .int .i64 (X 3), .int .i64 (X 4)] 31 ∧ Blk wc yb #[.slice a1 N c1] 25 ∧ Blk wc zb #[.slice a3 N c3] 25 ∧ OwnL wc w.heap.size 31 5 (.slice a n c) n U ∧ OwnL wc w.heap.size 31 5 (.slice a1 N c1) N R ∧ OwnL wc w.heap.size 31 5 (.slice a3 N c3) N R)
      case first =>
        go_wp2_with (go_at_call 10; refine (put_own w.heap.size a1 N c1 R X k _ hP (by omega) hPt.out.isat N _ true hPt.out.again).mono ?_; rintro e w2 ⟨a3, c3, rfl, hOu⟩)
        go_meet
        have bz := hOu.bel.alloc hOu.bel.size (.cells #[.slice a3 N c3] 25)
        exact ⟨_, a3, c3, rfl, rfl, bel.trans (bz.mono bel.size), hA.on bz, hX.on bz, hY.on bz, Blk.new _ _ _, hO.below bz, hP.below bz, ((hOu.own.congr hPt.out.same).base bel.size).al _⟩
      case rest =>
      clear bel hA hX hY hW hO hP hQ hAc0 hXc0 hXc1 hXc2 hXc3 hXc4 hYc0 hWc0
      obtain ⟨zb, a3, c3, rfl, rfl, bel, hA, hX, hY, hZ, hO, hP, hS⟩ := hcut
      have hAc0 := hA.cell 0 rfl
      have hXc0 := hX.cell 0 rfl
      have hXc1 := hX.cell 1 rfl
      have hXc2 := hX.cell 2 rfl
      have hXc3 := hX.cell 3 rfl
      have hXc4 := hX.cell 4 rfl
      have hYc0 := hY.cell 0 rfl
      have hZc0 := hZ.cell 0 rfl
      go_upto_region 11 with fail
      go_cut [11, 12] (fun s0 s1 wc => ∃ (lb : Nat) (a4 : Option Addr) (c4 : Nat), s0 = .pointer (some ⟨lb, 0, none⟩) ∧ s1 = .bool true ∧ Below w.heap.size w wc ∧ Blk wc bb #[.slice a n c] 25 ∧ Blk wc xb #[.int .i64 (X 0), .int .i64 (X 1), .int .i64 (X 2), .int .i64 (X 3), .int .i64 (X 4)] 31 ∧ Blk wc yb #[.slice a1 N c1] 25 ∧ Blk wc zb #[.slice a3 N c3] 25 ∧ Blk wc lb #[.slice a4 M c4] 25 ∧ OwnL wc w.heap.size 31 5 (.slice a n c) n U ∧ OwnL wc w.heap.size 31 5 (.slice a1 N c1) N R ∧ OwnL wc w.heap.size 31 5 (.slice a3 N c3) N R ∧ OwnL wc w.heap.size 31 5 (.slice a4 M c4) M L)
      case first =>
        go_wp2_with (go_at_call 15; refine (gone_any a1 N c1 R (X 0) k _ hP.flat hP.le (by omega) hPt.out.isat M L true (by rw [← hLe.out]; exact hPt.out.gone hM.out)).mono ?_; rintro e w2 ⟨a4, c4, rfl, hOu⟩)
        go_meet
        have bz := hOu.bel.alloc hOu.bel.size (.cells #[.slice a4 M c4] 25)
        exact ⟨_, a4, c4, rfl, rfl, bel.trans (bz.mono bel.size), hA.on bz, hX.on bz, hY.on bz, hZ.on bz, Blk.new _ _ _, hO.below bz, hP.below bz, hS.below bz, (hOu.own.base bel.size).al _⟩
      case rest =>
      clear bel hA hX hY hZ hO hP hS hAc0 hXc0 hXc1 hXc2 hXc3 hXc4 hYc0 hZc0
      obtain ⟨lb, a4, c4, rfl, rfl, bel, hA, hX, hY, hZ, hL, hO, hP, hS, hT⟩ := hcut
      have hAc0 := hA.cell 0 rfl
      have hXc0 := hX.cell 0 rfl
      have hXc1 := hX.cell 1 rfl
      have hXc2 := hX.cell 2 rfl
      have hXc3 := hX.cell 3 rfl
      have hXc4 := hX.cell 4 rfl
      have hYc0 := hY.cell 0 rfl
      have hZc0 := hZ.cell 0 rfl
      have hLc0 := hL.cell 0 rfl
      go_upto_region 12 with fail
      refine wp_region_held_drew (S := fun w' => w'.cell? ⟨bb, 0, none⟩ = some (.slice a n c) ∧ w'.cell? ⟨xb, 0, none⟩ = some (.int .i64 (X 0)) ∧ w'.cell? ⟨xb, 1, none⟩ = some (.int .i64 (X 1)) ∧ w'.cell? ⟨xb, 2, none⟩ = some (.int .i64 (X 2)) ∧ w'.cell? ⟨xb, 3, none⟩ = some (.int .i64 (X 3)) ∧ w'.cell? ⟨xb, 4, none⟩ = some (.int .i64 (X 4)) ∧ w'.cell? ⟨yb, 0, none⟩ = some (.slice a1 N c1) ∧ w'.cell? ⟨zb, 0, none⟩ = some (.slice a3 N c3) ∧ w'.cell? ⟨lb, 0, none⟩ = some (.slice a4 M c4)) (by kernel_rfl) ?_ (fun hHeld => ?_)
      · (try dsimp only)
        (first | (go_simp; done) | (go_keep; done))
      refine tq 0 hHeld ?_
      refine tc 1 fun K hK => ?_
      (go_simp
       have bz := (Below.refl wc.heap.size wc).drew
       (go_at_call 13; refine (broadOk_q a1 N c1 R true _ (by exact (hP.below bz).flat) (by omega) hPt.out.ok).mono ?_; rintro e w1 ⟨rfl, hb1⟩)
       replace bz := bz.trans (hb1.mono bz.size)
       clear hAc0 hXc0 hXc1 hXc2 hXc3 hXc4 hYc0 hZc0 hLc0
       have hAc0 := (hA.on bz).cell 0 rfl
       have hXc0 := (hX.on bz).cell 0 rfl
       have hXc1 := (hX.on bz).cell 1 rfl
       have hXc2 := (hX.on bz).cell 2 rfl
       have hXc3 := (hX.on bz).cell 3 rfl
       have hXc4 := (hX.on bz).cell 4 rfl
       have hYc0 := (hY.on bz).cell 0 rfl
       have hZc0 := (hZ.on bz).cell 0 rfl
       have hLc0 := (hL.on bz).cell 0 rfl
       (try go_wp2_with fail)
       refine tr hK (fun hHeld => ?_)
       clear hK K)
      refine tq 2 hHeld ?_
      refine tq 3 hHeld ?_
      refine tq 4 hHeld ?_
      refine tq 5 hHeld ?_
      refine tq 6 hHeld ?_
      refine tq 7 hHeld ?_
      refine tc 8 fun K hK => ?_
      (go_simp
       (go_at_call 12; refine (pqBroad_eq a3 a1 N _ _ R _ (by exact (hS.below bz).flat) (by exact (hP.below bz).flat) (by omega)).mono ?_; rintro e w8 ⟨rfl, hb8⟩)
       replace bz := bz.trans (hb8.mono bz.size)
       clear hAc0 hXc0 hXc1 hXc2 hXc3 hXc4 hYc0 hZc0 hLc0
       have hAc0 := (hA.on bz).cell 0 rfl
       have hXc0 := (hX.on bz).cell 0 rfl
       have hXc1 := (hX.on bz).cell 1 rfl
       have hXc2 := (hX.on bz).cell 2 rfl
       have hXc3 := (hX.on bz).cell 3 rfl
       have hXc4 := (hX.on bz).cell 4 rfl
       have hYc0 := (hY.on bz).cell 0 rfl
       have hZc0 := (hZ.on bz).cell 0 rfl
       have hLc0 := (hL.on bz).cell 0 rfl
       (try go_wp2_with fail)
       refine tr hK (fun hHeld => ?_)
       clear hK K)
      refine tq 9 hHeld ?_
      refine tq 10 hHeld ?_
      refine tq 11 hHeld ?_
      refine tq 12 hHeld ?_
      refine tq 13 hHeld ?_
      refine tq 14 hHeld ?_
      refine tq 15 hHeld ?_
      refine tq 16 hHeld ?_
      refine tq 17 hHeld ?_
      refine tq 18 hHeld ?_
      refine tq 19 hHeld ?_
      refine tq 20 hHeld ?_
      refine tq 21 hHeld ?_
      refine tq 22 hHeld ?_
      refine tq 23 hHeld ?_
      refine tq 24 hHeld ?_
      refine tq 25 hHeld ?_
      refine tq 26 hHeld ?_
      refine tq 27 hHeld ?_
      refine tq 28 hHeld ?_
      refine tq 29 hHeld ?_
      refine tq 30 hHeld ?_
      refine tq 31 hHeld ?_
      refine tq 32 hHeld ?_
      refine tq 33 hHeld ?_
      refine tq 34 hHeld ?_
      refine tq 35 hHeld ?_
      refine tq 37 hHeld ?_
      refine tq 38 hHeld ?_
      refine tc 36 fun K hK => ?_
      (go_simp
       (go_at_call 17; refine (ask_i a1 N c1 R (X 1) (X 2) (X 3) (X 4) J1 _ _ (by exact (hP.below bz).flat) (by omega) hJ1.out rfl).mono ?_; rintro e w36 ⟨a36, c36, rfl, hO36⟩; have hb36 := hO36.bel; have hF36 := hO36.own.flat)
       replace bz := bz.trans (hb36.mono bz.size)
       clear hAc0 hXc0 hXc1 hXc2 hXc3 hXc4 hYc0 hZc0 hLc0
       have hAc0 := (hA.on bz).cell 0 rfl
       have hXc0 := (hX.on bz).cell 0 rfl
       have hXc1 := (hX.on bz).cell 1 rfl
       have hXc2 := (hX.on bz).cell 2 rfl
       have hXc3 := (hX.on bz).cell 3 rfl
       have hXc4 := (hX.on bz).cell 4 rfl
       have hYc0 := (hY.on bz).cell 0 rfl
       have hZc0 := (hZ.on bz).cell 0 rfl
       have hLc0 := (hL.on bz).cell 0 rfl
       (try go_wp2_with fail)
       refine tr hK (fun hHeld => ?_)
       clear hK K)
      refine tc 39 fun K hK => ?_
      (go_simp
       (go_at_call 16; refine (pqHas_eq a36 J1 c36 _ (X 0) true _ hF36 (by omega) (by rw [← hJ1.out, ofL_has]; simp [hPt.out.has])).mono ?_; rintro e w39 ⟨rfl, hb39⟩)
       replace bz := bz.trans (hb39.mono bz.size)
       clear hAc0 hXc0 hXc1 hXc2 hXc3 hXc4 hYc0 hZc0 hLc0
       have hAc0 := (hA.on bz).cell 0 rfl
       have hXc0 := (hX.on bz).cell 0 rfl
       have hXc1 := (hX.on bz).cell 1 rfl
       have hXc2 := (hX.on bz).cell 2 rfl
       have hXc3 := (hX.on bz).cell 3 rfl
       have hXc4 := (hX.on bz).cell 4 rfl
       have hYc0 := (hY.on bz).cell 0 rfl
       have hZc0 := (hZ.on bz).cell 0 rfl
       have hLc0 := (hL.on bz).cell 0 rfl
       (try go_wp2_with fail)
       refine tr hK (fun hHeld => ?_)
       clear hK K)
      refine tq 40 hHeld ?_
      refine tq 41 hHeld ?_
      refine tq 42 hHeld ?_
      refine tq 43 hHeld ?_
      refine tq 44 hHeld ?_
      refine tq 46 hHeld ?_
      refine tq 47 hHeld ?_
      refine tc 45 fun K hK => ?_
      (go_simp
       (go_at_call 17; refine (ask_i a4 M c4 L (X 1) (X 2) (X 3) (X 4) J2 _ _ (by exact (hT.below bz).flat) (by omega) hJ2.out rfl).mono ?_; rintro e w45 ⟨a45, c45, rfl, hO45⟩; have hb45 := hO45.bel; have hF45 := hO45.own.flat)
       replace bz := bz.trans (hb45.mono bz.size)
       clear hAc0 hXc0 hXc1 hXc2 hXc3 hXc4 hYc0 hZc0 hLc0
       have hAc0 := (hA.on bz).cell 0 rfl
       have hXc0 := (hX.on bz).cell 0 rfl
       have hXc1 := (hX.on bz).cell 1 rfl
       have hXc2 := (hX.on bz).cell 2 rfl
       have hXc3 := (hX.on bz).cell 3 rfl
       have hXc4 := (hX.on bz).cell 4 rfl
       have hYc0 := (hY.on bz).cell 0 rfl
       have hZc0 := (hZ.on bz).cell 0 rfl
       have hLc0 := (hL.on bz).cell 0 rfl
       (try go_wp2_with fail)
       refine tr hK (fun hHeld => ?_)
       clear hK K)
      refine tc 48 fun K hK => ?_
      (go_simp
       (go_at_call 16; refine (pqHas_eq a45 J2 c45 _ (X 0) false _ hF45 (by omega) (by rw [← hJ2.out, ofL_has]; simp only [Bool.false_eq_true, false_iff]; rw [← hLe.out]; exact hPt.out.hasnt hM.out _ _ _ _)).mono ?_; rintro e w48 ⟨rfl, hb48⟩)
       replace bz := bz.trans (hb48.mono bz.size)
       clear hAc0 hXc0 hXc1 hXc2 hXc3 hXc4 hYc0 hZc0 hLc0
       have hAc0 := (hA.on bz).cell 0 rfl
       have hXc0 := (hX.on bz).cell 0 rfl
       have hXc1 := (hX.on bz).cell 1 rfl
       have hXc2 := (hX.on bz).cell 2 rfl
       have hXc3 := (hX.on bz).cell 3 rfl
       have hXc4 := (hX.on bz).cell 4 rfl
       have hYc0 := (hY.on bz).cell 0 rfl
       have hZc0 := (hZ.on bz).cell 0 rfl
       have hLc0 := (hL.on bz).cell 0 rfl
       (try go_wp2_with fail)
       refine tr hK (fun hHeld => ?_)
       clear hK K)
      refine tq 49 hHeld ?_
      refine tq 50 hHeld ?_
      refine tq 51 hHeld ?_
      refine wpAnyH_done (by kernel_rfl) ?_ _
      go_wp2_with fail
      go_ret
      exact ⟨rfl, bel.trans (bz.mono bel.size)⟩
end Go.Proofs.Ytbngdlbecdloiaa
