/- The walk of the law of promise 23. -/
import Derived.Test.YtbngdlbecdloiaaDrawBp
import Derived.Test.YtbngdlbecdloiaaB40
import Derived.Test.YtbngdlbecdloiaaPqI
import Derived.Test.YtbngdlbecdloiaaBrGo
import Derived.Deep.RegionHeld3
import Derived.Deep.DeepCutAuto
set_option maxHeartbeats 16000000
set_option maxRecDepth 20000
namespace Go.Proofs.Ytbngdlbecdloiaa
open Go.RowKit
set_option linter.unusedVariables false
set_option linter.unusedSimpArgs false
theorem suf_ok {n m d : Nat} {U : Nat → Int} (h : broadB n U = true) (hd : m + d = n) : broadB m (fun q => U (q + d * 5)) = true := by
  have h24 := broad_le h
  refine broad_of (by omega) (fun i hi => ?_) (fun i hi => ?_)
  · have q := broad_item h (show i + d < n by omega)
    rw [itemB_cong (V := fun j => U (i * 5 + j + d * 5)) (W := fun j => U ((i + d) * 5 + j)) (fun j _ => by show U _ = U _; congr 1; omega)]
    exact q
  · have q := broad_next h (show i + d + 1 < n by omega)
    show U (i * 5 + d * 5) < U ((i + 1) * 5 + d * 5)
    rw [show i * 5 + d * 5 = (i + d) * 5 by omega, show (i + 1) * 5 + d * 5 = (i + d + 1) * 5 by omega]
    exact q
theorem suf_it {n e : Nat} {U : Nat → Int} (h : broadB n U = true) (he : e < n) : itemB (fun jj => [U (e * 5), U (e * 5 + 1), U (e * 5 + 2), U (e * 5 + 3), U (e * 5 + 4)].getD jj 0) = true := by
  rw [itemB_cong (W := fun j => U (e * 5 + j)) (fun j hj => by rcases (show j = 0 ∨ j = 1 ∨ j = 2 ∨ j = 3 ∨ j = 4 by omega) with rfl | rfl | rfl | rfl | rfl <;> rfl)]
  exact broad_item h he
theorem suf_at {n m e : Nat} {U : Nat → Int} (h : broadB n U = true) (he : m + (e + 1) = n) : IsAt m (fun q => U (q + (e + 1) * 5)) ((fun jj => [U (e * 5), U (e * 5 + 1), U (e * 5 + 2), U (e * 5 + 3), U (e * 5 + 4)].getD jj 0) 0) 0 :=
  ⟨Nat.zero_le _, fun j hj => absurd hj (Nat.not_lt_zero _), fun hm => by
    show ¬ U (0 * 5 + (e + 1) * 5) < U (e * 5)
    have q := broad_next h (show e + 1 < n by omega)
    rw [Nat.zero_mul, Nat.zero_add]
    omega⟩
theorem suf_put {n m e : Nat} {U : Nat → Int} (h : broadB n U = true) (he : m + (e + 1) = n) : PutIs m (fun q => U (q + (e + 1) * 5)) (fun jj => [U (e * 5), U (e * 5 + 1), U (e * 5 + 2), U (e * 5 + 3), U (e * 5 + 4)].getD jj 0) 0 (m + 1) (insU 0 (fun q => U (q + (e + 1) * 5)) (fun jj => [U (e * 5), U (e * 5 + 1), U (e * 5 + 2), U (e * 5 + 3), U (e * 5 + 4)].getD jj 0) 0) true := by
  have h24 := broad_le h
  refine .inr (.inr (.inr (.inr ⟨suf_ok h he, suf_it h (by omega), ?_, by omega, rfl, rfl, rfl⟩)))
  unfold thereB
  rw [decide_eq_false]
  rintro ⟨h1, h2⟩
  have h2 : U (0 * 5 + (e + 1) * 5) = U (e * 5) := h2
  have q := broad_next h (show e + 1 < n by omega)
  rw [Nat.zero_mul, Nat.zero_add] at h2
  omega
theorem suf_eq (m e : Nat) (U : Nat → Int) : ∀ q, q < (m + 1) * 5 → insU 0 (fun q => U (q + (e + 1) * 5)) (fun jj => [U (e * 5), U (e * 5 + 1), U (e * 5 + 2), U (e * 5 + 3), U (e * 5 + 4)].getD jj 0) 0 q = U (q + e * 5) := by
  intro q _
  unfold insU cat
  by_cases l : q < (0 + 1) * 5
  · rw [if_pos l, if_neg (by omega)]
    rcases (show q = 0 ∨ q = 1 ∨ q = 2 ∨ q = 3 ∨ q = 4 by omega) with rfl | rfl | rfl | rfl | rfl
    · show U _ = U _; congr 1; omega
    · show U _ = U _; congr 1; omega
    · show U _ = U _; congr 1; omega
    · show U _ = U _; congr 1; omega
    · show U _ = U _; congr 1; omega
  · rw [if_neg l]
    show U _ = U _
    congr 1
    omega
set_option maxRecDepth 20000 in
set_option maxHeartbeats 8000000 in
theorem fnBroadOrder_walk (ac : Option Addr) (len cap : Nat) (w : World) (hb : Bytes w ac len cap) :
    Calls Try.prog 8 #[.slice ac len cap] w fun e w' => e = .returned (.bool true) ∧ Below w.heap.size w w' := by
  have hset := cset_map
  by_cases hlen : 1048576 < len
  · have hl : (1048576 : Int) < (len : Int) := by omega
    go_enter Try.func8, Try.ntmps8
    go_wp2_with fail
    go_ret
    exact ⟨rfl, Below.refl _ _⟩
  have hl : ¬ (1048576 : Int) < (len : Int) := by omega
  go_enter Try.func8, Try.ntmps8
  go_upto_region 3 with fail
  go_cut [3] (fun s3 wc => ∃ (bb : Nat) (a : Option Addr) (n c : Nat) (U : Nat → Int), s3 = .pointer (some ⟨bb, 0, none⟩) ∧ n ≤ 25 ∧ Below w.heap.size w wc ∧ Blk wc bb #[.slice a n c] 25 ∧ OwnL wc w.heap.size 31 5 (.slice a n c) n U)
  case first =>
    go_wp2_with (go_at_call 22; refine (drawBroadPairs_k _ _ _ _ hb).mono ?_; rintro e w1 ⟨a, n, c, U, rfl, hn, hb1, hO1⟩)
    go_meet
    exact ⟨_, a, n, c, U, rfl, hn, hb1.alloc hb1.size _, Blk.new _ _ _, hO1.al _⟩
  case rest =>
  obtain ⟨bb, a, n, c, U, rfl, hn, bel, hA, hO⟩ := hcut
  have hAc0 := hA.cell 0 rfl
  obtain ⟨J, hJ0⟩ : ∃ j, bpN n U = j := ⟨_, rfl⟩
  have hJ5 : J ≤ 576 := by have := bpN_le n U; omega
  have hJ : Shut (bpN n U = J) := hJ0
  clear hJ0
  obtain ⟨V, hV0⟩ : ∃ v, v = ofL (bpT n U) := ⟨_, rfl⟩
  have hV : Shut (V = ofL (bpT n U)) := hV0
  clear hV0
  obtain ⟨OK, hOK0⟩ : ∃ b, broadB n U = b := ⟨_, rfl⟩
  have hOK : Shut (broadB n U = OK) := hOK0
  clear hOK0
  go_upto_region 4 with fail
  go_cut [23] (fun s wc => s = .bool (!OK) ∧ Below w.heap.size w wc ∧ Blk wc bb #[.slice a n c] 25 ∧ OwnL wc w.heap.size 31 5 (.slice a n c) n U)
  case first =>
    refine wp_region_held_drew (S := fun w' => w'.cell? ⟨bb, 0, none⟩ = some (.slice a n c)) (by kernel_rfl) ?_ (fun hHeld => ?_)
    · (try dsimp only)
      (first | (go_simp; done) | (go_keep; done))
    refine tq 0 hHeld ?_
    refine tq 2 hHeld ?_
    refine tc 1 fun K hK => ?_
    (go_simp
     have bz := (Below.refl wc.heap.size wc).drew
     (go_at_call 20; refine (pairs_i a n c U J V _ (by exact (hO.below bz).flat) (by omega) hJ.out hV.out).mono ?_; rintro e w1 ⟨a1, c1, rfl, hO1⟩)
     have hb1 := hO1.bel
     replace bz := bz.trans (hb1.mono bz.size)
     have hF1 := hO1.own.flat
     clear hAc0
     have hAc0 := (hA.on bz).cell 0 rfl
     (try go_wp2_with fail)
     refine tr hK (fun hHeld => ?_)
     clear hK K)
    refine tc 3 fun K hK => ?_
    (go_simp
     (go_at_call 23; refine (pairs_s a n c U J V _ (by exact (hO.below bz).flat) (by omega) hJ.out hV.out).mono ?_; rintro e w3 ⟨a3, c3, rfl, hO3⟩)
     have hb3 := hO3.bel
     replace bz := bz.trans (hb3.mono bz.size)
     replace hF1 := hF1.below hb3
     have hF3 := hO3.own.flat
     clear hAc0
     have hAc0 := (hA.on bz).cell 0 rfl
     (try go_wp2_with fail)
     refine tr hK (fun hHeld => ?_)
     clear hK K)
    refine tc 4 fun K hK => ?_
    (go_simp
     (go_at_call 21; refine (pqPairs_eq a1 a3 J _ _ V _ (by exact hF1) (by exact hF3) (by omega)).mono ?_; rintro e w4 ⟨rfl, hb4⟩)
     replace bz := bz.trans (hb4.mono bz.size)
     replace hF1 := hF1.below hb4
     replace hF3 := hF3.below hb4
     clear hAc0
     have hAc0 := (hA.on bz).cell 0 rfl
     (try go_wp2_with fail)
     refine tr hK (fun hHeld => ?_)
     clear hK K)
    refine tq 5 hHeld ?_
    refine tq 6 hHeld ?_
    refine tq 7 hHeld ?_
    refine tc 8 fun K hK => ?_
    (go_simp
     (go_at_call 14; refine (sBroadOk_q a n c U OK _ (by exact (hO.below bz).flat) (by omega) hOK.out).mono ?_; rintro e w8 ⟨rfl, hb8⟩)
     replace bz := bz.trans (hb8.mono bz.size)
     replace hF1 := hF1.below hb8
     replace hF3 := hF3.below hb8
     clear hAc0
     have hAc0 := (hA.on bz).cell 0 rfl
     (try go_wp2_with fail)
     refine tr hK (fun hHeld => ?_)
     clear hK K)
    refine tq 9 hHeld ?_
    refine tq 10 hHeld ?_
    refine wpAnyH_done (by kernel_rfl) ?_ _
    go_wp2_with fail
    go_meet
    exact ⟨by simp, bel.trans (bz.mono bel.size), hA.on bz, hO.below bz⟩
  case rest =>
  clear bel hA hO hAc0
  obtain ⟨rfl, bel, hA, hO⟩ := hcut
  have hAc0 := hA.cell 0 rfl
  cases OK with
  | false =>
    go_upto_region 5 with fail
    refine wp_region_held_drew (S := fun w' => w'.cell? ⟨bb, 0, none⟩ = some (.slice a n c)) (by kernel_rfl) ?_ (fun hHeld => ?_)
    · (try dsimp only)
      (first | (go_simp; done) | (go_keep; done))
    refine tq 0 hHeld ?_
    refine tq 2 hHeld ?_
    refine tc 1 fun K hK => ?_
    (go_simp
     have bz := (Below.refl wc.heap.size wc).drew
     (go_at_call 20; refine (pairs_i a n c U J V _ (by exact (hO.below bz).flat) (by omega) hJ.out hV.out).mono ?_; rintro e w1 ⟨a1, c1, rfl, hO1⟩)
     have hb1 := hO1.bel
     replace bz := bz.trans (hb1.mono bz.size)
     have hF1 := hO1.own.flat
     clear hAc0
     have hAc0 := (hA.on bz).cell 0 rfl
     (try go_wp2_with fail)
     refine tr hK (fun hHeld => ?_)
     clear hK K)
    refine tc 3 fun K hK => ?_
    (go_simp
     (go_at_call 23; refine (pairs_s a n c U J V _ (by exact (hO.below bz).flat) (by omega) hJ.out hV.out).mono ?_; rintro e w3 ⟨a3, c3, rfl, hO3⟩)
     have hb3 := hO3.bel
     replace bz := bz.trans (hb3.mono bz.size)
     replace hF1 := hF1.below hb3
     have hF3 := hO3.own.flat
     clear hAc0
     have hAc0 := (hA.on bz).cell 0 rfl
     (try go_wp2_with fail)
     refine tr hK (fun hHeld => ?_)
     clear hK K)
    refine tc 4 fun K hK => ?_
    (go_simp
     (go_at_call 21; refine (pqPairs_eq a1 a3 J _ _ V _ (by exact hF1) (by exact hF3) (by omega)).mono ?_; rintro e w4 ⟨rfl, hb4⟩)
     replace bz := bz.trans (hb4.mono bz.size)
     replace hF1 := hF1.below hb4
     replace hF3 := hF3.below hb4
     clear hAc0
     have hAc0 := (hA.on bz).cell 0 rfl
     (try go_wp2_with fail)
     refine tr hK (fun hHeld => ?_)
     clear hK K)
    refine tq 5 hHeld ?_
    refine wpAnyH_done (by kernel_rfl) ?_ _
    go_wp2_with fail
    go_ret
    exact ⟨rfl, bel.trans (bz.mono bel.size)⟩
  | true =>
    have hok := hOK.out
    have h24 := broad_le hok
    have hlt := hA.lt
    have q1 := hA.al (.cells #[.slice none 0 0] 25)
    have q2 := Blk.new wc #[.slice none 0 0] 25
    have q3 := hO.al (.cells #[.slice none 0 0] 25)
    have q4 := bel.alloc bel.size (.cells #[.slice none 0 0] 25)
    go_upto_region 7 with fail
    have hbx : bb ≠ wc.heap.size := by omega
    have hxlo : w.heap.size ≤ wc.heap.size := bel.size
    clear bel hA hO hAc0
    have hAc0 := q1.cell 0 rfl
    generalize (wc.alloc (.cells #[.slice none 0 0] 25)) = wk at q1 q2 q3 q4 hAc0 ⊢
    generalize wc.heap.size = xb at q2 hbx hxlo ⊢
    go_wp2_with fail
    go_loopw [5, 6, 7] (fun s5 _ _ wr => ∃ (d m : Nat) (a1 : Option Addr) (c1 : Nat) (z : Int), s5 = .int .i64 z ∧ m + d = n ∧ (d : Int) = z + 1 ∧ Below w.heap.size w wr ∧ Blk wr bb #[.slice a n c] 25 ∧ Blk wr xb #[.slice a1 m c1] 25 ∧ OwnL wr w.heap.size 31 5 (.slice a n c) n U ∧ OwnL wr w.heap.size 31 5 (.slice a1 m c1) m (fun q => U (q + d * 5))) (fun s5 _ _ _ => (intOf s5 + 1).toNat)
    case atStart => exact ⟨n, 0, none, 0, _, rfl, by omega, by omega, q4, q1, q2, q3, OwnL.nil _ _ _ _ _⟩
    case round =>
      clear q1 q2 q3 q4 hAc0 hlt
      obtain ⟨d, m, a1, c1, z, rfl, hd, hz, bel, hA, hX, hO, hM⟩ := hrel
      have hAc0 := hA.cell 0 rfl
      have hXc0 := hX.cell 0 rfl
      by_cases hz0 : 0 ≤ z
      · obtain ⟨e, rfl⟩ : ∃ e : Nat, z = (e : Int) := ⟨z.toNat, by omega⟩
        obtain rfl : d = e + 1 := by omega
        have hen : e < n := by omega
        have hei : (e : Int) < (n : Int) := by omega
        obtain ⟨g, rfl, hg1, hg2⟩ := hO.loc (by omega)
        clear hg2
        have hAt : Shut (IsAt m (fun q => U (q + (e + 1) * 5)) ((fun jj => [U (e * 5), U (e * 5 + 1), U (e * 5 + 2), U (e * 5 + 3), U (e * 5 + 4)].getD jj 0) 0) 0) := suf_at hok hd
        have hPu : Shut (PutIs m (fun q => U (q + (e + 1) * 5)) (fun jj => [U (e * 5), U (e * 5 + 1), U (e * 5 + 2), U (e * 5 + 3), U (e * 5 + 4)].getD jj 0) 0 (m + 1) (insU 0 (fun q => U (q + (e + 1) * 5)) (fun jj => [U (e * 5), U (e * 5 + 1), U (e * 5 + 2), U (e * 5 + 3), U (e * 5 + 4)].getD jj 0) 0) true) := suf_put hok hd
        clear hok hOK hJ hV
        have bz := Below.refl wr.heap.size wr
        clear hAc0 hXc0
        have u0 := (hO.below bz).cellq (q := e * 5) (by omega)
        have u1 := (hO.below bz).cellq (q := e * 5 + 1) (by omega)
        have u2 := (hO.below bz).cellq (q := e * 5 + 2) (by omega)
        have u3 := (hO.below bz).cellq (q := e * 5 + 3) (by omega)
        have u4 := (hO.below bz).cellq (q := e * 5 + 4) (by omega)
        have hAc0 := (hA.on bz).cell 0 rfl
        have hXc0 := (hX.on bz).cell 0 rfl
        clear bz
        obtain ⟨L, hLL⟩ : ∃ L, L = wr.heap.size := ⟨_, rfl⟩
        go_upto_region 10 with fail
        refine wp_region_held_drew (S := fun w' => w'.cell? ⟨bb, 0, none⟩ = some (.slice (some ⟨g, 0, none⟩) n c) ∧ w'.cell? ⟨xb, 0, none⟩ = some (.slice a1 m c1) ∧ w'.cell? ⟨g, e * 5, none⟩ = some (.int .i64 (U (e * 5))) ∧ w'.cell? ⟨g, e * 5 + 1, none⟩ = some (.int .i64 (U (e * 5 + 1))) ∧ w'.cell? ⟨g, e * 5 + 2, none⟩ = some (.int .i64 (U (e * 5 + 2))) ∧ w'.cell? ⟨g, e * 5 + 3, none⟩ = some (.int .i64 (U (e * 5 + 3))) ∧ w'.cell? ⟨g, e * 5 + 4, none⟩ = some (.int .i64 (U (e * 5 + 4)))) (by kernel_rfl) ?_ (fun hHeld => ?_)
        · (try dsimp only)
          (first | (go_simp; done) | (go_keep; done))
        refine tq 0 hHeld ?_
        refine tq 1 hHeld ?_
        refine tq 2 hHeld ?_
        refine tq 3 hHeld ?_
        refine tq 4 hHeld ?_
        refine tq 5 hHeld ?_
        refine wpAnyH_ready (rs := [6, 10]) (by kernel_rfl) (by simp) ?_
        refine AllReadyH.cons rfl (fun K hK => ?_) (AllReadyH.cons rfl (fun K hK => ?_) AllReadyH.nil)
        · (go_simp
           have bz := (Below.refl wr.heap.size wr).drew
           (go_at_call 10; refine (put_own w.heap.size a1 m c1 (fun q => U (q + (e + 1) * 5)) (fun jj => [U (e * 5), U (e * 5 + 1), U (e * 5 + 2), U (e * 5 + 3), U (e * 5 + 4)].getD jj 0) 0 _ (by exact hM.below bz) (by omega) hAt.out (m + 1) _ true hPu.out).mono ?_; rintro e6 w6 ⟨a6, c6, rfl, hOu⟩)
           have hb6 := hOu.bel
           have hN := (hOu.own.congr (suf_eq m e U)).base (B := w.heap.size) (by have := bel.size; have := bz.size; omega)
           replace bz := bz.trans (hb6.mono bz.size)
           clear u0 u1 u2 u3 u4 hAc0 hXc0
           have u0 := (hO.below bz).cellq (q := e * 5) (by omega)
           have u1 := (hO.below bz).cellq (q := e * 5 + 1) (by omega)
           have u2 := (hO.below bz).cellq (q := e * 5 + 2) (by omega)
           have u3 := (hO.below bz).cellq (q := e * 5 + 3) (by omega)
           have u4 := (hO.below bz).cellq (q := e * 5 + 4) (by omega)
           have hAc0 := (hA.on bz).cell 0 rfl
           have hXc0 := (hX.on bz).cell 0 rfl
           (try go_wp2_with fail)
           refine tr hK (fun hHeld => ?_)
           clear hK K)
          refine tq 7 hHeld ?_
          refine tq 8 hHeld ?_
          refine tq 9 hHeld ?_
          refine tc 10 fun K hK => ?_
          (go_simp
           have hY := Blk.new w6 #[.slice none 0 0] 25
           have hyx : xb ≠ w6.heap.size := by have := (hX.on bz).lt; omega
           have hyb : L ≤ w6.heap.size := by have := bz.size; omega
           replace bz := bz.alloc bz.size (.cells #[.slice none 0 0] 25)
           replace hN := hN.al (.cells #[.slice none 0 0] 25)
           clear u0 u1 u2 u3 u4 hAc0 hXc0
           have u0 := (hO.below bz).cellq (q := e * 5) (by omega)
           have u1 := (hO.below bz).cellq (q := e * 5 + 1) (by omega)
           have u2 := (hO.below bz).cellq (q := e * 5 + 2) (by omega)
           have u3 := (hO.below bz).cellq (q := e * 5 + 3) (by omega)
           have u4 := (hO.below bz).cellq (q := e * 5 + 4) (by omega)
           have hAc0 := (hA.on bz).cell 0 rfl
           have hXc0 := (hX.on bz).cell 0 rfl
           generalize (w6.alloc (.cells #[.slice none 0 0] 25)) = w10 at hY bz hN u0 u1 u2 u3 u4 hAc0 hXc0 ⊢
           generalize w6.heap.size = yb at hY hyx hyb ⊢
           refine tr hK (fun hHeld => ?_)
           clear hK K)
          refine tc 11 fun K hK => ?_
          (have yc := hY.cell 0 rfl
           have yf := hY.f 0
           go_simp
           clear yc yf
           have hY4 := hY.put 0 (.slice a6 (m + 1) c6)
           have bz4 := bz.setCell (p := ⟨yb, 0, none⟩) (by show wr.heap.size ≤ yb; omega) (.slice a6 (m + 1) c6)
           have hN4 := hN.stb (o := 0) (hY.ne hN neItBr) (.slice a6 (m + 1) c6)
           clear bz hN hY
           clear u0 u1 u2 u3 u4 hAc0 hXc0
           have bz := bz4
           have u0 := (hO.below bz).cellq (q := e * 5) (by omega)
           have u1 := (hO.below bz).cellq (q := e * 5 + 1) (by omega)
           have u2 := (hO.below bz).cellq (q := e * 5 + 2) (by omega)
           have u3 := (hO.below bz).cellq (q := e * 5 + 3) (by omega)
           have u4 := (hO.below bz).cellq (q := e * 5 + 4) (by omega)
           have hAc0 := (hA.on bz).cell 0 rfl
           have hXc0 := (hX.on bz).cell 0 rfl
           clear bz
           generalize (w10.setCell ⟨yb, 0, none⟩ (.slice a6 (m + 1) c6)) = w9 at hY4 bz4 hN4 u0 u1 u2 u3 u4 hAc0 hXc0 ⊢
           refine tr hK (fun hHeld => ?_)
           clear hK K)
          refine tq 12 hHeld ?_
          refine wpAnyH_done (by kernel_rfl) ?_ _
          clear u0 u1 u2 u3 u4 hAc0 hXc0
          have hA9 := hA.on bz4
          have hX9 := hX.on bz4
          have xc := hX9.cell 0 rfl
          have xf := hX9.f 0
          have yc := hY4.cell 0 rfl
          go_wp2_with fail
          go_roundw
          case rel => exact ⟨e, m + 1, a6, c6, _, rfl, by omega, by omega, (bel.trans (bz4.mono bel.size)).setCell (p := ⟨xb, 0, none⟩) hxlo (.slice a6 (m + 1) c6), hA9.far hbx _, hX9.put 0 _, (hO.below bz4).stb (hX9.ne (hO.below bz4) neItBr) _, hN4.stb (hX9.ne hN4 neItBr) _⟩
          case measure => first | (simp [intOf]; done) | (simp [intOf]; omega)
        · (go_simp
           have hY := (Blk.new wr #[.slice none 0 0] 25).dr
           have hyx : xb ≠ wr.heap.size := by have := hX.lt; omega
           have hyb : L ≤ wr.heap.size := by omega
           have bz : Below wr.heap.size wr (wr.alloc (.cells #[.slice none 0 0] 25)).drew := ((Below.refl wr.heap.size wr).alloc (Nat.le_refl _) _).drew
           clear u0 u1 u2 u3 u4 hAc0 hXc0
           have u0 := (hO.below bz).cellq (q := e * 5) (by omega)
           have u1 := (hO.below bz).cellq (q := e * 5 + 1) (by omega)
           have u2 := (hO.below bz).cellq (q := e * 5 + 2) (by omega)
           have u3 := (hO.below bz).cellq (q := e * 5 + 3) (by omega)
           have u4 := (hO.below bz).cellq (q := e * 5 + 4) (by omega)
           have hAc0 := (hA.on bz).cell 0 rfl
           have hXc0 := (hX.on bz).cell 0 rfl
           generalize (wr.alloc (.cells #[.slice none 0 0] 25)).drew = w10 at hY bz u0 u1 u2 u3 u4 hAc0 hXc0 ⊢
           generalize wr.heap.size = yb at hY hyx hyb ⊢
           refine tr hK (fun hHeld => ?_)
           clear hK K)
          refine tc 6 fun K hK => ?_
          (go_simp
           (go_at_call 10; refine (put_own w.heap.size a1 m c1 (fun q => U (q + (e + 1) * 5)) (fun jj => [U (e * 5), U (e * 5 + 1), U (e * 5 + 2), U (e * 5 + 3), U (e * 5 + 4)].getD jj 0) 0 _ (by exact hM.below bz) (by omega) hAt.out (m + 1) _ true hPu.out).mono ?_; rintro e6 w6 ⟨a6, c6, rfl, hOu⟩)
           have hb6 := hOu.bel
           have hN := (hOu.own.congr (suf_eq m e U)).base (B := w.heap.size) (by have := bel.size; have := bz.size; omega)
           replace bz := bz.trans (hb6.mono bz.size)
           replace hY := hY.on hb6
           clear u0 u1 u2 u3 u4 hAc0 hXc0
           have u0 := (hO.below bz).cellq (q := e * 5) (by omega)
           have u1 := (hO.below bz).cellq (q := e * 5 + 1) (by omega)
           have u2 := (hO.below bz).cellq (q := e * 5 + 2) (by omega)
           have u3 := (hO.below bz).cellq (q := e * 5 + 3) (by omega)
           have u4 := (hO.below bz).cellq (q := e * 5 + 4) (by omega)
           have hAc0 := (hA.on bz).cell 0 rfl
           have hXc0 := (hX.on bz).cell 0 rfl
           (try go_wp2_with fail)
           refine tr hK (fun hHeld => ?_)
           clear hK K)
          refine tq 7 hHeld ?_
          refine tq 8 hHeld ?_
          refine tq 9 hHeld ?_
          refine tc 11 fun K hK => ?_
          (have yc := hY.cell 0 rfl
           have yf := hY.f 0
           go_simp
           clear yc yf
           have hY4 := hY.put 0 (.slice a6 (m + 1) c6)
           have bz4 := bz.setCell (p := ⟨yb, 0, none⟩) (by show wr.heap.size ≤ yb; omega) (.slice a6 (m + 1) c6)
           have hN4 := hN.stb (o := 0) (hY.ne hN neItBr) (.slice a6 (m + 1) c6)
           clear bz hN hY
           clear u0 u1 u2 u3 u4 hAc0 hXc0
           have bz := bz4
           have u0 := (hO.below bz).cellq (q := e * 5) (by omega)
           have u1 := (hO.below bz).cellq (q := e * 5 + 1) (by omega)
           have u2 := (hO.below bz).cellq (q := e * 5 + 2) (by omega)
           have u3 := (hO.below bz).cellq (q := e * 5 + 3) (by omega)
           have u4 := (hO.below bz).cellq (q := e * 5 + 4) (by omega)
           have hAc0 := (hA.on bz).cell 0 rfl
           have hXc0 := (hX.on bz).cell 0 rfl
           clear bz
           generalize (w6.setCell ⟨yb, 0, none⟩ (.slice a6 (m + 1) c6)) = w9 at hY4 bz4 hN4 u0 u1 u2 u3 u4 hAc0 hXc0 ⊢
           refine tr hK (fun hHeld => ?_)
           clear hK K)
          refine tq 12 hHeld ?_
          refine wpAnyH_done (by kernel_rfl) ?_ _
          clear u0 u1 u2 u3 u4 hAc0 hXc0
          have hA9 := hA.on bz4
          have hX9 := hX.on bz4
          have xc := hX9.cell 0 rfl
          have xf := hX9.f 0
          have yc := hY4.cell 0 rfl
          go_wp2_with fail
          go_roundw
          case rel => exact ⟨e, m + 1, a6, c6, _, rfl, by omega, by omega, (bel.trans (bz4.mono bel.size)).setCell (p := ⟨xb, 0, none⟩) hxlo (.slice a6 (m + 1) c6), hA9.far hbx _, hX9.put 0 _, (hO.below bz4).stb (hX9.ne (hO.below bz4) neItBr) _, hN4.stb (hX9.ne hN4 neItBr) _⟩
          case measure => first | (simp [intOf]; done) | (simp [intOf]; omega)
      · obtain rfl : d = 0 := by omega
        obtain rfl : m = n := by omega
        have hM := hM.congr (V := U) (fun q _ => by simp)
        go_wp2_with (go_at_call 12; refine (pqBroad_eq a1 a m _ _ U _ hM.flat hO.flat (by omega)).mono ?_; rintro e w6 ⟨rfl, hb6⟩)
        go_ret
        exact ⟨rfl, bel.trans (hb6.mono bel.size)⟩
end Go.Proofs.Ytbngdlbecdloiaa
