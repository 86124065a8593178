/- Texts of a proof. -/
import Derived.Test.YthijeiehcdoidaaGreatB4
import Derived.Test.YthijeiehcdoidaaGreatB7
import Derived.Test.YthijeiehcdoidaaGreatHkOk
import Derived.Test.YthijeiehcdoidaaGreatB6
import Derived.Test.YthijeiehcdoidaaGreatB5
import Derived.Test.YthijeiehcdoidaaGreatB1
import Derived.Deep.RegionHeld3
import Derived.Deep.DeepCutAuto
import Derived.Test.YthijeiehcdoidaaGreatB3
set_option maxHeartbeats 16000000
set_option maxRecDepth 20000
namespace Go.Proofs.YthijeiehcdoidaaGreat
open Go.RowKit
set_option linter.unusedVariables false
theorem kfy {m : Nat} {W w1 : World} (hc : ∀ b o, b < m → w1.cell? ⟨b, o, none⟩ = W.cell? ⟨b, o, none⟩) (hf : ∀ b o, b < m → w1.frozen? ⟨b, o, none⟩ = W.frozen? ⟨b, o, none⟩) (hz : m ≤ w1.heap.size) (b : Nat) (h : b < m) :
 (∀ o, w1.cell? ⟨b, o, none⟩ = W.cell? ⟨b, o, none⟩) ∧ (∀ o, w1.frozen? ⟨b, o, none⟩ = W.frozen? ⟨b, o, none⟩) ∧ b < w1.heap.size ∧ (b = w1.heap.size) = False ∧ (w1.heap.size = b) = False :=
 have q := Nat.lt_of_lt_of_le h hz
 ⟨fun o => hc b o h, fun o => hf b o h, q, eq_false (Nat.ne_of_lt q), eq_false (Nat.ne_of_gt q)⟩
end Go.Proofs.YthijeiehcdoidaaGreat
namespace Go.Proofs.YthijeiehcdoidaaGreat
open Go.RowKit
set_option linter.unusedVariables false
set_option linter.unusedSimpArgs false
def pushC (C : Nat → Nat → Int) (k : Nat) (p q : Int) : Nat → Nat → Int := if C 8 k = 0 then C else setC (setC (setC C 6 k (clampZ 20000000 (C 6 k + p))) 7 k (clampZ 20000000 (C 7 k + q))) 11 k 0
theorem flatB (w : World) (V : Nat → Int) (t : TypeId) (s : Nat) (e : w.heap.size = s) : Flat (w.alloc (Obj.cells #[.int .i64 (V 0), .int .i64 (V 1), .int .i64 (V 2), .int .i64 (V 3), .int .i64 (V 4), .int .i64 (V 5), .int .i64 (V 6), .int .i64 (V 7), .int .i64 (V 8), .int .i64 (V 9), .int .i64 (V 10), .int .i64 (V 11)] t)) (some ⟨s, 0, none⟩) (1 * 12) V := by
 subst e
 intro _
 refine ⟨w.heap.size, 0, rfl, by simp, fun j hj => ?_⟩
 rw [Nat.zero_add]
 rcases (show j = 0 ∨ j = 1 ∨ j = 2 ∨ j = 3 ∨ j = 4 ∨ j = 5 ∨ j = 6 ∨ j = 7 ∨ j = 8 ∨ j = 9 ∨ j = 10 ∨ j = 11 by omega) with rfl | rfl | rfl | rfl | rfl | rfl | rfl | rfl | rfl | rfl | rfl | rfl <;> go_simp
theorem handle_0 (cb : Nat) (w : World) : Calls Tryz.prog 99 #[.pointer (some ⟨cb, 0, none⟩), .int .i64 0] w fun e w' => e = .returned (.agg #[.int .i64 0, .pointer (some ⟨cb, 0, none⟩)]) ∧ Below w.heap.size w w' := handle_any cb 0 w
theorem kOk_z {cb n : Nat} {V : Nat → Int} {G : Nat → Nat} {w : World} (h : HAt w cb n 0 V G) (b : Bool) (e : bodyB V = b) :
 Calls Tryz.prog 100 #[.agg #[.int .i64 0, .pointer (some ⟨cb, 0, none⟩)]] w fun e w' => e = .returned (.bool b) ∧ Below w.heap.size w w' := kOk_q h b e
theorem Cs.setO {w : World} {cb n b o : Nat} {C : Nat → Nat → Int} {S : Nat → Value} (h : Cs w cb n C S) (hb : b < cb) (v : Value) : Cs (w.setCell ⟨b, o, none⟩ v) cb n C S :=
 h.frame (X := fun x => x = b) (Fr.setCell (X := fun x => x = b) rfl _) (by show ¬ cb = b; omega) (fun x hx e => by have := (h.xlt hx).1; omega)
theorem handleOf_k (V : Nat → Int) (w : World) (KB : Bool) (eK : bodyB V = KB) :
 Calls Tryz.prog 68 #[bodyW V] w fun e w' => ∃ cb S, e = .returned (.tuple #[hdk cb 0, .bool KB]) ∧ w.heap.size + 1 < cb ∧ Cs w' cb 1 (fun i _ => V i) S ∧ Below w.heap.size w w' := by
 have hset := cset_map
 go_enter Tryz.func68, Tryz.ntmps68
 go_upto_region 2 with (first
  | (go_at_call 99; refine (handle_0 _ _).mono ?_; rintro e w2 ⟨rfl, hb2⟩; have hz2 := hb2.size; (try simp only [zz] at hz2); have := kfa hb2 (w.heap.size + 1))
  | (go_at_call 98; refine (rowsOf_any _ 1 _ V _ (flatB _ V _ _ (by simp)) (by omega)).mono ?_; rintro e w1 ⟨rfl, hb1, S, hC1⟩; have hz1 := hb1.size; (try simp only [zz] at hz1 hC1); have hC1 := hC1.congr (C' := fun i _ => V i) (fun i k _ hk => (by obtain rfl : k = 0 := (by omega); simp [colOf])); have := kfa hb1 (w.heap.size + 1)))
 refine wp_region_held_drew (S := fun w' => w'.cell? ⟨w2.heap.size, 0, none⟩ = some (.int .i64 (0 : Int)) ∧ w'.cell? ⟨w2.heap.size, 1, none⟩ = some (.pointer (some ⟨w.heap.size + 1 + 1 + 1, 0, none⟩))) (by kernel_rfl) ?_ (fun hHeld => ?_)
 · (try dsimp only)
   (first | (go_simp; done) | (go_keep; done))
 refine tq 0 hHeld ?_
 refine tq 1 hHeld ?_
 (refine tc 2 fun K hK => ?_; go_simp; (go_at_call 100; refine (kOk_z ((hC1.below (bel_a)).hat (by omega) (by omega)) KB eK).mono ?_; rintro e w3 ⟨rfl, hb3⟩; have hz3 := hb3.size; (try simp only [zz] at hz3); have := kfa hb3 (w.heap.size + 1); have := kfa hb3 w2.heap.size); (try go_wp2_with fail); refine tr hK (fun hHeld => ?_); clear hK K)
 (refine tc 3 fun K hK => ?_; go_simp; refine tr hK (fun hHeld => ?_); clear hK K)
 refine tq 4 hHeld ?_
 refine wpAnyH_done (by kernel_rfl) ?_ _
 go_wp2_with fail
 exact bodyPost_ret (v := .tuple #[.agg #[.int .i64 0, .pointer (some ⟨w.heap.size + 1 + 1 + 1, 0, none⟩)], .bool KB]) (by simp [results, Tryz.results68, go_sem, *]) rfl ⟨w.heap.size + 1 + 1 + 1, S, rfl, by omega, ((hC1.below (w' := w3) (bel_a)).setO (by omega) _).setO (by omega) _, bel_a⟩
theorem bodyOk_k (V : Nat → Int) (w : World) (b : Bool) (eb : bodyB V = b) :
 Calls Tryz.prog 34 #[bodyW V] w fun e w' => e = .returned (.bool b) ∧ Below w.heap.size w w' := by
 have hset := cset_map
 go_enter Tryz.func34, Tryz.ntmps34
 go_wp2_with (go_at_call 68; refine (handleOf_k V _ b eb).mono ?_; rintro e w1 ⟨cb, S, rfl, hcb, hC1, hb1⟩; (try simp only [zz] at hcb); have hz1 := hb1.size; (try simp only [zz] at hz1); have := kfa hb1 w.heap.size)
 go_ret
 exact ⟨rfl, bel_a⟩
def setV (V : Nat → Int) (k : Nat) (a : Int) : Nat → Int := fun j => if j = k then a else V j
def pushV (V : Nat → Int) (p q : Int) : Nat → Int := if V 8 = 0 then V else setV (setV (setV V 6 (clampZ 20000000 (V 6 + p))) 7 (clampZ 20000000 (V 7 + q))) 11 0
theorem mnmx (n m : Int) (h : 0 ≤ m) : mn (mx n (-m)) m = clampZ m n := by unfold mn mx clampZ; repeat (first | omega | split)
theorem l6Within_any (n m : Int) (w : World) (h0 : 0 ≤ m) (h1 : m ≤ 4000000000) :
 Calls Tryz.prog 109 #[.int .i64 n, .int .i64 m] w fun e w' => e = .returned (.int .i64 (clampZ m n)) ∧ w' = w := by
 go_enter Tryz.func109, Tryz.ntmps109
 go_wp2_with (first
  | (go_at_call 117; refine (l3Less_any _ _ _).mono ?_; rintro e w' ⟨rfl, rfl⟩)
  | (go_at_call 116; refine (l3More_any _ _ _).mono ?_; rintro e w' ⟨rfl, rfl⟩))
 go_ret
 exact ⟨ret_int (mnmx n m h0), rfl⟩
structure PB (w wx : World) (U : Nat → Int) (p q : Int) : Prop where
 inn : ∀ j, j < 12 → wx.cell? ⟨w.heap.size, j, none⟩ = some (.int .i64 (U j))
 v0 : wx.cell? ⟨w.heap.size + 1, 0, none⟩ = some (.int .i64 p)
 v1 : wx.cell? ⟨w.heap.size + 1, 1, none⟩ = some (.int .i64 q)
 res : ∀ j, j < 12 → wx.cell? ⟨w.heap.size + 1 + 1, j, none⟩ = some (.int .i64 0)
 nfi : ∀ j, j < 12 → wx.frozen? ⟨w.heap.size, j, none⟩ = false
 nfr : ∀ j, j < 12 → wx.frozen? ⟨w.heap.size + 1 + 1, j, none⟩ = false
 bel : Below w.heap.size w wx
 big : w.heap.size + 1 + 1 < wx.heap.size
theorem PB.drew {w wx : World} {U : Nat → Int} {p q : Int} (h : PB w wx U p q) : PB w wx.drew U p q := ⟨h.inn, h.v0, h.v1, h.res, h.nfi, h.nfr, h.bel.drew, h.big⟩
theorem PB.set {w wx : World} {U : Nat → Int} {p q : Int} (h : PB w wx U p q) {k : Nat} (hk : k < 12) (a : Int) : PB w (wx.setCell ⟨w.heap.size, k, none⟩ (.int .i64 a)) (setV U k a) p q := by
 refine ⟨fun j hj => ?_, ?_, ?_, fun j hj => ?_, fun j hj => ?_, fun j hj => ?_, ?_, ?_⟩
 · by_cases e : j = k
   · subst e; rw [cset_same (h.inn j hj)]; simp [setV]
   · rw [cset_other (by intro x; injection x with x1 x2; exact e x2.symm), h.inn j hj]; simp [setV, e]
 · rw [cset_far (by simp)]; exact h.v0
 · rw [cset_far (by simp)]; exact h.v1
 · rw [cset_far (by simp; omega)]; exact h.res j hj
 · rw [World.frozen?_setCell]; exact h.nfi j hj
 · rw [World.frozen?_setCell]; exact h.nfr j hj
 · exact h.bel.setCell (by simp) _
 · simpa using h.big
theorem PB.start (w : World) (V : Nat → Int) (p q : Int) : PB w (((w.alloc (.cells #[.int .i64 (V 0), .int .i64 (V 1), .int .i64 (V 2), .int .i64 (V 3), .int .i64 (V 4), .int .i64 (V 5), .int .i64 (V 6), .int .i64 (V 7), .int .i64 (V 8), .int .i64 (V 9), .int .i64 (V 10), .int .i64 (V 11)] 41)).alloc (.cells #[.int .i64 p, .int .i64 q] 28)).alloc (.cells #[.int .i64 0, .int .i64 0, .int .i64 0, .int .i64 0, .int .i64 0, .int .i64 0, .int .i64 0, .int .i64 0, .int .i64 0, .int .i64 0, .int .i64 0, .int .i64 0] 41)) V p q := ⟨(fun j hj => by (rcases (show j = 0 ∨ j = 1 ∨ j = 2 ∨ j = 3 ∨ j = 4 ∨ j = 5 ∨ j = 6 ∨ j = 7 ∨ j = 8 ∨ j = 9 ∨ j = 10 ∨ j = 11 by omega) with rfl | rfl | rfl | rfl | rfl | rfl | rfl | rfl | rfl | rfl | rfl | rfl <;> (first | (go_simp; done) | (simp; done)))), by go_simp, by go_simp, (fun j hj => by (rcases (show j = 0 ∨ j = 1 ∨ j = 2 ∨ j = 3 ∨ j = 4 ∨ j = 5 ∨ j = 6 ∨ j = 7 ∨ j = 8 ∨ j = 9 ∨ j = 10 ∨ j = 11 by omega) with rfl | rfl | rfl | rfl | rfl | rfl | rfl | rfl | rfl | rfl | rfl | rfl <;> (first | (go_simp; done) | (simp; done)))), (fun j hj => by (rcases (show j = 0 ∨ j = 1 ∨ j = 2 ∨ j = 3 ∨ j = 4 ∨ j = 5 ∨ j = 6 ∨ j = 7 ∨ j = 8 ∨ j = 9 ∨ j = 10 ∨ j = 11 by omega) with rfl | rfl | rfl | rfl | rfl | rfl | rfl | rfl | rfl | rfl | rfl | rfl <;> (first | (go_simp; done) | (simp; done)))), (fun j hj => by (rcases (show j = 0 ∨ j = 1 ∨ j = 2 ∨ j = 3 ∨ j = 4 ∨ j = 5 ∨ j = 6 ∨ j = 7 ∨ j = 8 ∨ j = 9 ∨ j = 10 ∨ j = 11 by omega) with rfl | rfl | rfl | rfl | rfl | rfl | rfl | rfl | rfl | rfl | rfl | rfl <;> (first | (go_simp; done) | (simp; done)))), bel_a, by simp⟩
theorem l6Push_any (V : Nat → Int) (p q : Int) (w : World) (b6 : -20000000 ≤ V 6 ∧ V 6 ≤ 20000000) (b7 : -20000000 ≤ V 7 ∧ V 7 ≤ 20000000) (bp : -20000000 ≤ p ∧ p ≤ 20000000) (bq : -20000000 ≤ q ∧ q ≤ 20000000) :
 Calls Tryz.prog 173 #[bodyW V, vv p q] w fun e w' => e = .returned (bodyW (pushV V p q)) ∧ Below w.heap.size w w' := by
 have hset := cset_map
 have e6 : IntKind.i64.wrap (V 6 + p) = V 6 + p := i64w (by omega)
 have e7 : IntKind.i64.wrap (V 7 + q) = V 7 + q := i64w (by omega)
 unfold pushV
 by_cases m : V 8 = 0
 · rw [if_pos m]
   go_enter Tryz.func173, Tryz.ntmps173
   go_upto_region 1 with fail
   have h0 := PB.start w V p q
   generalize (((w.alloc (.cells #[.int .i64 (V 0), .int .i64 (V 1), .int .i64 (V 2), .int .i64 (V 3), .int .i64 (V 4), .int .i64 (V 5), .int .i64 (V 6), .int .i64 (V 7), .int .i64 (V 8), .int .i64 (V 9), .int .i64 (V 10), .int .i64 (V 11)] 41)).alloc (.cells #[.int .i64 p, .int .i64 q] 28)).alloc (.cells #[.int .i64 0, .int .i64 0, .int .i64 0, .int .i64 0, .int .i64 0, .int .i64 0, .int .i64 0, .int .i64 0, .int .i64 0, .int .i64 0, .int .i64 0, .int .i64 0] 41)) = wx0 at h0 ⊢
   have o0 := h0.inn 0 (by omega)
   have r0 := h0.res 0 (by omega)
   have f0 := h0.nfr 0 (by omega)
   have o1 := h0.inn 1 (by omega)
   have r1 := h0.res 1 (by omega)
   have f1 := h0.nfr 1 (by omega)
   have o2 := h0.inn 2 (by omega)
   have r2 := h0.res 2 (by omega)
   have f2 := h0.nfr 2 (by omega)
   have o3 := h0.inn 3 (by omega)
   have r3 := h0.res 3 (by omega)
   have f3 := h0.nfr 3 (by omega)
   have o4 := h0.inn 4 (by omega)
   have r4 := h0.res 4 (by omega)
   have f4 := h0.nfr 4 (by omega)
   have o5 := h0.inn 5 (by omega)
   have r5 := h0.res 5 (by omega)
   have f5 := h0.nfr 5 (by omega)
   have o6 := h0.inn 6 (by omega)
   have r6 := h0.res 6 (by omega)
   have f6 := h0.nfr 6 (by omega)
   have o7 := h0.inn 7 (by omega)
   have r7 := h0.res 7 (by omega)
   have f7 := h0.nfr 7 (by omega)
   have o8 := h0.inn 8 (by omega)
   have r8 := h0.res 8 (by omega)
   have f8 := h0.nfr 8 (by omega)
   have o9 := h0.inn 9 (by omega)
   have r9 := h0.res 9 (by omega)
   have f9 := h0.nfr 9 (by omega)
   have o10 := h0.inn 10 (by omega)
   have r10 := h0.res 10 (by omega)
   have f10 := h0.nfr 10 (by omega)
   have o11 := h0.inn 11 (by omega)
   have r11 := h0.res 11 (by omega)
   have f11 := h0.nfr 11 (by omega)
   have z0 := h0.big
   have hbel := h0.bel
   clear h0
   go_wp2_with fail
   exact bodyPost_ret (v := bodyW V) (by simp [results, Tryz.results173, go_sem, *]) rfl ⟨rfl, bel_a⟩
 · rw [if_neg m]
   obtain ⟨U, hU⟩ : ∃ U, setV (setV V 6 (clampZ 20000000 (V 6 + p))) 7 (clampZ 20000000 (V 7 + q)) = U := ⟨_, rfl⟩
   obtain ⟨U2, hU2⟩ : ∃ U2, setV U 11 0 = U2 := ⟨_, rfl⟩
   rw [hU, hU2]
   go_enter Tryz.func173, Tryz.ntmps173
   go_upto_region 1 with fail
   have h0 := PB.start w V p q
   generalize (((w.alloc (.cells #[.int .i64 (V 0), .int .i64 (V 1), .int .i64 (V 2), .int .i64 (V 3), .int .i64 (V 4), .int .i64 (V 5), .int .i64 (V 6), .int .i64 (V 7), .int .i64 (V 8), .int .i64 (V 9), .int .i64 (V 10), .int .i64 (V 11)] 41)).alloc (.cells #[.int .i64 p, .int .i64 q] 28)).alloc (.cells #[.int .i64 0, .int .i64 0, .int .i64 0, .int .i64 0, .int .i64 0, .int .i64 0, .int .i64 0, .int .i64 0, .int .i64 0, .int .i64 0, .int .i64 0, .int .i64 0] 41)) = wx0 at h0 ⊢
   have i8 := h0.inn 8 (by omega)
   go_upto_region 3 with fail
   have i6 := h0.inn 6 (by omega)
   have i7 := h0.inn 7 (by omega)
   have n6 := h0.nfi 6 (by omega)
   have n7 := h0.nfi 7 (by omega)
   have y0 := h0.v0
   have y1 := h0.v1
   go_cut [] (fun wc => PB w wc U p q)
   case first =>
    refine wp_region_held_drew (S := fun w' => w'.cell? ⟨w.heap.size + 1, 0, none⟩ = some (.int .i64 p) ∧ w'.cell? ⟨w.heap.size + 1, 1, none⟩ = some (.int .i64 q)) (by kernel_rfl) ?_ (fun hHeld => ?_)
    · (try dsimp only)
      (first | (go_simp; done) | (go_keep; done))
    refine tq 0 hHeld ?_
    refine tq 1 hHeld ?_
    refine tq 3 hHeld ?_
    refine tq 4 hHeld ?_
    refine tq 7 hHeld ?_
    refine tq 8 hHeld ?_
    refine tq 10 hHeld ?_
    refine tq 11 hHeld ?_
    refine wpAnyH_ready (rs := [2, 9]) (by kernel_rfl) (by simp) ?_
    refine AllReadyH.cons rfl (fun K hK => ?_) (AllReadyH.cons rfl (fun K hK => ?_) AllReadyH.nil)
    · (go_simp; refine tr hK (fun hHeld => ?_); clear hK K)
      refine tq 5 hHeld ?_
      refine wpAnyH_ready (rs := [6, 9]) (by kernel_rfl) (by simp) ?_
      refine AllReadyH.cons rfl (fun K hK => ?_) (AllReadyH.cons rfl (fun K hK => ?_) AllReadyH.nil)
      · (go_simp; (go_at_call 109; refine (l6Within_any _ _ _ (by omega) (by omega)).mono ?_; rintro e w' ⟨rfl, rfl⟩); (try go_wp2_with fail); refine tr hK (fun hHeld => ?_); clear hK K)
        (refine tc 9 fun K hK => ?_; go_simp; refine tr hK (fun hHeld => ?_); clear hK K)
        refine tq 12 hHeld ?_
        (refine tc 13 fun K hK => ?_; go_simp; (go_at_call 109; refine (l6Within_any _ _ _ (by omega) (by omega)).mono ?_; rintro e w' ⟨rfl, rfl⟩); (try go_wp2_with fail); refine tr hK (fun hHeld => ?_); clear hK K)
        refine tq 14 hHeld ?_
        refine tq 15 hHeld ?_
        (refine tc 16 fun K hK => ?_; go_simp; refine tr hK (fun hHeld => ?_); clear hK K)
        refine wpAnyH_done (by kernel_rfl) ?_ _
        go_wp2_with fail
        go_meet
        have q9 := PB.drew (PB.set (PB.set h0 (k := 6) (by omega) (clampZ 20000000 (V 6 + p))) (k := 7) (by omega) (clampZ 20000000 (V 7 + q)))
        rw [hU] at q9
        exact q9
      · (go_simp; refine tr hK (fun hHeld => ?_); clear hK K)
        refine tq 12 hHeld ?_
        (refine tc 6 fun K hK => ?_; go_simp; (go_at_call 109; refine (l6Within_any _ _ _ (by omega) (by omega)).mono ?_; rintro e w' ⟨rfl, rfl⟩); (try go_wp2_with fail); refine tr hK (fun hHeld => ?_); clear hK K)
        (refine tc 13 fun K hK => ?_; go_simp; (go_at_call 109; refine (l6Within_any _ _ _ (by omega) (by omega)).mono ?_; rintro e w' ⟨rfl, rfl⟩); (try go_wp2_with fail); refine tr hK (fun hHeld => ?_); clear hK K)
        refine tq 14 hHeld ?_
        refine tq 15 hHeld ?_
        (refine tc 16 fun K hK => ?_; go_simp; refine tr hK (fun hHeld => ?_); clear hK K)
        refine wpAnyH_done (by kernel_rfl) ?_ _
        go_wp2_with fail
        go_meet
        have q9 := PB.drew (PB.set (PB.set h0 (k := 6) (by omega) (clampZ 20000000 (V 6 + p))) (k := 7) (by omega) (clampZ 20000000 (V 7 + q)))
        rw [hU] at q9
        exact q9
    · (go_simp; refine tr hK (fun hHeld => ?_); clear hK K)
      refine tq 12 hHeld ?_
      (refine tc 2 fun K hK => ?_; go_simp; refine tr hK (fun hHeld => ?_); clear hK K)
      refine tq 5 hHeld ?_
      (refine tc 6 fun K hK => ?_; go_simp; (go_at_call 109; refine (l6Within_any _ _ _ (by omega) (by omega)).mono ?_; rintro e w' ⟨rfl, rfl⟩); (try go_wp2_with fail); refine tr hK (fun hHeld => ?_); clear hK K)
      (refine tc 13 fun K hK => ?_; go_simp; (go_at_call 109; refine (l6Within_any _ _ _ (by omega) (by omega)).mono ?_; rintro e w' ⟨rfl, rfl⟩); (try go_wp2_with fail); refine tr hK (fun hHeld => ?_); clear hK K)
      refine tq 14 hHeld ?_
      refine tq 15 hHeld ?_
      (refine tc 16 fun K hK => ?_; go_simp; refine tr hK (fun hHeld => ?_); clear hK K)
      refine wpAnyH_done (by kernel_rfl) ?_ _
      go_wp2_with fail
      go_meet
      have q9 := PB.drew (PB.set (PB.set h0 (k := 6) (by omega) (clampZ 20000000 (V 6 + p))) (k := 7) (by omega) (clampZ 20000000 (V 7 + q)))
      rw [hU] at q9
      exact q9
   case rest =>
   clear i6 i7 n6 n7 y0 y1 i8 h0 hU
   have h1 := hcut
   have i11 := h1.inn 11 (by omega)
   have n11 := h1.nfi 11 (by omega)
   go_upto_region 4 with fail
   go_cut [] (fun wc => PB w wc U2 p q)
   case first =>
    go_wp2_with fail
    go_meet
    have q9 := PB.set h1 (k := 11) (by omega) 0
    rw [hU2] at q9
    exact q9
   case rest =>
   have h2 := hcut
   have o0 := h2.inn 0 (by omega)
   have r0 := h2.res 0 (by omega)
   have f0 := h2.nfr 0 (by omega)
   have o1 := h2.inn 1 (by omega)
   have r1 := h2.res 1 (by omega)
   have f1 := h2.nfr 1 (by omega)
   have o2 := h2.inn 2 (by omega)
   have r2 := h2.res 2 (by omega)
   have f2 := h2.nfr 2 (by omega)
   have o3 := h2.inn 3 (by omega)
   have r3 := h2.res 3 (by omega)
   have f3 := h2.nfr 3 (by omega)
   have o4 := h2.inn 4 (by omega)
   have r4 := h2.res 4 (by omega)
   have f4 := h2.nfr 4 (by omega)
   have o5 := h2.inn 5 (by omega)
   have r5 := h2.res 5 (by omega)
   have f5 := h2.nfr 5 (by omega)
   have o6 := h2.inn 6 (by omega)
   have r6 := h2.res 6 (by omega)
   have f6 := h2.nfr 6 (by omega)
   have o7 := h2.inn 7 (by omega)
   have r7 := h2.res 7 (by omega)
   have f7 := h2.nfr 7 (by omega)
   have o8 := h2.inn 8 (by omega)
   have r8 := h2.res 8 (by omega)
   have f8 := h2.nfr 8 (by omega)
   have o9 := h2.inn 9 (by omega)
   have r9 := h2.res 9 (by omega)
   have f9 := h2.nfr 9 (by omega)
   have o10 := h2.inn 10 (by omega)
   have r10 := h2.res 10 (by omega)
   have f10 := h2.nfr 10 (by omega)
   have o11 := h2.inn 11 (by omega)
   have r11 := h2.res 11 (by omega)
   have f11 := h2.nfr 11 (by omega)
   have z0 := h2.big
   have hbel := h2.bel
   clear h1 h2 i11 n11
   go_wp2_with fail
   exact bodyPost_ret (v := bodyW U2) (by simp [results, Tryz.results173, go_sem, *]) rfl ⟨rfl, bel_a⟩
end Go.Proofs.YthijeiehcdoidaaGreat
