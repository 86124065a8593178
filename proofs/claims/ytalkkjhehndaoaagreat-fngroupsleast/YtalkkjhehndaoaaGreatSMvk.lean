/- Texts of a proof. -/
import Derived.Test.YtalkkjhehndaoaaGreatSPuk
import Derived.Test.YtalkkjhehndaoaaGreatB24
import Derived.Deep.RegionHeld3
import Derived.Deep.DeepCutAuto
set_option maxHeartbeats 16000000
set_option maxRecDepth 20000
namespace Go.Proofs.YtalkkjhehndaoaaGreat
open Go.RowKit
set_option linter.unusedVariables false
set_option linter.unusedSimpArgs false
def mvX (V : Nat → Int) (p : Int) : Int := clampZ 2560000 (V 4 + p)
def mvY (V : Nat → Int) (q : Int) : Int := clampZ 2560000 (V 5 + q)
def moveV (V : Nat → Int) (p q : Int) : Nat → Int := setV (setV (setV (setV V 4 (mvX V p)) 5 (mvY V q)) 6 (if mvX V p = V 4 + p then V 6 else 0)) 7 (if mvY V q = V 5 + q then V 7 else 0)
theorem setV_self (V : Nat → Int) (k : Nat) : setV V k (V k) = V := by funext j; unfold setV; split <;> simp_all
theorem setV_at (V : Nat → Int) (k j : Nat) (a : Int) (h : j ≠ k) : setV V k a j = V j := by unfold setV; rw [if_neg h]
theorem setV_is (V : Nat → Int) (k : Nat) (a : Int) : setV V k a k = a := by unfold setV; rw [if_pos rfl]
theorem l6Within_q (n m a : Int) (w : World) (h0 : 0 ≤ m) (h1 : m ≤ 4000000000) (e : clampZ m n = a) :
 Calls Tryz.prog 51 #[.int .i64 n, .int .i64 m] w fun e w' => e = .returned (.int .i64 a) ∧ w' = w := by
 subst e; exact l6Within_any n m w h0 h1
theorem l6Move_c (V : Nat → Int) (p q A B C D : Int) (w : World) (b4 : -2560000 ≤ V 4 ∧ V 4 ≤ 2560000) (b5 : -2560000 ≤ V 5 ∧ V 5 ≤ 2560000) (bp : -20000000 ≤ p ∧ p ≤ 20000000) (bq : -20000000 ≤ q ∧ q ≤ 20000000)
 (eA : clampZ 2560000 (V 4 + p) = A) (eB : clampZ 2560000 (V 5 + q) = B) (eC : (if A = V 4 + p then V 6 else 0) = C) (eD : (if B = V 5 + q then V 7 else 0) = D) :
 Calls Tryz.prog 102 #[bodyW V, vv p q] w fun e w' => e = .returned (bodyW (setV (setV (setV (setV V 4 A) 5 B) 6 C) 7 D)) ∧ Below w.heap.size w w' := by
 have hset := cset_map
 obtain ⟨U, hU⟩ : ∃ U, setV (setV V 4 A) 5 B = U := ⟨_, rfl⟩
 obtain ⟨X, hX⟩ : ∃ X, setV (setV U 6 C) 7 D = X := ⟨_, rfl⟩
 have i6U : U 6 = V 6 := by rw [← hU, setV_at _ _ _ _ (by omega), setV_at _ _ _ _ (by omega)]
 have i7U : U 7 = V 7 := by rw [← hU, setV_at _ _ _ _ (by omega), setV_at _ _ _ _ (by omega)]
 have i4U : U 4 = A := by rw [← hU, setV_at _ _ _ _ (by omega), setV_is]
 have i5U : U 5 = B := by rw [← hU, setV_is]
 rw [hU, hX]
 go_enter Tryz.func102, Tryz.ntmps102
 go_upto_region 1 with fail
 have h0 := PB.start w V p q
 generalize (((w.alloc (.cells #[.int .i64 (V 0), .int .i64 (V 1), .int .i64 (V 2), .int .i64 (V 3), .int .i64 (V 4), .int .i64 (V 5), .int .i64 (V 6), .int .i64 (V 7), .int .i64 (V 8), .int .i64 (V 9), .int .i64 (V 10), .int .i64 (V 11)] 34)).alloc (.cells #[.int .i64 p, .int .i64 q] 32)).alloc (.cells #[.int .i64 0, .int .i64 0, .int .i64 0, .int .i64 0, .int .i64 0, .int .i64 0, .int .i64 0, .int .i64 0, .int .i64 0, .int .i64 0, .int .i64 0, .int .i64 0] 34)) = wx0 at h0 ⊢
 have i4 := h0.inn 4 (by omega)
 have i5 := h0.inn 5 (by omega)
 have n4 := h0.nfi 4 (by omega)
 have n5 := h0.nfi 5 (by omega)
 have y0 := h0.v0
 have y1 := h0.v1
 go_upto_region 3 with fail
 go_cut [] (fun wc => PB w wc U p q)
 case first =>
  go_wp2_with (go_at_call 51; refine (l6Within_q _ _ _ _ (by omega) (by omega) (by with_reducible assumption)).mono ?_; rintro e w' ⟨rfl, rfl⟩)
  go_meet
  have q9 := PB.set (PB.set h0 (k := 4) (by omega) A) (k := 5) (by omega) B
  rw [hU] at q9
  exact q9
 case rest =>
 have h1 := hcut
 clear i4 i5 n4 n5 y0 y1 h0 hcut
 have i4 := h1.inn 4 (by omega)
 have i5 := h1.inn 5 (by omega)
 have i6 := h1.inn 6 (by omega)
 have i7 := h1.inn 7 (by omega)
 have n6 := h1.nfi 6 (by omega)
 have n7 := h1.nfi 7 (by omega)
 rw [i4U] at i4
 rw [i5U] at i5
 by_cases cA : A = V 4 + p
 · rw [if_pos cA] at eC; subst eC
   by_cases cB : B = V 5 + q
   · rw [if_pos cB] at eD; subst eD
     have hXU : X = U := by rw [← hX, ← i6U, setV_self, ← i7U, setV_self]
     go_upto_region 8 with fail
     have h3 := h1
     rw [← hXU] at h3
     generalize wc = wq at h3 ⊢
     clear i4 i5 i6 i7 n6 n7 h1 hXU hX hU i6U i7U i4U i5U cA cB eA eB
     have o0 := h3.inn 0 (by omega)
     have r0 := h3.res 0 (by omega)
     have f0 := h3.nfr 0 (by omega)
     have o1 := h3.inn 1 (by omega)
     have r1 := h3.res 1 (by omega)
     have f1 := h3.nfr 1 (by omega)
     have o2 := h3.inn 2 (by omega)
     have r2 := h3.res 2 (by omega)
     have f2 := h3.nfr 2 (by omega)
     have o3 := h3.inn 3 (by omega)
     have r3 := h3.res 3 (by omega)
     have f3 := h3.nfr 3 (by omega)
     have o4 := h3.inn 4 (by omega)
     have r4 := h3.res 4 (by omega)
     have f4 := h3.nfr 4 (by omega)
     have o5 := h3.inn 5 (by omega)
     have r5 := h3.res 5 (by omega)
     have f5 := h3.nfr 5 (by omega)
     have o6 := h3.inn 6 (by omega)
     have r6 := h3.res 6 (by omega)
     have f6 := h3.nfr 6 (by omega)
     have o7 := h3.inn 7 (by omega)
     have r7 := h3.res 7 (by omega)
     have f7 := h3.nfr 7 (by omega)
     have o8 := h3.inn 8 (by omega)
     have r8 := h3.res 8 (by omega)
     have f8 := h3.nfr 8 (by omega)
     have o9 := h3.inn 9 (by omega)
     have r9 := h3.res 9 (by omega)
     have f9 := h3.nfr 9 (by omega)
     have o10 := h3.inn 10 (by omega)
     have r10 := h3.res 10 (by omega)
     have f10 := h3.nfr 10 (by omega)
     have o11 := h3.inn 11 (by omega)
     have r11 := h3.res 11 (by omega)
     have f11 := h3.nfr 11 (by omega)
     have z0 := h3.big
     have hbel := h3.bel
     clear h3
     go_wp2_with fail
     exact bodyPost_ret (v := bodyW X) (by simp [results, Tryz.results102, go_sem, *]) rfl ⟨rfl, bel_a⟩
   · rw [if_neg cB] at eD; subst eD
     have hXU : X = (setV U 7 0) := by rw [← hX, ← i6U, setV_self]
     go_upto_region 8 with fail
     have h3 := (PB.set h1 (k := 7) (by omega) 0)
     rw [← hXU] at h3
     generalize (wc.setCell ⟨w.heap.size, 7, none⟩ (.int .i64 0)) = wq at h3 ⊢
     clear i4 i5 i6 i7 n6 n7 h1 hXU hX hU i6U i7U i4U i5U cA cB eA eB
     have o0 := h3.inn 0 (by omega)
     have r0 := h3.res 0 (by omega)
     have f0 := h3.nfr 0 (by omega)
     have o1 := h3.inn 1 (by omega)
     have r1 := h3.res 1 (by omega)
     have f1 := h3.nfr 1 (by omega)
     have o2 := h3.inn 2 (by omega)
     have r2 := h3.res 2 (by omega)
     have f2 := h3.nfr 2 (by omega)
     have o3 := h3.inn 3 (by omega)
     have r3 := h3.res 3 (by omega)
     have f3 := h3.nfr 3 (by omega)
     have o4 := h3.inn 4 (by omega)
     have r4 := h3.res 4 (by omega)
     have f4 := h3.nfr 4 (by omega)
     have o5 := h3.inn 5 (by omega)
     have r5 := h3.res 5 (by omega)
     have f5 := h3.nfr 5 (by omega)
     have o6 := h3.inn 6 (by omega)
     have r6 := h3.res 6 (by omega)
     have f6 := h3.nfr 6 (by omega)
     have o7 := h3.inn 7 (by omega)
     have r7 := h3.res 7 (by omega)
     have f7 := h3.nfr 7 (by omega)
     have o8 := h3.inn 8 (by omega)
     have r8 := h3.res 8 (by omega)
     have f8 := h3.nfr 8 (by omega)
     have o9 := h3.inn 9 (by omega)
     have r9 := h3.res 9 (by omega)
     have f9 := h3.nfr 9 (by omega)
     have o10 := h3.inn 10 (by omega)
     have r10 := h3.res 10 (by omega)
     have f10 := h3.nfr 10 (by omega)
     have o11 := h3.inn 11 (by omega)
     have r11 := h3.res 11 (by omega)
     have f11 := h3.nfr 11 (by omega)
     have z0 := h3.big
     have hbel := h3.bel
     clear h3
     go_wp2_with fail
     exact bodyPost_ret (v := bodyW X) (by simp [results, Tryz.results102, go_sem, *]) rfl ⟨rfl, bel_a⟩
 · rw [if_neg cA] at eC; subst eC
   by_cases cB : B = V 5 + q
   · rw [if_pos cB] at eD; subst eD
     have hXU : X = (setV U 6 0) := by rw [← hX, ← i7U, ← setV_at U 6 7 0 (by omega), setV_self]
     go_upto_region 8 with fail
     have h3 := (PB.set h1 (k := 6) (by omega) 0)
     rw [← hXU] at h3
     generalize (wc.setCell ⟨w.heap.size, 6, none⟩ (.int .i64 0)) = wq at h3 ⊢
     clear i4 i5 i6 i7 n6 n7 h1 hXU hX hU i6U i7U i4U i5U cA cB eA eB
     have o0 := h3.inn 0 (by omega)
     have r0 := h3.res 0 (by omega)
     have f0 := h3.nfr 0 (by omega)
     have o1 := h3.inn 1 (by omega)
     have r1 := h3.res 1 (by omega)
     have f1 := h3.nfr 1 (by omega)
     have o2 := h3.inn 2 (by omega)
     have r2 := h3.res 2 (by omega)
     have f2 := h3.nfr 2 (by omega)
     have o3 := h3.inn 3 (by omega)
     have r3 := h3.res 3 (by omega)
     have f3 := h3.nfr 3 (by omega)
     have o4 := h3.inn 4 (by omega)
     have r4 := h3.res 4 (by omega)
     have f4 := h3.nfr 4 (by omega)
     have o5 := h3.inn 5 (by omega)
     have r5 := h3.res 5 (by omega)
     have f5 := h3.nfr 5 (by omega)
     have o6 := h3.inn 6 (by omega)
     have r6 := h3.res 6 (by omega)
     have f6 := h3.nfr 6 (by omega)
     have o7 := h3.inn 7 (by omega)
     have r7 := h3.res 7 (by omega)
     have f7 := h3.nfr 7 (by omega)
     have o8 := h3.inn 8 (by omega)
     have r8 := h3.res 8 (by omega)
     have f8 := h3.nfr 8 (by omega)
     have o9 := h3.inn 9 (by omega)
     have r9 := h3.res 9 (by omega)
     have f9 := h3.nfr 9 (by omega)
     have o10 := h3.inn 10 (by omega)
     have r10 := h3.res 10 (by omega)
     have f10 := h3.nfr 10 (by omega)
     have o11 := h3.inn 11 (by omega)
     have r11 := h3.res 11 (by omega)
     have f11 := h3.nfr 11 (by omega)
     have z0 := h3.big
     have hbel := h3.bel
     clear h3
     go_wp2_with fail
     exact bodyPost_ret (v := bodyW X) (by simp [results, Tryz.results102, go_sem, *]) rfl ⟨rfl, bel_a⟩
   · rw [if_neg cB] at eD; subst eD
     have hXU : X = (setV (setV U 6 0) 7 0) := by rw [← hX]
     go_upto_region 8 with fail
     have h3 := (PB.set (PB.set h1 (k := 6) (by omega) 0) (k := 7) (by omega) 0)
     rw [← hXU] at h3
     generalize ((wc.setCell ⟨w.heap.size, 6, none⟩ (.int .i64 0)).setCell ⟨w.heap.size, 7, none⟩ (.int .i64 0)) = wq at h3 ⊢
     clear i4 i5 i6 i7 n6 n7 h1 hXU hX hU i6U i7U i4U i5U cA cB eA eB
     have o0 := h3.inn 0 (by omega)
     have r0 := h3.res 0 (by omega)
     have f0 := h3.nfr 0 (by omega)
     have o1 := h3.inn 1 (by omega)
     have r1 := h3.res 1 (by omega)
     have f1 := h3.nfr 1 (by omega)
     have o2 := h3.inn 2 (by omega)
     have r2 := h3.res 2 (by omega)
     have f2 := h3.nfr 2 (by omega)
     have o3 := h3.inn 3 (by omega)
     have r3 := h3.res 3 (by omega)
     have f3 := h3.nfr 3 (by omega)
     have o4 := h3.inn 4 (by omega)
     have r4 := h3.res 4 (by omega)
     have f4 := h3.nfr 4 (by omega)
     have o5 := h3.inn 5 (by omega)
     have r5 := h3.res 5 (by omega)
     have f5 := h3.nfr 5 (by omega)
     have o6 := h3.inn 6 (by omega)
     have r6 := h3.res 6 (by omega)
     have f6 := h3.nfr 6 (by omega)
     have o7 := h3.inn 7 (by omega)
     have r7 := h3.res 7 (by omega)
     have f7 := h3.nfr 7 (by omega)
     have o8 := h3.inn 8 (by omega)
     have r8 := h3.res 8 (by omega)
     have f8 := h3.nfr 8 (by omega)
     have o9 := h3.inn 9 (by omega)
     have r9 := h3.res 9 (by omega)
     have f9 := h3.nfr 9 (by omega)
     have o10 := h3.inn 10 (by omega)
     have r10 := h3.res 10 (by omega)
     have f10 := h3.nfr 10 (by omega)
     have o11 := h3.inn 11 (by omega)
     have r11 := h3.res 11 (by omega)
     have f11 := h3.nfr 11 (by omega)
     have z0 := h3.big
     have hbel := h3.bel
     clear h3
     go_wp2_with fail
     exact bodyPost_ret (v := bodyW X) (by simp [results, Tryz.results102, go_sem, *]) rfl ⟨rfl, bel_a⟩
theorem l6Move_any (V : Nat → Int) (p q : Int) (w : World) (b4 : -2560000 ≤ V 4 ∧ V 4 ≤ 2560000) (b5 : -2560000 ≤ V 5 ∧ V 5 ≤ 2560000) (bp : -20000000 ≤ p ∧ p ≤ 20000000) (bq : -20000000 ≤ q ∧ q ≤ 20000000) :
 Calls Tryz.prog 102 #[bodyW V, vv p q] w fun e w' => e = .returned (bodyW (moveV V p q)) ∧ Below w.heap.size w w' :=
 l6Move_c V p q _ _ _ _ w b4 b5 bp bq rfl rfl rfl rfl
end Go.Proofs.YtalkkjhehndaoaaGreat
