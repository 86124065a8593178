/- Texts of a proof. -/
import Derived.Test.YthijeiehcdoidaaGreatB13
import Derived.Test.YthijeiehcdoidaaGreatB9
import Derived.Deep.AppendLies
import Derived.Laws.OwnMore
import Derived.Test.YthijeiehcdoidaaGreatB14
import Derived.Deep.RegionHeld3
import Derived.Deep.DeepCutAuto
import Derived.Test.YthijeiehcdoidaaGreatB6
import Derived.Test.YthijeiehcdoidaaGreatB4
set_option maxHeartbeats 16000000
set_option maxRecDepth 20000
namespace Go.Proofs.YthijeiehcdoidaaGreat
open Go.RowKit
set_option linter.unusedVariables false
set_option linter.unusedSimpArgs false
structure LV (w wr : World) (t g cap n : Nat) (xs : List Value) : Prop where
 bel : Below w.heap.size w wr
 len : xs.length = n
 own : wr.ownsRow w.heap.size t 1 (.slice (some ⟨g, 0, none⟩) n cap) n xs
theorem LV.new {w wr : World} (t : Nat) (h : Below w.heap.size w wr) {s : Nat} (e : wr.heap.size = s) : LV w (wr.alloc (.cells #[] t)) t s 0 0 [] := by
 subst e
 exact ⟨h.alloc h.size _, rfl, ⟨rfl, .inr ⟨wr.heap.size, 0, #[], rfl, h.size, Go.Deep.blk_alloc_new _ _, Nat.le_refl _, Nat.zero_le _, by simp, by simp⟩⟩⟩
theorem LV.lt {w wr : World} {t g cap n : Nat} {xs : List Value} (h : LV w wr t g cap n xs) : w.heap.size ≤ g ∧ g < wr.heap.size := World.ownsRow.lt h.own g rfl
theorem LV.fro {w wr : World} {t g cap n : Nat} {xs : List Value} (h : LV w wr t g cap n xs) (j : Nat) : wr.frozen? ⟨g, j, none⟩ = false := World.ownsRow.frozenAt h.own j
theorem LV.cell {w wr : World} {t g cap n : Nat} {xs : List Value} (h : LV w wr t g cap n xs) {j : Nat} {u : Value} (hu : xs[j]? = some u) : wr.cell? ⟨g, j, none⟩ = some u := by
 have hj : j < n := by rw [← h.len]; exact (List.getElem?_eq_some_iff.1 hu).1
 rw [World.ownsRow.cellAt h.own j (by omega), hu]
theorem LV.on {w wr w' : World} {t g cap n : Nat} {xs : List Value} (h : LV w wr t g cap n xs) (hb : Below wr.heap.size wr w') : LV w w' t g cap n xs :=
 ⟨h.bel.trans (hb.mono h.bel.size), h.len, World.ownsRow.kept h.own (below_grown hb rfl) (.inr (by simp [Value.ownBlock]))⟩
theorem LV.dr {w wr : World} {t g cap n : Nat} {xs : List Value} (h : LV w wr t g cap n xs) : LV w wr.drew t g cap n xs := h.on (Below.drew (Below.refl _ _))
theorem LV.set {w wr : World} {t g cap n : Nat} {xs : List Value} (h : LV w wr t g cap n xs) (j : Nat) (u : Value) : LV w (wr.setCell ⟨g, j, none⟩ u) t g cap n (xs.set j u) :=
 ⟨h.bel.setCell h.lt.1 _, by rw [List.length_set]; exact h.len, (World.ownsRow.stored h.own j u).1⟩
theorem LV.ne {w wr : World} {t g cap n : Nat} {xs : List Value} (h : LV w wr t g cap n xs) {b : Nat} (hb : w.heap.size ≤ b) (hn : b ≠ g) (j : Nat) (u : Value) : LV w (wr.setCell ⟨b, j, none⟩ u) t g cap n xs :=
 ⟨h.bel.setCell hb _, h.len, World.ownsRow.kept h.own (row := some b) (by
  have hs := Fr.setCell (X := fun k => k = b) (w := wr) (p := ⟨b, j, none⟩) rfl u
  exact ⟨hs.os, hs.tape, hs.output, hs.size, fun k hk hne => hs.block k hk (fun e => hne (by rw [e]))⟩) (.inr (by simp [Value.ownBlock]; exact fun e => hn e.symm))⟩
theorem LV.kept {w wr w' : World} {t g cap n row : Nat} {xs : List Value} (h : LV w wr t g cap n xs) (hg : wr.grownBy w' (some row)) (hb : w.heap.size ≤ row) (hn : row ≠ g) : LV w w' t g cap n xs :=
 ⟨h.bel.grown hg h.bel.size (fun b e => by cases e; exact hb), h.len, World.ownsRow.kept h.own hg (.inr (by simp [Value.ownBlock]; exact fun e => hn e.symm))⟩
theorem wpList_push {P : Program} {ops : Array Oper} {rest : List Oper} {o : Oper} {a : Act} {Q : Exit → Act → World → Prop} {w wr wx : World} (hgd : o.guard = none) (s x : Operand) (t : TypeId)
 (ho : o.op = .call { callee := .builtin .append, args := #[s, x], argTypes := #[t, t] })
 (e bytes : Nat) (z : Value) (ht : P.underlying t = some (.slice e)) (hinfo : (P.info? e).map (fun i => (i.zero, i.size, i.bytes)) = some (some z, 1, bytes)) (hzs : z.cells.size = 1) (hby : bytes ≤ 8)
 (g cap n : Nat) (xs : List Value) (hs : a.eval s = .slice (some ⟨g, 0, none⟩) n cap) (h : LV w wr e g cap n xs) (hb : Below wr.heap.size wr wx) (b : Nat) (hx : a.eval x = .slice (some ⟨b, 0, none⟩) 1 1) (u : Value) (hu : wx.cell? ⟨b, 0, none⟩ = some u) (h1 : u.oneCell' = true)
 (hn : n ≤ 1048576) (hK : ∀ g' cap' w', LV w w' e g' cap' (n + 1) (xs ++ [u]) → wx.grownBy w' (some g) → (g' = g ∨ g' = wx.heap.size) → wpList P ops Q rest (a.put o.dst (.slice (some ⟨g', 0, none⟩) (n + 1) cap')) w') : wpList P ops Q (o :: rest) a wx := by
 obtain ⟨i, hi, hzz⟩ := Option.map_eq_some_iff.1 hinfo
 simp only [Prod.mk.injEq] at hzz
 obtain ⟨hz, hsz, hb8⟩ := hzz
 have hw := h.on hb
 refine wpList_append_lies wx hgd s x t ho w.heap.size e i z 1 bytes ht hi hz hsz hb8 hzs (by decide) (.slice (some ⟨g, 0, none⟩) n cap) n xs hs hw.own ⟨b, 0, none⟩ 1 1 [u] hx rfl ?_ ?_ (by decide) (by unfold maxLen; omega) ?_ hw.bel.size _ rfl ?_
 · intro j v hv
   cases j with
   | zero => simp at hv; subst hv; exact hu
   | succ j => simp at hv
 · intro v hv; simp at hv; rw [hv]; exact h1
 · have : (n + 1) * bytes ≤ (n + 1) * 8 := Nat.mul_le_mul_left _ hby
   omega
 · intro g' cap' w' r1 r2 r3 r4
   refine hK g' cap' w' ⟨hw.bel.grown r2 hw.bel.size (fun b e => by cases e; exact hw.lt.1), by rw [List.length_append, hw.len]; rfl, r1⟩ r2 ?_
   rcases r3 with r3 | r3
   · simp [Value.ownBlock] at r3; exact .inl r3.symm
   · exact .inr r3
def IV (l : List Int) : List Value := l.map (Value.int .i64)
theorem IV_app (l : List Int) (x : Int) : IV l ++ [.int .i64 x] = IV (l ++ [x]) := by unfold IV; rw [List.map_append]; rfl
theorem IV_set (l : List Int) (j : Nat) (x : Int) : (IV l).set j (.int .i64 x) = IV (l.set j x) := by unfold IV; rw [List.map_set]
theorem IV_len (l : List Int) : (IV l).length = l.length := by unfold IV; rw [List.length_map]
theorem IV_get {l : List Int} {j : Nat} (h : j < l.length) : (IV l)[j]? = some (.int .i64 (ofL l j)) := by
 unfold IV ofL
 rw [List.getElem?_map, List.getElem?_eq_getElem h, List.getD_eq_getElem?_getD, List.getElem?_eq_getElem h]
 rfl
theorem LV.flat {w wr : World} {t g cap n : Nat} {l : List Int} (h : LV w wr t g cap n (IV l)) : Flat wr (some ⟨g, 0, none⟩) (n * 1) (ofL l) := by
 intro h0
 refine ⟨g, 0, rfl, h.lt.2, fun j hj => ?_⟩
 rw [Nat.zero_add]
 have hl := h.len
 rw [IV_len] at hl
 exact h.cell (IV_get (by omega))
theorem LV.ic {w wr : World} {t g cap n : Nat} {l : List Int} (h : LV w wr t g cap n (IV l)) {j : Nat} (hj : j < n) : wr.cell? ⟨g, j, none⟩ = some (.int .i64 (ofL l j)) := by
 have hl := h.len
 rw [IV_len] at hl
 exact h.cell (IV_get (by omega))
abbrev zcInt : Value := .int .i64 0
theorem infoInt : (Tryz.prog.info? 3).map (fun i => (i.zero, i.size, i.bytes)) = some (some zcInt, 1, 8) := by kernel_rfl
def mvX (V : Nat → Int) (p : Int) : Int := clampZ 2560000 (V 4 + p)
def mvY (V : Nat → Int) (q : Int) : Int := clampZ 2560000 (V 5 + q)
def moveV (V : Nat → Int) (p q : Int) : Nat → Int := setV (setV (setV (setV V 4 (mvX V p)) 5 (mvY V q)) 6 (if mvX V p = V 4 + p then V 6 else 0)) 7 (if mvY V q = V 5 + q then V 7 else 0)
theorem setV_self (V : Nat → Int) (k : Nat) : setV V k (V k) = V := by funext j; unfold setV; split <;> simp_all
theorem setV_at (V : Nat → Int) (k j : Nat) (a : Int) (h : j ≠ k) : setV V k a j = V j := by unfold setV; rw [if_neg h]
theorem setV_is (V : Nat → Int) (k : Nat) (a : Int) : setV V k a k = a := by unfold setV; rw [if_pos rfl]
theorem l6Within_q (n m a : Int) (w : World) (h0 : 0 ≤ m) (h1 : m ≤ 4000000000) (e : clampZ m n = a) :
 Calls Tryz.prog 109 #[.int .i64 n, .int .i64 m] w fun e w' => e = .returned (.int .i64 a) ∧ w' = w := by
 subst e; exact l6Within_any n m w h0 h1
theorem l6Move_c (V : Nat → Int) (p q A B C D : Int) (w : World) (b4 : -2560000 ≤ V 4 ∧ V 4 ≤ 2560000) (b5 : -2560000 ≤ V 5 ∧ V 5 ≤ 2560000) (bp : -20000000 ≤ p ∧ p ≤ 20000000) (bq : -20000000 ≤ q ∧ q ≤ 20000000)
 (eA : clampZ 2560000 (V 4 + p) = A) (eB : clampZ 2560000 (V 5 + q) = B) (eC : (if A = V 4 + p then V 6 else 0) = C) (eD : (if B = V 5 + q then V 7 else 0) = D) :
 Calls Tryz.prog 163 #[bodyW V, vv p q] w fun e w' => e = .returned (bodyW (setV (setV (setV (setV V 4 A) 5 B) 6 C) 7 D)) ∧ Below w.heap.size w w' := by
 have hset := cset_map
 obtain ⟨U, hU⟩ : ∃ U, setV (setV V 4 A) 5 B = U := ⟨_, rfl⟩
 obtain ⟨X, hX⟩ : ∃ X, setV (setV U 6 C) 7 D = X := ⟨_, rfl⟩
 have i6U : U 6 = V 6 := by rw [← hU, setV_at _ _ _ _ (by omega), setV_at _ _ _ _ (by omega)]
 have i7U : U 7 = V 7 := by rw [← hU, setV_at _ _ _ _ (by omega), setV_at _ _ _ _ (by omega)]
 have i4U : U 4 = A := by rw [← hU, setV_at _ _ _ _ (by omega), setV_is]
 have i5U : U 5 = B := by rw [← hU, setV_is]
 rw [hU, hX]
 go_enter Tryz.func163, Tryz.ntmps163
 go_upto_region 1 with fail
 have h0 := PB.start w V p q
 generalize (((w.alloc (.cells #[.int .i64 (V 0), .int .i64 (V 1), .int .i64 (V 2), .int .i64 (V 3), .int .i64 (V 4), .int .i64 (V 5), .int .i64 (V 6), .int .i64 (V 7), .int .i64 (V 8), .int .i64 (V 9), .int .i64 (V 10), .int .i64 (V 11)] 41)).alloc (.cells #[.int .i64 p, .int .i64 q] 28)).alloc (.cells #[.int .i64 0, .int .i64 0, .int .i64 0, .int .i64 0, .int .i64 0, .int .i64 0, .int .i64 0, .int .i64 0, .int .i64 0, .int .i64 0, .int .i64 0, .int .i64 0] 41)) = wx0 at h0 ⊢
 have i4 := h0.inn 4 (by omega)
 have i5 := h0.inn 5 (by omega)
 have n4 := h0.nfi 4 (by omega)
 have n5 := h0.nfi 5 (by omega)
 have y0 := h0.v0
 have y1 := h0.v1
 go_upto_region 3 with fail
 go_cut [] (fun wc => PB w wc U p q)
 case first =>
  go_wp2_with (go_at_call 109; refine (l6Within_q _ _ _ _ (by omega) (by omega) (by with_reducible assumption)).mono ?_; rintro e w' ⟨rfl, rfl⟩)
  go_meet
  have q9 := PB.set (PB.set h0 (k := 4) (by omega) A) (k := 5) (by omega) B
  rw [hU] at q9
  exact q9
 case rest =>
 have h1 := hcut
 clear i4 i5 n4 n5 y0 y1 h0 hcut
 have i4 := h1.inn 4 (by omega)
 have i5 := h1.inn 5 (by omega)
 have i6 := h1.inn 6 (by omega)
 have i7 := h1.inn 7 (by omega)
 have n6 := h1.nfi 6 (by omega)
 have n7 := h1.nfi 7 (by omega)
 rw [i4U] at i4
 rw [i5U] at i5
 by_cases cA : A = V 4 + p
 focus
  rw [if_pos cA] at eC; subst eC
  by_cases cB : B = V 5 + q
  focus
   rw [if_pos cB] at eD; subst eD
   have hXU : X = U := by rw [← hX, ← i6U, setV_self, ← i7U, setV_self]
   go_upto_region 8 with fail
   have h3 := h1
   rw [← hXU] at h3
   generalize wc = wq at h3 ⊢
  rotate_left
  focus
   rw [if_neg cB] at eD; subst eD
   have hXU : X = (setV U 7 0) := by rw [← hX, ← i6U, setV_self]
   go_upto_region 8 with fail
   have h3 := (PB.set h1 (k := 7) (by omega) 0)
   rw [← hXU] at h3
   generalize (wc.setCell ⟨w.heap.size, 7, none⟩ (.int .i64 0)) = wq at h3 ⊢
 rotate_left 2
 focus
  rw [if_neg cA] at eC; subst eC
  by_cases cB : B = V 5 + q
  focus
   rw [if_pos cB] at eD; subst eD
   have hXU : X = (setV U 6 0) := by rw [← hX, ← i7U, ← setV_at U 6 7 0 (by omega), setV_self]
   go_upto_region 8 with fail
   have h3 := (PB.set h1 (k := 6) (by omega) 0)
   rw [← hXU] at h3
   generalize (wc.setCell ⟨w.heap.size, 6, none⟩ (.int .i64 0)) = wq at h3 ⊢
  rotate_left
  focus
   rw [if_neg cB] at eD; subst eD
   have hXU : X = (setV (setV U 6 0) 7 0) := by rw [← hX]
   go_upto_region 8 with fail
   have h3 := (PB.set (PB.set h1 (k := 6) (by omega) 0) (k := 7) (by omega) 0)
   rw [← hXU] at h3
   generalize ((wc.setCell ⟨w.heap.size, 6, none⟩ (.int .i64 0)).setCell ⟨w.heap.size, 7, none⟩ (.int .i64 0)) = wq at h3 ⊢
 all_goals
  clear i4 i5 i6 i7 n6 n7 h1 hXU hX hU i6U i7U i4U i5U cA cB eA eB
  have o0 := h3.inn 0 (by omega)
  have r0 := h3.res 0 (by omega)
  have f0 := h3.nfr 0 (by omega)
  have o1 := h3.inn 1 (by omega)
  have r1 := h3.res 1 (by omega)
  have f1 := h3.nfr 1 (by omega)
  have o2 := h3.inn 2 (by omega)
  have r2 := h3.res 2 (by omega)
  have f2 := h3.nfr 2 (by omega)
  have o3 := h3.inn 3 (by omega)
  have r3 := h3.res 3 (by omega)
  have f3 := h3.nfr 3 (by omega)
  have o4 := h3.inn 4 (by omega)
  have r4 := h3.res 4 (by omega)
  have f4 := h3.nfr 4 (by omega)
  have o5 := h3.inn 5 (by omega)
  have r5 := h3.res 5 (by omega)
  have f5 := h3.nfr 5 (by omega)
  have o6 := h3.inn 6 (by omega)
  have r6 := h3.res 6 (by omega)
  have f6 := h3.nfr 6 (by omega)
  have o7 := h3.inn 7 (by omega)
  have r7 := h3.res 7 (by omega)
  have f7 := h3.nfr 7 (by omega)
  have o8 := h3.inn 8 (by omega)
  have r8 := h3.res 8 (by omega)
  have f8 := h3.nfr 8 (by omega)
  have o9 := h3.inn 9 (by omega)
  have r9 := h3.res 9 (by omega)
  have f9 := h3.nfr 9 (by omega)
  have o10 := h3.inn 10 (by omega)
  have r10 := h3.res 10 (by omega)
  have f10 := h3.nfr 10 (by omega)
  have o11 := h3.inn 11 (by omega)
  have r11 := h3.res 11 (by omega)
  have f11 := h3.nfr 11 (by omega)
  have z0 := h3.big
  have hbel := h3.bel
  clear h3
  go_wp2_with fail
  exact bodyPost_ret (v := bodyW X) (by simp [results, Tryz.results163, go_sem, *]) rfl ⟨rfl, bel_a⟩
theorem l6Move_any (V : Nat → Int) (p q : Int) (w : World) (b4 : -2560000 ≤ V 4 ∧ V 4 ≤ 2560000) (b5 : -2560000 ≤ V 5 ∧ V 5 ≤ 2560000) (bp : -20000000 ≤ p ∧ p ≤ 20000000) (bq : -20000000 ≤ q ∧ q ≤ 20000000) :
 Calls Tryz.prog 163 #[bodyW V, vv p q] w fun e w' => e = .returned (bodyW (moveV V p q)) ∧ Below w.heap.size w w' :=
 l6Move_c V p q _ _ _ _ w b4 b5 bp bq rfl rfl rfl rfl
def Bn (x : Int) : Prop := -1100000000 ≤ x ∧ x ≤ 1100000000
def RS (w : World) (rb p : Nat) : Prop := ∃ q, q ≤ p ∧ Rd w rb q
theorem RS.of {w0 w : World} {rb p : Nat} (h : RB w0 w rb p) : RS w rb p := by
 obtain ⟨q, a, b, c⟩ := h; exact ⟨q, a, b⟩
theorem RS.rb {w : World} {rb p : Nat} (h : RS w rb p) : RB w w rb p := by
 obtain ⟨q, a, b⟩ := h; exact ⟨q, a, b, But.refl _ _⟩
theorem RS.mono {w : World} {rb p p' : Nat} (h : RS w rb p) (k : p ≤ p') : RS w rb p' := by
 obtain ⟨q, a, b⟩ := h; exact ⟨q, by omega, b⟩
theorem RS.up {w0 w : World} {rb p p' : Nat} (h : RB w0 w rb p) (k : p ≤ p') : RS w rb p' := (RS.of h).mono k
theorem RB.but {w0 w : World} {rb p : Nat} (h : RB w0 w rb p) : But rb w0 w := by
 obtain ⟨q, a, b, c⟩ := h; exact c
theorem RB.mk {w0 w : World} {rb p : Nat} (h : But rb w0 w) (k : RS w rb p) : RB w0 w rb p := by
 obtain ⟨q, a, b⟩ := k; exact ⟨q, a, b, h⟩
theorem But.setNew {rb : Nat} {a w : World} (h : But rb a w) {x : Addr} (hx : a.heap.size ≤ x.block) (u : Value) : But rb a (w.setCell x u) :=
 ⟨h.os, h.tape, h.output, by simpa [World.setCell] using h.size, fun k hk hn => (Below.heap_setCell _ _ _ _ (by omega)).trans (h.block k hk hn)⟩
theorem But.drew {rb : Nat} {a w : World} (h : But rb a w) : But rb a w.drew := ⟨h.os, h.tape, h.output, h.size, h.block⟩
theorem RS.lt {w : World} {rb p : Nat} (h : RS w rb p) : rb < w.heap.size := h.rb.lt
theorem RS.alloc {w : World} {rb p : Nat} (h : RS w rb p) (o : Obj) : RS (w.alloc o) rb p := RS.of (h.rb.alloc o)
theorem RS.setNew {w : World} {rb p : Nat} (h : RS w rb p) {a : Addr} (ha : rb < a.block) (v : Value) : RS (w.setCell a v) rb p := by
 obtain ⟨q, k, b⟩ := h; exact ⟨q, k, b.setNew ha v⟩
theorem RS.drewN {w : World} {rb p : Nat} (h : RS w rb p) (n : Nat) : RS (w.drewN n) rb p := h
theorem RS.drew {w : World} {rb p : Nat} (h : RS w rb p) : RS w.drew rb p := h
theorem RB.drewN {w0 w : World} {rb p : Nat} (h : RB w0 w rb p) (n : Nat) : RB w0 (w.drewN n) rb p := by
 obtain ⟨q, a, b, c⟩ := h; exact ⟨q, a, b, c.drewN n⟩
theorem RB.drew {w0 w : World} {rb p : Nat} (h : RB w0 w rb p) : RB w0 w.drew rb p := by
 obtain ⟨q, a, b, c⟩ := h; exact ⟨q, a, b, c.drewN 1⟩
theorem RB.trans {a b c : World} {rb p p' : Nat} (h : RB a b rb p) (k : RB b c rb p') : RB a c rb p' := by
 obtain ⟨q, _, _, x⟩ := h
 obtain ⟨q', y, z, u⟩ := k
 exact ⟨q', y, z, x.trans u⟩
theorem pick_s (rb p : Nat) (n : Int) (w : World) (hr : RS w rb p) (hp : p ≤ 999000) (h0 : 1 ≤ n) (h1 : n ≤ 4000000000) :
 Calls Tryz.prog 19 #[.pointer (some ⟨rb, 0, none⟩), .int .i64 n] w fun e w' => ∃ v : Int, e = .returned (.int .i64 v) ∧ 0 ≤ v ∧ v < n ∧ RB w w' rb (p + 1) :=
 pick_rb w rb p n w hr.rb hp h0 h1
theorem one_s (lo hi : Int) (rb p len cap : Nat) (cs : Array Value) (t : TypeId) (w : World) (hr : RS w rb p) (hp : p ≤ 999000) (hcs : AllBd lo hi cs.toList) (hl : cs.size = len) (h0 : 1 ≤ len) (h1 : len ≤ 100) :
 Calls Tryz.prog 48 #[.pointer (some ⟨rb, 0, none⟩), .slice (some ⟨w.heap.size, 0, none⟩) len cap] (w.alloc (.cells cs t)) fun e w' => ∃ v : Int, e = .returned (.int .i64 v) ∧ lo ≤ v ∧ v ≤ hi ∧ RB w w' rb (p + 1) :=
 one_rb lo hi w rb p len cap cs t w hr.rb hp hcs hl h0 h1
theorem one_g (lo hi : Int) (rb p lb len cap : Nat) (xs : List Int) (w : World) (hr : RS w rb p) (hp : p ≤ 999000) (hx : ∀ x ∈ xs, lo ≤ x ∧ x ≤ hi) (hl : xs.length = len) (h0 : 1 ≤ len) (h1 : len ≤ 100) (hb : lb ≠ rb) (hc : ∀ i, i < len → w.cell? ⟨lb, i, none⟩ = some (.int .i64 (xs.getD i 0))) :
 Calls Tryz.prog 48 #[.pointer (some ⟨rb, 0, none⟩), .slice (some ⟨lb, 0, none⟩) len cap] w fun e w' => ∃ v : Int, e = .returned (.int .i64 v) ∧ lo ≤ v ∧ v ≤ hi ∧ RB w w' rb (p + 1) := by
 obtain ⟨q, hq, hd⟩ := hr
 refine (one_any rb q lb len cap xs w hd (by omega) hl h0 h1 hb hc).mono ?_
 rintro e w' ⟨v, rfl, hv, hr', hb'⟩
 obtain ⟨v0, v1⟩ := hx v hv
 exact ⟨v, rfl, v0, v1, q + 1, by omega, hr', hb'⟩
def Bm (x : Int) : Prop := -10000 ≤ x ∧ x ≤ 10000
theorem Bm.mk {x : Int} (h : -10000 ≤ x ∧ x ≤ 10000) : Bm x := h
theorem Bm.bn {x : Int} (h : Bm x) : Bn x := by unfold Bm Bn at *; omega
theorem Bn.mk {x : Int} (h : -1100000000 ≤ x ∧ x ≤ 1100000000) : Bn x := h
theorem l11Place_s (rb p : Nat) (w : World) (hs0 : RS w rb p) (hp : p ≤ 997900) :
 Calls Tryz.prog 84 #[.pointer (some ⟨rb, 0, none⟩)] w fun e w' => ∃ x y : Int, e = .returned (vv x y) ∧ (Bm x ∧ Bm y) ∧ RB w w' rb (p + 60) := by
 have hlt := hs0.lt
 have hne : (w.heap.size = rb) = False := eq_false (by omega)
 have hset := cset_map
 go_enter Tryz.func84, Tryz.ntmps84
 go_wp2_with (first
  | (have _ := hr1; go_at_call 19; refine (pick_s rb (p + 20) _ _ (by repeat (first | (with_reducible apply RS.setNew; rotate_left; (first | omega | (simp only [zz]; omega))) | with_reducible apply RS.alloc | (with_reducible apply RS.up hr1; omega) | (with_reducible apply RS.mono hs0; omega) | with_reducible apply RS.drew | with_reducible apply RS.drewN)) (by omega) (by omega) (by omega)).mono ?_; rintro e w2 ⟨v2, rfl, va2, vb2, hr2⟩; obtain ⟨hc2, hf2⟩ := RB.cells hr2; have hz2 := RB.size hr2; (try simp only [zz] at hc2 hf2 hz2); have hq2x0 : w.heap.size < w2.heap.size := (by omega); have ha2x0 : (w2.heap.size = w.heap.size) = False := eq_false (by omega); have hb2x0 : (w.heap.size = w2.heap.size) = False := eq_false (by omega); have he2x0 : (w.heap.size = rb) = False := eq_false (by omega); have hk2x0 := fun o => hc2 (w.heap.size) o (by omega) (by omega); have hj2x0 := fun o => hf2 (w.heap.size) o (by omega) (by omega))
  | (go_at_call 19; refine (pick_s rb (p + 10) _ _ (by repeat (first | (with_reducible apply RS.setNew; rotate_left; (first | omega | (simp only [zz]; omega))) | with_reducible apply RS.alloc | (with_reducible apply RS.mono hs0; omega) | with_reducible apply RS.drew | with_reducible apply RS.drewN)) (by omega) (by omega) (by omega)).mono ?_; rintro e w1 ⟨v1, rfl, va1, vb1, hr1⟩; obtain ⟨hc1, hf1⟩ := RB.cells hr1; have hz1 := RB.size hr1; (try simp only [zz] at hc1 hf1 hz1); have hq1x0 : w.heap.size < w1.heap.size := (by omega); have ha1x0 : (w1.heap.size = w.heap.size) = False := eq_false (by omega); have hb1x0 : (w.heap.size = w1.heap.size) = False := eq_false (by omega); have he1x0 : (w.heap.size = rb) = False := eq_false (by omega); have hk1x0 := fun o => hc1 (w.heap.size) o (by omega) (by omega); have hj1x0 := fun o => hf1 (w.heap.size) o (by omega) (by omega)))
 exact bodyPost_ret (v := vv (v1 * 8 - 1024) (v2 * 8 - 1024)) (by simp [results, Tryz.results84, go_sem, *]) rfl ⟨_, _, rfl, ⟨Bm.mk ⟨by omega, by omega⟩, Bm.mk ⟨by omega, by omega⟩⟩, RB.mk (by repeat (first | (with_reducible apply But.setNew; rotate_left; (first | omega | (simp only [zz]; omega))) | with_reducible apply But.alloc | with_reducible apply But.trans (k := RB.but hr2) | with_reducible apply But.trans (k := RB.but hr1) | with_reducible apply But.refl | with_reducible apply But.drewN | with_reducible apply But.drew)) (by repeat (first | (with_reducible apply RS.setNew; rotate_left; (first | omega | (simp only [zz]; omega))) | with_reducible apply RS.alloc | (with_reducible apply RS.up hr2; omega) | (with_reducible apply RS.up hr1; omega) | (with_reducible apply RS.mono hs0; omega) | with_reducible apply RS.drew | with_reducible apply RS.drewN))⟩
theorem l11Shape_s (rb p : Nat) (w : World) (hs0 : RS w rb p) (hp : p ≤ 997900) :
 Calls Tryz.prog 94 #[.pointer (some ⟨rb, 0, none⟩)] w fun e w' => ∃ k g h : Int, e = .returned (s3 k g h) ∧ (Bn k ∧ Bn g ∧ Bn h) ∧ RB w w' rb (p + 60) := by
 have hlt := hs0.lt
 have hne : (w.heap.size = rb) = False := eq_false (by omega)
 have hset := cset_map
 go_enter Tryz.func94, Tryz.ntmps94
 go_wp2_with (first
  | (have _ := hr3; go_at_call 19; refine (pick_s rb (p + 40) _ _ (by repeat (first | (with_reducible apply RS.setNew; rotate_left; (first | omega | (simp only [zz]; omega))) | with_reducible apply RS.alloc | (with_reducible apply RS.up hr3; omega) | (with_reducible apply RS.mono hs0; omega) | with_reducible apply RS.drew | with_reducible apply RS.drewN)) (by omega) (by omega) (by omega)).mono ?_; rintro e w4 ⟨v4, rfl, va4, vb4, hr4⟩; obtain ⟨hc4, hf4⟩ := RB.cells hr4; have hz4 := RB.size hr4; (try simp only [zz] at hc4 hf4 hz4); have hq4x0 : w.heap.size < w4.heap.size := (by omega); have ha4x0 : (w4.heap.size = w.heap.size) = False := eq_false (by omega); have hb4x0 : (w.heap.size = w4.heap.size) = False := eq_false (by omega); have he4x0 : (w.heap.size = rb) = False := eq_false (by omega); have hk4x0 := fun o => hc4 (w.heap.size) o (by omega) (by omega); have hj4x0 := fun o => hf4 (w.heap.size) o (by omega) (by omega))
  | (have _ := hr2; go_at_call 19; refine (pick_s rb (p + 30) _ _ (by repeat (first | (with_reducible apply RS.setNew; rotate_left; (first | omega | (simp only [zz]; omega))) | with_reducible apply RS.alloc | (with_reducible apply RS.up hr2; omega) | (with_reducible apply RS.mono hs0; omega) | with_reducible apply RS.drew | with_reducible apply RS.drewN)) (by omega) (by omega) (by omega)).mono ?_; rintro e w3 ⟨v3, rfl, va3, vb3, hr3⟩; obtain ⟨hc3, hf3⟩ := RB.cells hr3; have hz3 := RB.size hr3; (try simp only [zz] at hc3 hf3 hz3); have hq3x0 : w.heap.size < w3.heap.size := (by omega); have ha3x0 : (w3.heap.size = w.heap.size) = False := eq_false (by omega); have hb3x0 : (w.heap.size = w3.heap.size) = False := eq_false (by omega); have he3x0 : (w.heap.size = rb) = False := eq_false (by omega); have hk3x0 := fun o => hc3 (w.heap.size) o (by omega) (by omega); have hj3x0 := fun o => hf3 (w.heap.size) o (by omega) (by omega))
  | (go_at_call 19; refine (pick_s rb (p + 10) _ _ (by repeat (first | (with_reducible apply RS.setNew; rotate_left; (first | omega | (simp only [zz]; omega))) | with_reducible apply RS.alloc | (with_reducible apply RS.mono hs0; omega) | with_reducible apply RS.drew | with_reducible apply RS.drewN)) (by omega) (by omega) (by omega)).mono ?_; rintro e w1 ⟨v1, rfl, va1, vb1, hr1⟩; obtain ⟨hc1, hf1⟩ := RB.cells hr1; have hz1 := RB.size hr1; (try simp only [zz] at hc1 hf1 hz1); have hq1x0 : w.heap.size < w1.heap.size := (by omega); have ha1x0 : (w1.heap.size = w.heap.size) = False := eq_false (by omega); have hb1x0 : (w.heap.size = w1.heap.size) = False := eq_false (by omega); have he1x0 : (w.heap.size = rb) = False := eq_false (by omega); have hk1x0 := fun o => hc1 (w.heap.size) o (by omega) (by omega); have hj1x0 := fun o => hf1 (w.heap.size) o (by omega) (by omega))
  | (have _ := hr4; go_at_call 48; refine (one_s (1) 1000 rb (p + 50) _ _ _ _ _ (by repeat (first | (with_reducible apply RS.setNew; rotate_left; (first | omega | (simp only [zz]; omega))) | with_reducible apply RS.alloc | (with_reducible apply RS.up hr4; omega) | (with_reducible apply RS.mono hs0; omega) | with_reducible apply RS.drew | with_reducible apply RS.drewN)) (by omega) (by repeat (first | exact AllBd.nil | refine AllBd.cons (by omega) (by omega) ?_)) (by rfl) (by omega) (by omega)).mono ?_; rintro e w5 ⟨v5, rfl, va5, vb5, hr5⟩; obtain ⟨hc5, hf5⟩ := RB.cells hr5; have hz5 := RB.size hr5; (try simp only [zz] at hc5 hf5 hz5); have hq5x0 : w.heap.size < w5.heap.size := (by omega); have ha5x0 : (w5.heap.size = w.heap.size) = False := eq_false (by omega); have hb5x0 : (w.heap.size = w5.heap.size) = False := eq_false (by omega); have he5x0 : (w.heap.size = rb) = False := eq_false (by omega); have hk5x0 := fun o => hc5 (w.heap.size) o (by omega) (by omega); have hj5x0 := fun o => hf5 (w.heap.size) o (by omega) (by omega))
  | (have _ := hr1; go_at_call 48; refine (one_s (1) 1000 rb (p + 20) _ _ _ _ _ (by repeat (first | (with_reducible apply RS.setNew; rotate_left; (first | omega | (simp only [zz]; omega))) | with_reducible apply RS.alloc | (with_reducible apply RS.up hr1; omega) | (with_reducible apply RS.mono hs0; omega) | with_reducible apply RS.drew | with_reducible apply RS.drewN)) (by omega) (by repeat (first | exact AllBd.nil | refine AllBd.cons (by omega) (by omega) ?_)) (by rfl) (by omega) (by omega)).mono ?_; rintro e w2 ⟨v2, rfl, va2, vb2, hr2⟩; obtain ⟨hc2, hf2⟩ := RB.cells hr2; have hz2 := RB.size hr2; (try simp only [zz] at hc2 hf2 hz2); have hq2x0 : w.heap.size < w2.heap.size := (by omega); have ha2x0 : (w2.heap.size = w.heap.size) = False := eq_false (by omega); have hb2x0 : (w.heap.size = w2.heap.size) = False := eq_false (by omega); have he2x0 : (w.heap.size = rb) = False := eq_false (by omega); have hk2x0 := fun o => hc2 (w.heap.size) o (by omega) (by omega); have hj2x0 := fun o => hf2 (w.heap.size) o (by omega) (by omega)))
 · exact bodyPost_ret (v := s3 1 v2 0) (by simp [results, Tryz.results94, go_sem, *]) rfl ⟨_, _, _, rfl, ⟨Bn.mk ⟨by omega, by omega⟩, Bn.mk ⟨by omega, by omega⟩, Bn.mk ⟨by omega, by omega⟩⟩, RB.mk (by repeat (first | (with_reducible apply But.setNew; rotate_left; (first | omega | (simp only [zz]; omega))) | with_reducible apply But.alloc | with_reducible apply But.trans (k := RB.but hr3) | with_reducible apply But.trans (k := RB.but hr2) | with_reducible apply But.trans (k := RB.but hr1) | with_reducible apply But.refl | with_reducible apply But.drewN | with_reducible apply But.drew)) (by repeat (first | (with_reducible apply RS.setNew; rotate_left; (first | omega | (simp only [zz]; omega))) | with_reducible apply RS.alloc | (with_reducible apply RS.up hr3; omega) | (with_reducible apply RS.up hr2; omega) | (with_reducible apply RS.up hr1; omega) | (with_reducible apply RS.mono hs0; omega) | with_reducible apply RS.drew | with_reducible apply RS.drewN))⟩
 · exact bodyPost_ret (v := s3 2 v2 v5) (by simp [results, Tryz.results94, go_sem, *]) rfl ⟨_, _, _, rfl, ⟨Bn.mk ⟨by omega, by omega⟩, Bn.mk ⟨by omega, by omega⟩, Bn.mk ⟨by omega, by omega⟩⟩, RB.mk (by repeat (first | (with_reducible apply But.setNew; rotate_left; (first | omega | (simp only [zz]; omega))) | with_reducible apply But.alloc | with_reducible apply But.trans (k := RB.but hr5) | with_reducible apply But.trans (k := RB.but hr4) | with_reducible apply But.trans (k := RB.but hr3) | with_reducible apply But.trans (k := RB.but hr2) | with_reducible apply But.trans (k := RB.but hr1) | with_reducible apply But.refl | with_reducible apply But.drewN | with_reducible apply But.drew)) (by repeat (first | (with_reducible apply RS.setNew; rotate_left; (first | omega | (simp only [zz]; omega))) | with_reducible apply RS.alloc | (with_reducible apply RS.up hr5; omega) | (with_reducible apply RS.up hr4; omega) | (with_reducible apply RS.up hr3; omega) | (with_reducible apply RS.up hr2; omega) | (with_reducible apply RS.up hr1; omega) | (with_reducible apply RS.mono hs0; omega) | with_reducible apply RS.drew | with_reducible apply RS.drewN))⟩
end Go.Proofs.YthijeiehcdoidaaGreat
