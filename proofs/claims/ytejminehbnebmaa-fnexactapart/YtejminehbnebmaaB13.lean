/- Two bodies are moved apart, by the specification. For how many steps each body was quiet, by the specification. Each part of a step keeps bodies ok: plain mathematics. Bodies moved apart stay ok; all contacts, one behind the other. Two bodies of columns, moved apart: what it comes to. A body of columns that is changed: its place. -/
import Derived.Test.YtejminehbnebmaaB12
import Derived.Deep.RegionHeld3
import Derived.Deep.DeepCutAuto
import Derived.Test.YtejminehbnebmaaB7
import Derived.Test.YtejminehbnebmaaB11
namespace Go.Proofs.Ytejminehbnebmaa
open Go.RowKit
set_option linter.unusedVariables false
set_option linter.unusedSimpArgs false
structure Hide (p : Prop) : Prop where
  out : p
theorem tdiv_le {x B m : Int} (hm : 0 < m) (hB : 0 ≤ B) (h : -(B * m) ≤ x ∧ x ≤ B * m) : -B ≤ x.tdiv m ∧ x.tdiv m ≤ B := by
  by_cases h0 : 0 ≤ x
  · rw [Int.tdiv_eq_ediv_of_nonneg h0]
    have q1 := Int.ediv_nonneg h0 (Int.le_of_lt hm)
    exact ⟨by omega, Int.ediv_le_of_le_mul hm h.2⟩
  · have e : x.tdiv m = -((-x) / m) := by rw [← Int.tdiv_eq_ediv_of_nonneg (show 0 ≤ -x by omega), Int.neg_tdiv, Int.neg_neg]
    rw [e]
    have q1 := Int.ediv_nonneg (show 0 ≤ -x by omega) (Int.le_of_lt hm)
    have q2 := Int.ediv_le_of_le_mul hm (show -x ≤ B * m by omega)
    omega
/-- what a body takes of a way apart -/
def shareV (V W : Nat → Int) (n : Int) : Int := bif decide (V 8 = 0) then 0 else bif decide (W 8 = 0) then n else (n * W 8).tdiv (V 8 + W 8)
theorem share_bd {V W : Nat → Int} {n : Int} (h0 : 0 ≤ V 8) (h1 : 0 ≤ W 8) (hn : 0 ≤ n) : 0 ≤ shareV V W n ∧ shareV V W n ≤ n := by
  unfold shareV
  by_cases m0 : V 8 = 0
  · rw [decide_eq_true m0]; exact ⟨Int.le_refl _, hn⟩
  · rw [decide_eq_false m0]
    by_cases m1 : W 8 = 0
    · rw [decide_eq_true m1]; exact ⟨hn, Int.le_refl _⟩
    · rw [decide_eq_false m1]
      show 0 ≤ (n * W 8).tdiv (V 8 + W 8) ∧ (n * W 8).tdiv (V 8 + W 8) ≤ n
      have p0 : 0 ≤ n * W 8 := Int.mul_nonneg hn h1
      rw [Int.tdiv_eq_ediv_of_nonneg p0]
      refine ⟨Int.ediv_nonneg p0 (by omega), ?_⟩
      refine Int.ediv_le_of_le_mul (by omega) ?_
      exact Int.mul_le_mul_of_nonneg_left (by omega) hn
set_option maxRecDepth 20000 in
set_option maxHeartbeats 8000000 in
theorem l8Share_q (V W : Nat → Int) (n x : Int) (w : World) (h0 : 0 ≤ V 8 ∧ V 8 ≤ 1000) (h1 : 0 ≤ W 8 ∧ W 8 ≤ 1000) (hn : -30000 ≤ n ∧ n ≤ 30000) (ex : shareV V W n = x) :
    Calls Try.prog 45 #[bodyW V, bodyW W, .int .i64 n] w fun e w' => e = .returned (.int .i64 x) ∧ Below w.heap.size w w' := by
  have hset := cset_map
  have p := mul_bd (a := n) (b := W 8) (A := 30000) (B := 1000) (by omega) (by omega)
  have q := tdiv_bd (x := n * W 8) (B := 30000000) (V 8 + W 8) (by omega)
  have w1 : IntKind.i64.wrap (n * W 8) = n * W 8 := i64w (by omega)
  have w2 : IntKind.i64.wrap (V 8 + W 8) = V 8 + W 8 := i64w (by omega)
  have w3 : IntKind.i64.wrap ((n * W 8).tdiv (V 8 + W 8)) = (n * W 8).tdiv (V 8 + W 8) := i64w (by omega)
  by_cases m0 : V 8 = 0
  · have ex' : x = 0 := by rw [← ex]; unfold shareV; rw [decide_eq_true m0]; rfl
    subst ex'
    have e1 : (V 8 == 0) = true := by simp [m0]
    have M0 : Shut (V 8 = 0) := m0
    clear m0 ex
    go_enter Try.func45, Try.ntmps45
    go_wp2_with fail
    go_ret
    exact ⟨rfl, bel_a⟩
  · have e1 : (V 8 == 0) = false := by simp [m0]
    by_cases m1 : W 8 = 0
    · have ex' : x = n := by rw [← ex]; unfold shareV; rw [decide_eq_false m0, decide_eq_true m1]; rfl
      subst ex'
      have e2 : (W 8 == 0) = true := by simp [m1]
      have M1 : Shut (W 8 = 0) := m1
      clear m1 ex w1 w2 w3 p q
      go_enter Try.func45, Try.ntmps45
      go_wp2_with fail
      go_ret
      exact ⟨rfl, bel_a⟩
    · have ex' : (n * W 8).tdiv (V 8 + W 8) = x := by rw [← ex]; unfold shareV; rw [decide_eq_false m0, decide_eq_false m1]; rfl
      have e2 : (W 8 == 0) = false := by simp [m1]
      have e3 : ¬ V 8 + W 8 = 0 := by omega
      clear ex
      go_enter Try.func45, Try.ntmps45
      go_wp2_with fail
      go_ret
      exact ⟨by first | rfl | (rw [← ex']) | simp [ex'], bel_a⟩
/-- two bodies of a list moved apart -/
def apartU (U : Nat → Int) (A B : Nat) (X Y D : Int) : Nat → Int :=
  bif decide (0 < (D - 64).tdiv 4) then
    (let U1 := bif decide (0 < U (A * 12 + 8)) then putRow U A (moveV (fun j => U (A * 12 + j)) ((-X * shareV (fun j => U (A * 12 + j)) (fun j => U (B * 12 + j)) ((D - 64).tdiv 4)).tdiv 256) ((-Y * shareV (fun j => U (A * 12 + j)) (fun j => U (B * 12 + j)) ((D - 64).tdiv 4)).tdiv 256)) else U
     bif decide (0 < U (B * 12 + 8)) then putRow U1 B (moveV (fun j => U (B * 12 + j)) ((X * shareV (fun j => U (B * 12 + j)) (fun j => U (A * 12 + j)) ((D - 64).tdiv 4)).tdiv 256) ((Y * shareV (fun j => U (B * 12 + j)) (fun j => U (A * 12 + j)) ((D - 64).tdiv 4)).tdiv 256)) else U1)
  else U
structure Ap8 (w wc : World) (A B : Nat) (X Y D : Int) (ba bb : Nat) (VA VB : Nat → Int) : Prop where
  k0 : wc.cell? ⟨w.heap.size, 0, none⟩ = some (.int .i64 (A : Int))
  k1 : wc.cell? ⟨w.heap.size, 1, none⟩ = some (.int .i64 (B : Int))
  k2 : wc.cell? ⟨w.heap.size, 2, none⟩ = some (.int .i64 X)
  k3 : wc.cell? ⟨w.heap.size, 3, none⟩ = some (.int .i64 Y)
  k4 : wc.cell? ⟨w.heap.size, 4, none⟩ = some (.int .i64 D)
  ca : ∀ j, j < 12 → wc.cell? ⟨ba, j, none⟩ = some (.int .i64 (VA j))
  cb : ∀ j, j < 12 → wc.cell? ⟨bb, j, none⟩ = some (.int .i64 (VB j))
  l0 : w.heap.size < wc.heap.size
  la : ba < wc.heap.size
  lb : bb < wc.heap.size
  ga : w.heap.size < ba
  gb : w.heap.size < bb
theorem Ap8.on {w wc w' : World} {A B : Nat} {X Y D : Int} {ba bb : Nat} {VA VB : Nat → Int} (h : Ap8 w wc A B X Y D ba bb VA VB) (hb : Below wc.heap.size wc w') : Ap8 w w' A B X Y D ba bb VA VB :=
  have k := fun j => hb.cell (p := ⟨w.heap.size, j, none⟩) h.l0
  ⟨(k 0).trans h.k0, (k 1).trans h.k1, (k 2).trans h.k2, (k 3).trans h.k3, (k 4).trans h.k4, fun j hj => (hb.cell (p := ⟨ba, j, none⟩) h.la).trans (h.ca j hj), fun j hj => (hb.cell (p := ⟨bb, j, none⟩) h.lb).trans (h.cb j hj), Nat.lt_of_lt_of_le h.l0 hb.size, Nat.lt_of_lt_of_le h.la hb.size, Nat.lt_of_lt_of_le h.lb hb.size, h.ga, h.gb⟩
theorem Ap8.fr {w wc w' : World} {A B g : Nat} {X Y D : Int} {ba bb : Nat} {VA VB : Nat → Int} (h : Ap8 w wc A B X Y D ba bb VA VB) (hs : Fr (fun b => b = g) wc w') (hg : g < w.heap.size) : Ap8 w w' A B X Y D ba bb VA VB := by
  have ga := h.ga
  have gb := h.gb
  have k := fun j => hs.cell (p := ⟨w.heap.size, j, none⟩) h.l0 (by simp; omega)
  exact ⟨(k 0).trans h.k0, (k 1).trans h.k1, (k 2).trans h.k2, (k 3).trans h.k3, (k 4).trans h.k4, fun j hj => (hs.cell (p := ⟨ba, j, none⟩) h.la (by simp; omega)).trans (h.ca j hj), fun j hj => (hs.cell (p := ⟨bb, j, none⟩) h.lb (by simp; omega)).trans (h.cb j hj), Nat.lt_of_lt_of_le h.l0 hs.size, Nat.lt_of_lt_of_le h.la hs.size, Nat.lt_of_lt_of_le h.lb hs.size, h.ga, h.gb⟩
end Go.Proofs.Ytejminehbnebmaa
namespace Go.Proofs.Ytejminehbnebmaa
open Go.RowKit
set_option linter.unusedVariables false
set_option linter.unusedSimpArgs false
/-- a body's count of quiet steps: V now, r what it was -/
def quietV (r : Int) (V : Nat → Int) : Nat → Int := bif decide (V 8 = 0) || decide (8 ≤ V 11) then V else setV V 11 (bif decide (-8 ≤ spX V ∧ spX V ≤ 8) && decide (-8 ≤ spY V ∧ spY V ≤ 8) then mn (r + 1) 7 else 0)
end Go.Proofs.Ytejminehbnebmaa
namespace Go.Proofs.Ytejminehbnebmaa
open Go.RowKit
set_option linter.unusedVariables false
set_option linter.unusedSimpArgs false
/-- a body that is ok, said plainly -/
structure BOk (V : Nat → Int) : Prop where
  i0 : 0 ≤ V 0 ∧ V 0 ≤ 999999999
  sh : shB (V 1) (V 2) (V 3) = true
  a4 : -2560000 ≤ V 4 ∧ V 4 ≤ 2560000
  a5 : -2560000 ≤ V 5 ∧ V 5 ≤ 2560000
  d6 : -20000000 ≤ V 6 ∧ V 6 ≤ 20000000
  d7 : -20000000 ≤ V 7 ∧ V 7 ≤ 20000000
  m8 : 0 ≤ V 8 ∧ V 8 ≤ 1000
  b9 : 0 ≤ V 9 ∧ V 9 ≤ 256
  r10 : 0 ≤ V 10 ∧ V 10 ≤ 256
  q11 : 0 ≤ V 11 ∧ V 11 ≤ 8
  fx : V 8 = 0 → V 11 = 0
  rs : (V 8 ≠ 0 ∧ V 11 ≠ 8) ∨ (V 6 = 0 ∧ V 7 = 0)
theorem BOk.of {V : Nat → Int} (h : bodyB V = true) : BOk V := by
  unfold bodyB restB inB at h
  simp only [Bool.and_eq_true, decide_eq_true_eq] at h
  obtain ⟨a0, a1, a2, a3, a4, a5, a6, a7, a8, a9⟩ := h
  exact ⟨a0, a1, by omega, by omega, by omega, by omega, a4, a5, a6, a7, a8, a9⟩
theorem BOk.to {V : Nat → Int} (h : BOk V) : bodyB V = true := by
  obtain ⟨a0, a1, a2, a3, a4, a5, a6, a7, a8, a9, b0, b1⟩ := h
  unfold bodyB restB inB
  simp only [Bool.and_eq_true, decide_eq_true_eq]
  exact ⟨a0, a1, by omega, by omega, a6, a7, a8, a9, b0, b1⟩
theorem clampZ_in (l n : Int) (h : 0 ≤ l) : -l ≤ clampZ l n ∧ clampZ l n ≤ l := by unfold clampZ; repeat (first | omega | split)
theorem setV_ne {V : Nat → Int} {k j : Nat} {a : Int} (h : j ≠ k) : setV V k a j = V j := by unfold setV; rw [if_neg h]
theorem setV_eq {V : Nat → Int} {k : Nat} {a : Int} : setV V k a k = a := by unfold setV; rw [if_pos rfl]
theorem pull_ok {V : Nat → Int} (g : Int) (h : BOk V) : BOk (pullV g V) := by
  unfold pullV
  cases hl : liveV V with
  | false => exact h
  | true =>
    unfold liveV at hl
    simp only [Bool.and_eq_true, decide_eq_true_eq, Bool.not_eq_true', decide_eq_false_iff_not] at hl
    have c := clampZ_in 20000000 (V 7 - g * V 8) (by omega)
    generalize clampZ 20000000 (V 7 - g * V 8) = y at c
    show BOk (setV V 7 y)
    obtain ⟨a0, a1, a2, a3, a4, a5, a6, a7, a8, a9, b0, b1⟩ := h
    constructor <;> simp only [setV, reduceIte] <;> (first | assumption | omega | (simp; assumption) | (simp; omega))
theorem setV4 (V : Nat → Int) (x y u v : Int) : (∀ j, j ≠ 4 → j ≠ 5 → j ≠ 6 → j ≠ 7 → setV (setV (setV (setV V 4 x) 5 y) 6 u) 7 v j = V j) ∧ setV (setV (setV (setV V 4 x) 5 y) 6 u) 7 v 4 = x ∧ setV (setV (setV (setV V 4 x) 5 y) 6 u) 7 v 5 = y ∧ setV (setV (setV (setV V 4 x) 5 y) 6 u) 7 v 6 = u ∧ setV (setV (setV (setV V 4 x) 5 y) 6 u) 7 v 7 = v := by
  refine ⟨fun j h4 h5 h6 h7 => ?_, ?_, ?_, ?_, setV_eq⟩
  · rw [setV_ne h7, setV_ne h6, setV_ne h5, setV_ne h4]
  · rw [setV_ne (by decide), setV_ne (by decide), setV_ne (by decide), setV_eq]
  · rw [setV_ne (by decide), setV_ne (by decide), setV_eq]
  · rw [setV_ne (by decide), setV_eq]
theorem setV3 (V : Nat → Int) (x y u : Int) : (∀ j, j ≠ 6 → j ≠ 7 → j ≠ 11 → setV (setV (setV V 6 x) 7 y) 11 u j = V j) ∧ setV (setV (setV V 6 x) 7 y) 11 u 6 = x ∧ setV (setV (setV V 6 x) 7 y) 11 u 7 = y ∧ setV (setV (setV V 6 x) 7 y) 11 u 11 = u := by
  refine ⟨fun j h6 h7 h11 => ?_, ?_, ?_, setV_eq⟩
  · rw [setV_ne h11, setV_ne h7, setV_ne h6]
  · rw [setV_ne (by decide), setV_ne (by decide), setV_eq]
  · rw [setV_ne (by decide), setV_eq]
theorem move_ok {V : Nat → Int} (p q : Int) (h : BOk V) (hm : V 8 ≠ 0) : BOk (moveV V p q) := by
  have c1 := clampZ_in 2560000 (V 4 + p) (by omega)
  have c2 := clampZ_in 2560000 (V 5 + q) (by omega)
  unfold moveV mvX mvY
  generalize clampZ 2560000 (V 4 + p) = x at c1
  generalize clampZ 2560000 (V 5 + q) = y at c2
  obtain ⟨a0, a1, a2, a3, a4, a5, a6, a7, a8, a9, b0, b1⟩ := h
  obtain ⟨u, hu⟩ : ∃ u, (if x = V 4 + p then V 6 else 0) = u := ⟨_, rfl⟩
  obtain ⟨v, hv⟩ : ∃ v, (if y = V 5 + q then V 7 else 0) = v := ⟨_, rfl⟩
  rw [hu, hv]
  have bu : (-20000000 ≤ u ∧ u ≤ 20000000) ∧ (V 6 = 0 → u = 0) := by rw [← hu]; split <;> constructor <;> (try intro) <;> omega
  have bv : (-20000000 ≤ v ∧ v ≤ 20000000) ∧ (V 7 = 0 → v = 0) := by rw [← hv]; split <;> constructor <;> (try intro) <;> omega
  obtain ⟨e, e4, e5, e6, e7⟩ := setV4 V x y u v
  generalize setV (setV (setV (setV V 4 x) 5 y) 6 u) 7 v = W at e e4 e5 e6 e7
  have w0 := e 0 (by decide) (by decide) (by decide) (by decide)
  have w1 := e 1 (by decide) (by decide) (by decide) (by decide)
  have w2 := e 2 (by decide) (by decide) (by decide) (by decide)
  have w3 := e 3 (by decide) (by decide) (by decide) (by decide)
  have w8 := e 8 (by decide) (by decide) (by decide) (by decide)
  have w9 := e 9 (by decide) (by decide) (by decide) (by decide)
  have wa := e 10 (by decide) (by decide) (by decide) (by decide)
  have wb := e 11 (by decide) (by decide) (by decide) (by decide)
  exact ⟨by rw [w0]; exact a0, by rw [w1, w2, w3]; exact a1, by rw [e4]; exact c1, by rw [e5]; exact c2, by rw [e6]; exact bu.1, by rw [e7]; exact bv.1, by rw [w8]; exact a6, by rw [w9]; exact a7, by rw [wa]; exact a8, by rw [wb]; exact a9, by rw [w8, wb]; exact b0, by rw [w8, wb, e6, e7]; rcases b1 with q | q; exact .inl q; exact .inr ⟨bu.2 q.1, bv.2 q.2⟩⟩
theorem go_ok {V : Nat → Int} (h : BOk V) : BOk (goV V) := by
  unfold goV
  cases hl : liveV V with
  | false => exact h
  | true =>
    unfold liveV at hl
    simp only [Bool.and_eq_true, decide_eq_true_eq, Bool.not_eq_true', decide_eq_false_iff_not] at hl
    exact move_ok _ _ h (by omega)
theorem quiet_ok {V : Nat → Int} (r : Int) (h : BOk V) (hr : 0 ≤ r ∧ r ≤ 8) : BOk (quietV r V) := by
  unfold quietV
  cases hl : (decide (V 8 = 0) || decide (8 ≤ V 11)) with
  | true => exact h
  | false =>
    simp only [Bool.or_eq_false_iff, decide_eq_false_iff_not] at hl
    obtain ⟨z, hz⟩ : ∃ z, (bif decide (-8 ≤ spX V ∧ spX V ≤ 8) && decide (-8 ≤ spY V ∧ spY V ≤ 8) then mn (r + 1) 7 else 0) = z := ⟨_, rfl⟩
    rw [hz]
    have bz : 0 ≤ z ∧ z ≤ 7 := by
      rw [← hz]
      cases (decide (-8 ≤ spX V ∧ spX V ≤ 8) && decide (-8 ≤ spY V ∧ spY V ≤ 8))
      · exact ⟨by show (0 : Int) ≤ 0; omega, by show (0 : Int) ≤ 7; omega⟩
      · show 0 ≤ mn (r + 1) 7 ∧ mn (r + 1) 7 ≤ 7
        unfold mn
        split <;> omega
    show BOk (setV V 11 z)
    obtain ⟨a0, a1, a2, a3, a4, a5, a6, a7, a8, a9, b0, b1⟩ := h
    constructor <;> simp only [setV, reduceIte] <;> (first | assumption | omega | (simp; assumption) | (simp; omega))
theorem push_ok {V : Nat → Int} (p q : Int) (h : BOk V) : BOk (pushV V p q) := by
  unfold pushV
  by_cases m : V 8 = 0
  · rw [if_pos m]; exact h
  · rw [if_neg m]
    have c1 := clampZ_in 20000000 (V 6 + p) (by omega)
    have c2 := clampZ_in 20000000 (V 7 + q) (by omega)
    generalize clampZ 20000000 (V 6 + p) = x at c1
    generalize clampZ 20000000 (V 7 + q) = y at c2
    obtain ⟨a0, a1, a2, a3, a4, a5, a6, a7, a8, a9, b0, b1⟩ := h
    obtain ⟨e, e6, e7, eb⟩ := setV3 V x y 0
    generalize setV (setV (setV V 6 x) 7 y) 11 0 = W at e e6 e7 eb
    have w0 := e 0 (by decide) (by decide) (by decide)
    have w1 := e 1 (by decide) (by decide) (by decide)
    have w2 := e 2 (by decide) (by decide) (by decide)
    have w3 := e 3 (by decide) (by decide) (by decide)
    have w4 := e 4 (by decide) (by decide) (by decide)
    have w5 := e 5 (by decide) (by decide) (by decide)
    have w8 := e 8 (by decide) (by decide) (by decide)
    have w9 := e 9 (by decide) (by decide) (by decide)
    have wa := e 10 (by decide) (by decide) (by decide)
    exact ⟨by rw [w0]; exact a0, by rw [w1, w2, w3]; exact a1, by rw [w4]; exact a2, by rw [w5]; exact a3, by rw [e6]; exact c1, by rw [e7]; exact c2, by rw [w8]; exact a6, by rw [w9]; exact a7, by rw [wa]; exact a8, by rw [eb]; omega, by rw [eb]; exact fun _ => rfl, .inl ⟨by rw [w8]; exact m, by rw [eb]; decide⟩⟩
/-- one row replaced by a body with the same number -/
theorem Bods.put {n : Nat} {U : Nat → Int} {k : Nat} {V : Nat → Int} (h : Bods n U) (hk : k < n) (hV : BOk V) (h0 : V 0 = U (k * 12)) : Bods n (putRow U k V) := by
  have at_ : ∀ i j, i ≠ k → j < 12 → putRow U k V (i * 12 + j) = U (i * 12 + j) := fun i j hi hj => by unfold putRow; rw [if_neg (by omega)]
  have at0 : ∀ i, putRow U k V (i * 12) = U (i * 12) := fun i => by
    by_cases e : i = k
    · subst e; unfold putRow; rw [if_pos (by omega), Nat.sub_self]; exact h0
    · have := at_ i 0 e (by omega); simpa using this
  refine ⟨h.le, fun i hi => ?_, fun i hi => ?_⟩
  · by_cases e : i = k
    · subst e
      rw [bodyB_cong (W := V) (fun j hj => by unfold putRow; rw [if_pos (by omega), Nat.add_sub_cancel_left])]
      exact hV.to
    · rw [bodyB_cong (W := fun j => U (i * 12 + j)) (fun j hj => at_ i j e hj)]
      exact h.ok i hi
  · rw [at0, at0]; exact h.asc i hi
theorem Bods.row {n : Nat} {U : Nat → Int} (h : Bods n U) {k : Nat} (hk : k < n) : BOk (fun j => U (k * 12 + j)) := BOk.of (h.ok k hk)
theorem Bods.pull {n : Nat} {U : Nat → Int} (h : Bods n U) (g : Int) : Bods n (mapR (fun _ V => pullV g V) U n) :=
  h.map (fun k hk => (pull_ok g (h.row hk)).to) (fun k hk => by show pullV g (fun j => U (k * 12 + j)) 0 = _; unfold pullV; cases liveV (fun j => U (k * 12 + j)) <;> rfl)
theorem Bods.go {n : Nat} {U : Nat → Int} (h : Bods n U) : Bods n (mapR (fun _ V => goV V) U n) :=
  h.map (fun k hk => (go_ok (h.row hk)).to) (fun k hk => by show goV (fun j => U (k * 12 + j)) 0 = _; unfold goV; cases liveV (fun j => U (k * 12 + j)) <;> rfl)
theorem Bods.quiet {n : Nat} {U U2 : Nat → Int} (h : Bods n U) (h2 : Bods n U2) : Bods n (mapR (fun i V => quietV (U2 (i * 12 + 11)) V) U n) :=
  h.map (fun k hk => (quiet_ok _ (h.row hk) (h2.row hk).q11).to) (fun k hk => by show quietV _ (fun j => U (k * 12 + j)) 0 = _; unfold quietV; cases (decide ((fun j => U (k * 12 + j)) 8 = 0) || decide (8 ≤ (fun j => U (k * 12 + j)) 11)) <;> rfl)
end Go.Proofs.Ytejminehbnebmaa
namespace Go.Proofs.Ytejminehbnebmaa
open Go.RowKit
set_option linter.unusedVariables false
set_option linter.unusedSimpArgs false
theorem moveV_0 (V : Nat → Int) (p q : Int) : moveV V p q 0 = V 0 := rfl
theorem moveV_8 (V : Nat → Int) (p q : Int) : moveV V p q 8 = V 8 := rfl
theorem putRow_8 {U V : Nat → Int} {k i : Nat} (h : V 8 = U (k * 12 + 8)) : putRow U k V (i * 12 + 8) = U (i * 12 + 8) := by
  unfold putRow
  by_cases e : i = k
  · subst e; rw [if_pos (by omega), Nat.add_sub_cancel_left]; exact h
  · rw [if_neg (by omega)]
theorem putRow_else {U V : Nat → Int} {k i j : Nat} (e : i ≠ k) (hj : j < 12) : putRow U k V (i * 12 + j) = U (i * 12 + j) := by unfold putRow; rw [if_neg (by omega)]
theorem Bods.apart {n : Nat} {U : Nat → Int} (h : Bods n U) {A B : Nat} (hA : A < n) (hB : B < n) (hAB : A ≠ B) (X Y D : Int) : Bods n (apartU U A B X Y D) ∧ ∀ i, apartU U A B X Y D (i * 12 + 8) = U (i * 12 + 8) := by
  unfold apartU
  cases decide (0 < (D - 64).tdiv 4) with
  | false => exact ⟨h, fun i => rfl⟩
  | true =>
    simp only [cond_true]
    generalize (-X * shareV (fun j => U (A * 12 + j)) (fun j => U (B * 12 + j)) ((D - 64).tdiv 4)).tdiv 256 = p
    generalize (-Y * shareV (fun j => U (A * 12 + j)) (fun j => U (B * 12 + j)) ((D - 64).tdiv 4)).tdiv 256 = q
    generalize (X * shareV (fun j => U (B * 12 + j)) (fun j => U (A * 12 + j)) ((D - 64).tdiv 4)).tdiv 256 = r
    generalize (Y * shareV (fun j => U (B * 12 + j)) (fun j => U (A * 12 + j)) ((D - 64).tdiv 4)).tdiv 256 = s
    have key : ∀ U1 : Nat → Int, Bods n U1 → (∀ i, U1 (i * 12 + 8) = U (i * 12 + 8)) → (U1 (B * 12) = U (B * 12)) → Bods n (bif decide (0 < U (B * 12 + 8)) then putRow U1 B (moveV (fun j => U (B * 12 + j)) r s) else U1) ∧ ∀ i, (bif decide (0 < U (B * 12 + 8)) then putRow U1 B (moveV (fun j => U (B * 12 + j)) r s) else U1) (i * 12 + 8) = U (i * 12 + 8) := by
      intro U1 h1 h8 h0
      by_cases m : 0 < U (B * 12 + 8)
      · rw [decide_eq_true m]
        exact ⟨h1.put hB (move_ok r s (h.row hB) (by show U (B * 12 + 8) ≠ 0; omega)) (by rw [moveV_0, h0]; rfl), fun i => (putRow_8 (by rw [moveV_8, h8])).trans (h8 i)⟩
      · rw [decide_eq_false m]; exact ⟨h1, h8⟩
    by_cases m : 0 < U (A * 12 + 8)
    · rw [decide_eq_true m]
      refine key _ (h.put hA (move_ok p q (h.row hA) (by show U (A * 12 + 8) ≠ 0; omega)) (by rw [moveV_0]; rfl)) (fun i => putRow_8 (by rw [moveV_8])) ?_
      have := putRow_else (U := U) (V := moveV (fun j => U (A * 12 + j)) p q) (k := A) (i := B) (j := 0) (fun e => hAB e.symm) (by omega)
      simpa using this
    · rw [decide_eq_false m]; exact key U h (fun i => rfl) rfl
def apartN (C U : Nat → Int) : Nat → Nat → Int
  | 0 => U
  | k + 1 => apartU (apartN C U k) (C (k * 5)).toNat (C (k * 5 + 1)).toNat (C (k * 5 + 2)) (C (k * 5 + 3)) (C (k * 5 + 4))
/-- contacts that are ok: places of bodies, two different ones; the hit within limits -/
structure CtOk (n m : Nat) (C : Nat → Int) : Prop where
  a : ∀ k, k < m → 0 ≤ C (k * 5) ∧ C (k * 5) < (n : Int)
  b : ∀ k, k < m → 0 ≤ C (k * 5 + 1) ∧ C (k * 5 + 1) < (n : Int)
  ne : ∀ k, k < m → C (k * 5) ≠ C (k * 5 + 1)
  x : ∀ k, k < m → -256 ≤ C (k * 5 + 2) ∧ C (k * 5 + 2) ≤ 256
  y : ∀ k, k < m → -256 ≤ C (k * 5 + 3) ∧ C (k * 5 + 3) ≤ 256
  d : ∀ k, k < m → 0 ≤ C (k * 5 + 4) ∧ C (k * 5 + 4) ≤ 102400
theorem Bods.aparts {n m : Nat} {U C : Nat → Int} (h : Bods n U) (hC : CtOk n m C) : ∀ k, k ≤ m → Bods n (apartN C U k) ∧ ∀ i, apartN C U k (i * 12 + 8) = U (i * 12 + 8)
  | 0, _ => ⟨h, fun i => rfl⟩
  | k + 1, hk => by
    obtain ⟨h1, h2⟩ := Bods.aparts h hC k (by omega)
    have ha := hC.a k (by omega)
    have hb := hC.b k (by omega)
    have hn := hC.ne k (by omega)
    obtain ⟨q1, q2⟩ := h1.apart (A := (C (k * 5)).toNat) (B := (C (k * 5 + 1)).toNat) (by omega) (by omega) (by omega) (C (k * 5 + 2)) (C (k * 5 + 3)) (C (k * 5 + 4))
    exact ⟨q1, fun i => (q2 i).trans (h2 i)⟩
end Go.Proofs.Ytejminehbnebmaa
namespace Go.Proofs.Ytejminehbnebmaa
open Go.RowKit
set_option linter.unusedVariables false
set_option linter.unusedSimpArgs false

theorem col_put {U V : Nat → Int} {k i j : Nat} (hi : i < 12) : colOf (putRow U k V) i j = if j = k then V i else colOf U i j := by
  unfold colOf putRow
  by_cases e : j = k
  · subst e; rw [if_pos (by omega), if_pos rfl, Nat.add_sub_cancel_left]
  · rw [if_neg (by omega), if_neg e]
theorem putRow_self (U : Nat → Int) (k : Nat) : putRow U k (fun j => U (k * 12 + j)) = U := by
  funext q
  unfold putRow
  by_cases e : k * 12 ≤ q ∧ q < k * 12 + 12
  · rw [if_pos e]; exact congrArg U (by omega)
  · rw [if_neg e]
theorem shareV_congr {V W V' W' : Nat → Int} (m : Int) (h1 : V 8 = V' 8) (h2 : W 8 = W' 8) : shareV V W m = shareV V' W' m := by unfold shareV; rw [h1, h2]
theorem moveV_zero {V : Nat → Int} (a4 : -2560000 ≤ V 4 ∧ V 4 ≤ 2560000) (a5 : -2560000 ≤ V 5 ∧ V 5 ≤ 2560000) : moveV V 0 0 = V := by
  have e4 : clampZ 2560000 (V 4 + 0) = V 4 := by unfold clampZ; repeat' split
                                                 all_goals omega
  have e5 : clampZ 2560000 (V 5 + 0) = V 5 := by unfold clampZ; repeat' split
                                                 all_goals omega
  unfold moveV mvX mvY
  rw [e4, e5, if_pos (by omega), if_pos (by omega)]
  funext j
  unfold setV
  repeat' split
  all_goals (first | rfl | (subst_vars; rfl))
theorem row_else {U V : Nat → Int} {k l : Nat} (h : l ≠ k) : ∀ j, j < 12 → putRow U k V (l * 12 + j) = U (l * 12 + j) := fun j hj => putRow_else h hj
theorem row_is {U V : Nat → Int} {k : Nat} : ∀ j, j < 12 → putRow U k V (k * 12 + j) = V j := fun j hj => by unfold putRow; rw [if_pos (by omega), Nat.add_sub_cancel_left]
theorem putRow_congr {U V W : Nat → Int} {k : Nat} (h : ∀ j, j < 12 → V j = W j) : putRow U k V = putRow U k W := by
  funext q
  unfold putRow
  by_cases e : k * 12 ≤ q ∧ q < k * 12 + 12
  · rw [if_pos e, if_pos e]; exact h _ (by omega)
  · rw [if_neg e, if_neg e]
theorem moveV_congr {V W : Nat → Int} (p q : Int) (h : ∀ j, j < 12 → V j = W j) : ∀ j, j < 12 → moveV V p q j = moveV W p q j := fun j hj => by
  unfold moveV mvX mvY setV
  rw [h 4 (by omega), h 5 (by omega), h 6 (by omega), h 7 (by omega), h j hj]
/-- one behind the other, they are moved apart -/
theorem apart_two {U : Nat → Int} {A B : Nat} {x y d p q r s : Int} (hAB : A ≠ B) (hA : BOk (fun j => U (A * 12 + j))) (hB : BOk (fun j => U (B * 12 + j))) (hm : 0 < (d - 64).tdiv 4)
    (ep : (-x * shareV (fun j => U (A * 12 + j)) (fun j => U (B * 12 + j)) ((d - 64).tdiv 4)).tdiv 256 = p) (eq : (-y * shareV (fun j => U (A * 12 + j)) (fun j => U (B * 12 + j)) ((d - 64).tdiv 4)).tdiv 256 = q)
    (er : (x * shareV (fun j => U (B * 12 + j)) (fun j => U (A * 12 + j)) ((d - 64).tdiv 4)).tdiv 256 = r) (es : (y * shareV (fun j => U (B * 12 + j)) (fun j => U (A * 12 + j)) ((d - 64).tdiv 4)).tdiv 256 = s) :
    putRow (putRow U A (moveV (fun j => U (A * 12 + j)) p q)) B (moveV (fun j => putRow U A (moveV (fun j => U (A * 12 + j)) p q) (B * 12 + j)) r s) = apartU U A B x y d := by
  have e1 : putRow U A (moveV (fun j => U (A * 12 + j)) p q) = bif decide (0 < U (A * 12 + 8)) then putRow U A (moveV (fun j => U (A * 12 + j)) p q) else U := by
    by_cases z : 0 < U (A * 12 + 8)
    · rw [decide_eq_true z, cond_true]
    · rw [decide_eq_false z, cond_false]
      have z8 : U (A * 12 + 8) = 0 := by have := hA.m8; omega
      have s0 : shareV (fun j => U (A * 12 + j)) (fun j => U (B * 12 + j)) ((d - 64).tdiv 4) = 0 := by unfold shareV; rw [show decide (U (A * 12 + 8) = 0) = true from decide_eq_true z8]; rfl
      rw [s0, Int.mul_zero] at ep eq
      have p0 : p = 0 := ep.symm
      have q0 : q = 0 := eq.symm
      rw [p0, q0, moveV_zero hA.a4 hA.a5, putRow_self]
  have e2 : ∀ U1 : Nat → Int, (∀ j, j < 12 → U1 (B * 12 + j) = U (B * 12 + j)) → putRow U1 B (moveV (fun j => U1 (B * 12 + j)) r s) = bif decide (0 < U (B * 12 + 8)) then putRow U1 B (moveV (fun j => U (B * 12 + j)) r s) else U1 := by
    intro U1 h1
    by_cases z : 0 < U (B * 12 + 8)
    · rw [decide_eq_true z, cond_true]
      exact putRow_congr (moveV_congr r s h1)
    · rw [decide_eq_false z, cond_false]
      have z8 : U (B * 12 + 8) = 0 := by have := hB.m8; omega
      have s0 : shareV (fun j => U (B * 12 + j)) (fun j => U (A * 12 + j)) ((d - 64).tdiv 4) = 0 := by unfold shareV; rw [show decide (U (B * 12 + 8) = 0) = true from decide_eq_true z8]; rfl
      rw [s0, Int.mul_zero] at er es
      have r0 : r = 0 := er.symm
      have s0 : s = 0 := es.symm
      have a4 := hB.a4
      have a5 := hB.a5
      rw [r0, s0, moveV_zero (V := fun j => U1 (B * 12 + j)) (by rw [h1 4 (by omega)]; exact a4) (by rw [h1 5 (by omega)]; exact a5), putRow_self]
  rw [e2 _ (row_else (fun e => hAB e.symm)), e1]
  unfold apartU
  rw [decide_eq_true hm, ep, eq, er, es]
  rfl
end Go.Proofs.Ytejminehbnebmaa
namespace Go.Proofs.Ytejminehbnebmaa
open Go.RowKit
set_option linter.unusedVariables false
set_option linter.unusedSimpArgs false

set_option maxHeartbeats 4000000 in
theorem kSetAt {cb n k : Nat} {C : Nat → Nat → Int} {S : Nat → Value} {w : World} (h : Cs w cb n C S) (hk : k < n) (hn : n ≤ 1048576) (x y : Int) :
    Calls Try.prog 73 #[hdk cb k, vv x y] w fun e w' => e = .returned (.tuple #[]) ∧ Cs w' cb n (setC (setC C 4 k x) 5 k y) S ∧ Fr (Xc S) w w' := by
  have hset := cset_map
  have l1 := h.lt
  have hkn : (k : Int) < (n : Int) := by omega
  obtain ⟨g4, c4, e4, hc4, hv4, hf4, l4g, lc4⟩ := h.at (i := 4) (by omega) hk
  obtain ⟨g5, c5, e5, hc5, hv5, hf5, l5g, lc5⟩ := h.at (i := 5) (by omega) hk
  have ne : g4 ≠ g5 := fun q => h.dis 4 5 (by omega) (by omega) (by omega) g4 (by rw [e4]; rfl) (by rw [e5, q]; rfl)
  go_enter Try.func73, Try.ntmps73
  go_upto_region 1 with fail
  refine wp_region_held_drew (S := fun w' => w'.cell? ⟨w.heap.size, 0, none⟩ = some (.int .i64 (k : Int)) ∧ w'.cell? ⟨w.heap.size, 1, none⟩ = some (.pointer (some ⟨cb, 0, none⟩)) ∧ w'.cell? ⟨cb, 4, none⟩ = some (.slice (some ⟨g4, 0, none⟩) n c4) ∧ w'.cell? ⟨cb, 5, none⟩ = some (.slice (some ⟨g5, 0, none⟩) n c5) ∧ w'.cell? ⟨w.heap.size + 1, 0, none⟩ = some (.int .i64 x) ∧ w'.cell? ⟨w.heap.size + 1, 1, none⟩ = some (.int .i64 y)) (by kernel_rfl) ?_ (fun hHeld => ?_)
  · (try dsimp only)
    (first | (go_simp; done) | (go_keep; done))
  refine tq 0 hHeld ?_
  refine tq 1 hHeld ?_
  refine tq 2 hHeld ?_
  refine tq 3 hHeld ?_
  refine tq 4 hHeld ?_
  refine tq 5 hHeld ?_
  refine tq 6 hHeld ?_
  refine tq 7 hHeld ?_
  refine tq 8 hHeld ?_
  refine tq 9 hHeld ?_
  refine tq 10 hHeld ?_
  refine tq 11 hHeld ?_
  refine tq 12 hHeld ?_
  refine tq 13 hHeld ?_
  refine tq 14 hHeld ?_
  refine tq 15 hHeld ?_
  refine tq 16 hHeld ?_
  refine tq 17 hHeld ?_
  refine tq 18 hHeld ?_
  (refine tc 19 fun K hK => ?_; go_simp; refine tr hK (fun hHeld => ?_); clear hK K)
  refine tq 20 hHeld ?_
  (refine tc 21 fun K hK => ?_; go_simp; refine tr hK (fun hHeld => ?_); clear hK K)
  refine wpAnyH_done (by kernel_rfl) ?_ _
  go_wp2_with fail
  go_end0
  have hE : Below ((w.setCell ⟨g4, k, none⟩ (.int .i64 x)).setCell ⟨g5, k, none⟩ (.int .i64 y)).heap.size ((w.setCell ⟨g4, k, none⟩ (.int .i64 x)).setCell ⟨g5, k, none⟩ (.int .i64 y)) ((((w.setCell ⟨g4, k, none⟩ (.int .i64 x)).setCell ⟨g5, k, none⟩ (.int .i64 y)).alloc (Obj.cells #[.int .i64 (k : Int), .pointer (some ⟨cb, 0, none⟩)] 86)).alloc (Obj.cells #[.int .i64 x, .int .i64 y] 81)).drew := bel_a
  exact ⟨rfl, ((h.set (i := 4) (by omega) hk e4 x).set (i := 5) (by omega) hk e5 y).below hE, (((Fr.refl (Xc S) w).trans (Fr.setCell (X := Xc S) (p := ⟨g4, k, none⟩) ⟨4, by omega, by rw [e4]; rfl⟩ (.int .i64 x))).trans (Fr.setCell (X := Xc S) (p := ⟨g5, k, none⟩) ⟨5, by omega, by rw [e5]; rfl⟩ (.int .i64 y))).trans (Fr.of_below hE)⟩
end Go.Proofs.Ytejminehbnebmaa
