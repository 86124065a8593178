/- All that is awake moves, by the specification. Two bodies are moved apart, by the specification. For how many steps each body was quiet, by the specification. Each part of a step keeps bodies ok: plain mathematics. Bodies moved apart stay ok; all contacts, one behind the other. Contacts that the specification finds are ok: places of two different bodies, a way within One, a depth within limits. Numbers of bodies that touch, by the specification. Numbers of bodies that touch: both sides. Worlds: the law's own functions on pairs and worlds. Pairs: marked, held. The walk of the exact law of StepPairs. Lemmas on whatever program: from the head of its cut's word to the closed facts. Closed facts of the loaded program, each a theorem of its own. Slices of things that are numbers alone, as they come in. -/
import Derived.Test.YthfodocnehahcaaGreatDoorB9
import Derived.Deep.RegionHeld3
import Derived.Deep.DeepCutAuto
import Derived.Test.YthfodocnehahcaaGreatDoorB6
import Derived.Test.YthfodocnehahcaaGreatDoorB5
import Derived.Test.YthfodocnehahcaaGreatDoorB2
import Derived.Test.YthfodocnehahcaaGreatDoorRows
import Derived.WalkKit
import Derived.JoinedOf
import Derived.ProofKit
import Derived.Test.YthfodocnehahcaaGreatDoorB1
import Derived.Deep.Slices
import Derived.ChangeSame
import Derived.ChangeArms
namespace Go.Proofs.YthfodocnehahcaaGreatDoor
open Go.RowKit
set_option linter.unusedVariables false
set_option linter.unusedSimpArgs false
theorem sp_bd {V : Nat → Int} (b6 : -20000000 ≤ V 6 ∧ V 6 ≤ 20000000) (b7 : -20000000 ≤ V 7 ∧ V 7 ≤ 20000000) : (-20000000 ≤ spX V ∧ spX V ≤ 20000000) ∧ (-20000000 ≤ spY V ∧ spY V ≤ 20000000) := by
  have t6 := tdiv_bd (x := V 6) (B := 20000000) (V 8) (by omega)
  have t7 := tdiv_bd (x := V 7) (B := 20000000) (V 8) (by omega)
  unfold spX spY
  by_cases m : V 8 = 0
  · rw [if_pos m, if_pos m]; omega
  · rw [if_neg m, if_neg m]; omega
def goV (V : Nat → Int) : Nat → Int := bif liveV V then moveV V (spX V) (spY V) else V
end Go.Proofs.YthfodocnehahcaaGreatDoor
namespace Go.Proofs.YthfodocnehahcaaGreatDoor
open Go.RowKit
set_option linter.unusedVariables false
set_option linter.unusedSimpArgs false
structure Hide (p : Prop) : Prop where
  out : p
theorem tdiv_le {x B m : Int} (hm : 0 < m) (hB : 0 ≤ B) (h : -(B * m) ≤ x ∧ x ≤ B * m) : -B ≤ x.tdiv m ∧ x.tdiv m ≤ B := by
  by_cases h0 : 0 ≤ x
  · rw [Int.tdiv_eq_ediv_of_nonneg h0]
    have q1 := Int.ediv_nonneg h0 (Int.le_of_lt hm)
    exact ⟨by omega, Int.ediv_le_of_le_mul hm h.2⟩
  · have e : x.tdiv m = -((-x) / m) := by rw [← Int.tdiv_eq_ediv_of_nonneg (show 0 ≤ -x by omega), Int.neg_tdiv, Int.neg_neg]
    rw [e]
    have q1 := Int.ediv_nonneg (show 0 ≤ -x by omega) (Int.le_of_lt hm)
    have q2 := Int.ediv_le_of_le_mul hm (show -x ≤ B * m by omega)
    omega
/-- what a body takes of a way apart -/
def shareV (V W : Nat → Int) (n : Int) : Int := bif decide (V 8 = 0) then 0 else bif decide (W 8 = 0) then n else (n * W 8).tdiv (V 8 + W 8)
theorem share_bd {V W : Nat → Int} {n : Int} (h0 : 0 ≤ V 8) (h1 : 0 ≤ W 8) (hn : 0 ≤ n) : 0 ≤ shareV V W n ∧ shareV V W n ≤ n := by
  unfold shareV
  by_cases m0 : V 8 = 0
  · rw [decide_eq_true m0]; exact ⟨Int.le_refl _, hn⟩
  · rw [decide_eq_false m0]
    by_cases m1 : W 8 = 0
    · rw [decide_eq_true m1]; exact ⟨hn, Int.le_refl _⟩
    · rw [decide_eq_false m1]
      show 0 ≤ (n * W 8).tdiv (V 8 + W 8) ∧ (n * W 8).tdiv (V 8 + W 8) ≤ n
      have p0 : 0 ≤ n * W 8 := Int.mul_nonneg hn h1
      rw [Int.tdiv_eq_ediv_of_nonneg p0]
      refine ⟨Int.ediv_nonneg p0 (by omega), ?_⟩
      refine Int.ediv_le_of_le_mul (by omega) ?_
      exact Int.mul_le_mul_of_nonneg_left (by omega) hn
/-- two bodies of a list moved apart -/
def apartU (U : Nat → Int) (A B : Nat) (X Y D : Int) : Nat → Int :=
  bif decide (0 < (D - 64).tdiv 4) then
    (let U1 := bif decide (0 < U (A * 12 + 8)) then putRow U A (moveV (fun j => U (A * 12 + j)) ((-X * shareV (fun j => U (A * 12 + j)) (fun j => U (B * 12 + j)) ((D - 64).tdiv 4)).tdiv 256) ((-Y * shareV (fun j => U (A * 12 + j)) (fun j => U (B * 12 + j)) ((D - 64).tdiv 4)).tdiv 256)) else U
     bif decide (0 < U (B * 12 + 8)) then putRow U1 B (moveV (fun j => U (B * 12 + j)) ((X * shareV (fun j => U (B * 12 + j)) (fun j => U (A * 12 + j)) ((D - 64).tdiv 4)).tdiv 256) ((Y * shareV (fun j => U (B * 12 + j)) (fun j => U (A * 12 + j)) ((D - 64).tdiv 4)).tdiv 256)) else U1)
  else U
structure Ap8 (w wc : World) (A B : Nat) (X Y D : Int) (ba bb : Nat) (VA VB : Nat → Int) : Prop where
  k0 : wc.cell? ⟨w.heap.size, 0, none⟩ = some (.int .i64 (A : Int))
  k1 : wc.cell? ⟨w.heap.size, 1, none⟩ = some (.int .i64 (B : Int))
  k2 : wc.cell? ⟨w.heap.size, 2, none⟩ = some (.int .i64 X)
  k3 : wc.cell? ⟨w.heap.size, 3, none⟩ = some (.int .i64 Y)
  k4 : wc.cell? ⟨w.heap.size, 4, none⟩ = some (.int .i64 D)
  ca : ∀ j, j < 12 → wc.cell? ⟨ba, j, none⟩ = some (.int .i64 (VA j))
  cb : ∀ j, j < 12 → wc.cell? ⟨bb, j, none⟩ = some (.int .i64 (VB j))
  l0 : w.heap.size < wc.heap.size
  la : ba < wc.heap.size
  lb : bb < wc.heap.size
  ga : w.heap.size < ba
  gb : w.heap.size < bb
theorem Ap8.on {w wc w' : World} {A B : Nat} {X Y D : Int} {ba bb : Nat} {VA VB : Nat → Int} (h : Ap8 w wc A B X Y D ba bb VA VB) (hb : Below wc.heap.size wc w') : Ap8 w w' A B X Y D ba bb VA VB :=
  have k := fun j => hb.cell (p := ⟨w.heap.size, j, none⟩) h.l0
  ⟨(k 0).trans h.k0, (k 1).trans h.k1, (k 2).trans h.k2, (k 3).trans h.k3, (k 4).trans h.k4, fun j hj => (hb.cell (p := ⟨ba, j, none⟩) h.la).trans (h.ca j hj), fun j hj => (hb.cell (p := ⟨bb, j, none⟩) h.lb).trans (h.cb j hj), Nat.lt_of_lt_of_le h.l0 hb.size, Nat.lt_of_lt_of_le h.la hb.size, Nat.lt_of_lt_of_le h.lb hb.size, h.ga, h.gb⟩
theorem Ap8.fr {w wc w' : World} {A B g : Nat} {X Y D : Int} {ba bb : Nat} {VA VB : Nat → Int} (h : Ap8 w wc A B X Y D ba bb VA VB) (hs : Fr (fun b => b = g) wc w') (hg : g < w.heap.size) : Ap8 w w' A B X Y D ba bb VA VB := by
  have ga := h.ga
  have gb := h.gb
  have k := fun j => hs.cell (p := ⟨w.heap.size, j, none⟩) h.l0 (by simp; omega)
  exact ⟨(k 0).trans h.k0, (k 1).trans h.k1, (k 2).trans h.k2, (k 3).trans h.k3, (k 4).trans h.k4, fun j hj => (hs.cell (p := ⟨ba, j, none⟩) h.la (by simp; omega)).trans (h.ca j hj), fun j hj => (hs.cell (p := ⟨bb, j, none⟩) h.lb (by simp; omega)).trans (h.cb j hj), Nat.lt_of_lt_of_le h.l0 hs.size, Nat.lt_of_lt_of_le h.la hs.size, Nat.lt_of_lt_of_le h.lb hs.size, h.ga, h.gb⟩
end Go.Proofs.YthfodocnehahcaaGreatDoor
namespace Go.Proofs.YthfodocnehahcaaGreatDoor
open Go.RowKit
set_option linter.unusedVariables false
set_option linter.unusedSimpArgs false
/-- a body's count of quiet steps: V now, r what it was -/
def quietV (r : Int) (V : Nat → Int) : Nat → Int := bif decide (V 8 = 0) || decide (8 ≤ V 11) then V else setV V 11 (bif decide (-8 ≤ spX V ∧ spX V ≤ 8) && decide (-8 ≤ spY V ∧ spY V ≤ 8) then mn (r + 1) 7 else 0)
end Go.Proofs.YthfodocnehahcaaGreatDoor
namespace Go.Proofs.YthfodocnehahcaaGreatDoor
open Go.RowKit
set_option linter.unusedVariables false
set_option linter.unusedSimpArgs false
/-- a body that is ok, said plainly -/
structure BOk (V : Nat → Int) : Prop where
  i0 : 0 ≤ V 0 ∧ V 0 ≤ 999999999
  sh : shB (V 1) (V 2) (V 3) = true
  a4 : -2560000 ≤ V 4 ∧ V 4 ≤ 2560000
  a5 : -2560000 ≤ V 5 ∧ V 5 ≤ 2560000
  d6 : -20000000 ≤ V 6 ∧ V 6 ≤ 20000000
  d7 : -20000000 ≤ V 7 ∧ V 7 ≤ 20000000
  m8 : 0 ≤ V 8 ∧ V 8 ≤ 1000
  b9 : 0 ≤ V 9 ∧ V 9 ≤ 256
  r10 : 0 ≤ V 10 ∧ V 10 ≤ 256
  q11 : 0 ≤ V 11 ∧ V 11 ≤ 8
  fx : V 8 = 0 → V 11 = 0
  rs : (V 8 ≠ 0 ∧ V 11 ≠ 8) ∨ (V 6 = 0 ∧ V 7 = 0)
theorem BOk.of {V : Nat → Int} (h : bodyB V = true) : BOk V := by
  unfold bodyB restB inB at h
  simp only [Bool.and_eq_true, decide_eq_true_eq] at h
  obtain ⟨a0, a1, a2, a3, a4, a5, a6, a7, a8, a9⟩ := h
  exact ⟨a0, a1, by omega, by omega, by omega, by omega, a4, a5, a6, a7, a8, a9⟩
theorem BOk.to {V : Nat → Int} (h : BOk V) : bodyB V = true := by
  obtain ⟨a0, a1, a2, a3, a4, a5, a6, a7, a8, a9, b0, b1⟩ := h
  unfold bodyB restB inB
  simp only [Bool.and_eq_true, decide_eq_true_eq]
  exact ⟨a0, a1, by omega, by omega, a6, a7, a8, a9, b0, b1⟩
theorem clampZ_in (l n : Int) (h : 0 ≤ l) : -l ≤ clampZ l n ∧ clampZ l n ≤ l := by unfold clampZ; repeat (first | omega | split)
theorem setV_ne {V : Nat → Int} {k j : Nat} {a : Int} (h : j ≠ k) : setV V k a j = V j := by unfold setV; rw [if_neg h]
theorem setV_eq {V : Nat → Int} {k : Nat} {a : Int} : setV V k a k = a := by unfold setV; rw [if_pos rfl]
theorem pull_ok {V : Nat → Int} (g : Int) (h : BOk V) : BOk (pullV g V) := by
  unfold pullV
  cases hl : liveV V with
  | false => exact h
  | true =>
    unfold liveV at hl
    simp only [Bool.and_eq_true, decide_eq_true_eq, Bool.not_eq_true', decide_eq_false_iff_not] at hl
    have c := clampZ_in 20000000 (V 7 - g * V 8) (by omega)
    generalize clampZ 20000000 (V 7 - g * V 8) = y at c
    show BOk (setV V 7 y)
    obtain ⟨a0, a1, a2, a3, a4, a5, a6, a7, a8, a9, b0, b1⟩ := h
    constructor <;> simp only [setV, reduceIte] <;> (first | assumption | omega | (simp; assumption) | (simp; omega))
theorem setV4 (V : Nat → Int) (x y u v : Int) : (∀ j, j ≠ 4 → j ≠ 5 → j ≠ 6 → j ≠ 7 → setV (setV (setV (setV V 4 x) 5 y) 6 u) 7 v j = V j) ∧ setV (setV (setV (setV V 4 x) 5 y) 6 u) 7 v 4 = x ∧ setV (setV (setV (setV V 4 x) 5 y) 6 u) 7 v 5 = y ∧ setV (setV (setV (setV V 4 x) 5 y) 6 u) 7 v 6 = u ∧ setV (setV (setV (setV V 4 x) 5 y) 6 u) 7 v 7 = v := by
  refine ⟨fun j h4 h5 h6 h7 => ?_, ?_, ?_, ?_, setV_eq⟩
  · rw [setV_ne h7, setV_ne h6, setV_ne h5, setV_ne h4]
  · rw [setV_ne (by decide), setV_ne (by decide), setV_ne (by decide), setV_eq]
  · rw [setV_ne (by decide), setV_ne (by decide), setV_eq]
  · rw [setV_ne (by decide), setV_eq]
theorem setV3 (V : Nat → Int) (x y u : Int) : (∀ j, j ≠ 6 → j ≠ 7 → j ≠ 11 → setV (setV (setV V 6 x) 7 y) 11 u j = V j) ∧ setV (setV (setV V 6 x) 7 y) 11 u 6 = x ∧ setV (setV (setV V 6 x) 7 y) 11 u 7 = y ∧ setV (setV (setV V 6 x) 7 y) 11 u 11 = u := by
  refine ⟨fun j h6 h7 h11 => ?_, ?_, ?_, setV_eq⟩
  · rw [setV_ne h11, setV_ne h7, setV_ne h6]
  · rw [setV_ne (by decide), setV_ne (by decide), setV_eq]
  · rw [setV_ne (by decide), setV_eq]
theorem move_ok {V : Nat → Int} (p q : Int) (h : BOk V) (hm : V 8 ≠ 0) : BOk (moveV V p q) := by
  have c1 := clampZ_in 2560000 (V 4 + p) (by omega)
  have c2 := clampZ_in 2560000 (V 5 + q) (by omega)
  unfold moveV mvX mvY
  generalize clampZ 2560000 (V 4 + p) = x at c1
  generalize clampZ 2560000 (V 5 + q) = y at c2
  obtain ⟨a0, a1, a2, a3, a4, a5, a6, a7, a8, a9, b0, b1⟩ := h
  obtain ⟨u, hu⟩ : ∃ u, (if x = V 4 + p then V 6 else 0) = u := ⟨_, rfl⟩
  obtain ⟨v, hv⟩ : ∃ v, (if y = V 5 + q then V 7 else 0) = v := ⟨_, rfl⟩
  rw [hu, hv]
  have bu : (-20000000 ≤ u ∧ u ≤ 20000000) ∧ (V 6 = 0 → u = 0) := by rw [← hu]; split <;> constructor <;> (try intro) <;> omega
  have bv : (-20000000 ≤ v ∧ v ≤ 20000000) ∧ (V 7 = 0 → v = 0) := by rw [← hv]; split <;> constructor <;> (try intro) <;> omega
  obtain ⟨e, e4, e5, e6, e7⟩ := setV4 V x y u v
  generalize setV (setV (setV (setV V 4 x) 5 y) 6 u) 7 v = W at e e4 e5 e6 e7
  have w0 := e 0 (by decide) (by decide) (by decide) (by decide)
  have w1 := e 1 (by decide) (by decide) (by decide) (by decide)
  have w2 := e 2 (by decide) (by decide) (by decide) (by decide)
  have w3 := e 3 (by decide) (by decide) (by decide) (by decide)
  have w8 := e 8 (by decide) (by decide) (by decide) (by decide)
  have w9 := e 9 (by decide) (by decide) (by decide) (by decide)
  have wa := e 10 (by decide) (by decide) (by decide) (by decide)
  have wb := e 11 (by decide) (by decide) (by decide) (by decide)
  exact ⟨by rw [w0]; exact a0, by rw [w1, w2, w3]; exact a1, by rw [e4]; exact c1, by rw [e5]; exact c2, by rw [e6]; exact bu.1, by rw [e7]; exact bv.1, by rw [w8]; exact a6, by rw [w9]; exact a7, by rw [wa]; exact a8, by rw [wb]; exact a9, by rw [w8, wb]; exact b0, by rw [w8, wb, e6, e7]; rcases b1 with q | q; exact .inl q; exact .inr ⟨bu.2 q.1, bv.2 q.2⟩⟩
theorem go_ok {V : Nat → Int} (h : BOk V) : BOk (goV V) := by
  unfold goV
  cases hl : liveV V with
  | false => exact h
  | true =>
    unfold liveV at hl
    simp only [Bool.and_eq_true, decide_eq_true_eq, Bool.not_eq_true', decide_eq_false_iff_not] at hl
    exact move_ok _ _ h (by omega)
theorem quiet_ok {V : Nat → Int} (r : Int) (h : BOk V) (hr : 0 ≤ r ∧ r ≤ 8) : BOk (quietV r V) := by
  unfold quietV
  cases hl : (decide (V 8 = 0) || decide (8 ≤ V 11)) with
  | true => exact h
  | false =>
    simp only [Bool.or_eq_false_iff, decide_eq_false_iff_not] at hl
    obtain ⟨z, hz⟩ : ∃ z, (bif decide (-8 ≤ spX V ∧ spX V ≤ 8) && decide (-8 ≤ spY V ∧ spY V ≤ 8) then mn (r + 1) 7 else 0) = z := ⟨_, rfl⟩
    rw [hz]
    have bz : 0 ≤ z ∧ z ≤ 7 := by
      rw [← hz]
      cases (decide (-8 ≤ spX V ∧ spX V ≤ 8) && decide (-8 ≤ spY V ∧ spY V ≤ 8))
      · exact ⟨by show (0 : Int) ≤ 0; omega, by show (0 : Int) ≤ 7; omega⟩
      · show 0 ≤ mn (r + 1) 7 ∧ mn (r + 1) 7 ≤ 7
        unfold mn
        split <;> omega
    show BOk (setV V 11 z)
    obtain ⟨a0, a1, a2, a3, a4, a5, a6, a7, a8, a9, b0, b1⟩ := h
    constructor <;> simp only [setV, reduceIte] <;> (first | assumption | omega | (simp; assumption) | (simp; omega))
theorem push_ok {V : Nat → Int} (p q : Int) (h : BOk V) : BOk (pushV V p q) := by
  unfold pushV
  by_cases m : V 8 = 0
  · rw [if_pos m]; exact h
  · rw [if_neg m]
    have c1 := clampZ_in 20000000 (V 6 + p) (by omega)
    have c2 := clampZ_in 20000000 (V 7 + q) (by omega)
    generalize clampZ 20000000 (V 6 + p) = x at c1
    generalize clampZ 20000000 (V 7 + q) = y at c2
    obtain ⟨a0, a1, a2, a3, a4, a5, a6, a7, a8, a9, b0, b1⟩ := h
    obtain ⟨e, e6, e7, eb⟩ := setV3 V x y 0
    generalize setV (setV (setV V 6 x) 7 y) 11 0 = W at e e6 e7 eb
    have w0 := e 0 (by decide) (by decide) (by decide)
    have w1 := e 1 (by decide) (by decide) (by decide)
    have w2 := e 2 (by decide) (by decide) (by decide)
    have w3 := e 3 (by decide) (by decide) (by decide)
    have w4 := e 4 (by decide) (by decide) (by decide)
    have w5 := e 5 (by decide) (by decide) (by decide)
    have w8 := e 8 (by decide) (by decide) (by decide)
    have w9 := e 9 (by decide) (by decide) (by decide)
    have wa := e 10 (by decide) (by decide) (by decide)
    exact ⟨by rw [w0]; exact a0, by rw [w1, w2, w3]; exact a1, by rw [w4]; exact a2, by rw [w5]; exact a3, by rw [e6]; exact c1, by rw [e7]; exact c2, by rw [w8]; exact a6, by rw [w9]; exact a7, by rw [wa]; exact a8, by rw [eb]; omega, by rw [eb]; exact fun _ => rfl, .inl ⟨by rw [w8]; exact m, by rw [eb]; decide⟩⟩
/-- one row replaced by a body with the same number -/
theorem Bods.put {n : Nat} {U : Nat → Int} {k : Nat} {V : Nat → Int} (h : Bods n U) (hk : k < n) (hV : BOk V) (h0 : V 0 = U (k * 12)) : Bods n (putRow U k V) := by
  have at_ : ∀ i j, i ≠ k → j < 12 → putRow U k V (i * 12 + j) = U (i * 12 + j) := fun i j hi hj => by unfold putRow; rw [if_neg (by omega)]
  have at0 : ∀ i, putRow U k V (i * 12) = U (i * 12) := fun i => by
    by_cases e : i = k
    · subst e; unfold putRow; rw [if_pos (by omega), Nat.sub_self]; exact h0
    · have := at_ i 0 e (by omega); simpa using this
  refine ⟨h.le, fun i hi => ?_, fun i hi => ?_⟩
  · by_cases e : i = k
    · subst e
      rw [bodyB_cong (W := V) (fun j hj => by unfold putRow; rw [if_pos (by omega), Nat.add_sub_cancel_left])]
      exact hV.to
    · rw [bodyB_cong (W := fun j => U (i * 12 + j)) (fun j hj => at_ i j e hj)]
      exact h.ok i hi
  · rw [at0, at0]; exact h.asc i hi
theorem Bods.row {n : Nat} {U : Nat → Int} (h : Bods n U) {k : Nat} (hk : k < n) : BOk (fun j => U (k * 12 + j)) := BOk.of (h.ok k hk)
theorem Bods.pull {n : Nat} {U : Nat → Int} (h : Bods n U) (g : Int) : Bods n (mapR (fun _ V => pullV g V) U n) :=
  h.map (fun k hk => (pull_ok g (h.row hk)).to) (fun k hk => by show pullV g (fun j => U (k * 12 + j)) 0 = _; unfold pullV; cases liveV (fun j => U (k * 12 + j)) <;> rfl)
theorem Bods.go {n : Nat} {U : Nat → Int} (h : Bods n U) : Bods n (mapR (fun _ V => goV V) U n) :=
  h.map (fun k hk => (go_ok (h.row hk)).to) (fun k hk => by show goV (fun j => U (k * 12 + j)) 0 = _; unfold goV; cases liveV (fun j => U (k * 12 + j)) <;> rfl)
theorem Bods.quiet {n : Nat} {U U2 : Nat → Int} (h : Bods n U) (h2 : Bods n U2) : Bods n (mapR (fun i V => quietV (U2 (i * 12 + 11)) V) U n) :=
  h.map (fun k hk => (quiet_ok _ (h.row hk) (h2.row hk).q11).to) (fun k hk => by show quietV _ (fun j => U (k * 12 + j)) 0 = _; unfold quietV; cases (decide ((fun j => U (k * 12 + j)) 8 = 0) || decide (8 ≤ (fun j => U (k * 12 + j)) 11)) <;> rfl)
end Go.Proofs.YthfodocnehahcaaGreatDoor
namespace Go.Proofs.YthfodocnehahcaaGreatDoor
open Go.RowKit
set_option linter.unusedVariables false
set_option linter.unusedSimpArgs false
theorem moveV_0 (V : Nat → Int) (p q : Int) : moveV V p q 0 = V 0 := rfl
theorem moveV_8 (V : Nat → Int) (p q : Int) : moveV V p q 8 = V 8 := rfl
theorem putRow_8 {U V : Nat → Int} {k i : Nat} (h : V 8 = U (k * 12 + 8)) : putRow U k V (i * 12 + 8) = U (i * 12 + 8) := by
  unfold putRow
  by_cases e : i = k
  · subst e; rw [if_pos (by omega), Nat.add_sub_cancel_left]; exact h
  · rw [if_neg (by omega)]
theorem putRow_else {U V : Nat → Int} {k i j : Nat} (e : i ≠ k) (hj : j < 12) : putRow U k V (i * 12 + j) = U (i * 12 + j) := by unfold putRow; rw [if_neg (by omega)]
theorem Bods.apart {n : Nat} {U : Nat → Int} (h : Bods n U) {A B : Nat} (hA : A < n) (hB : B < n) (hAB : A ≠ B) (X Y D : Int) : Bods n (apartU U A B X Y D) ∧ ∀ i, apartU U A B X Y D (i * 12 + 8) = U (i * 12 + 8) := by
  unfold apartU
  cases decide (0 < (D - 64).tdiv 4) with
  | false => exact ⟨h, fun i => rfl⟩
  | true =>
    simp only [cond_true]
    generalize (-X * shareV (fun j => U (A * 12 + j)) (fun j => U (B * 12 + j)) ((D - 64).tdiv 4)).tdiv 256 = p
    generalize (-Y * shareV (fun j => U (A * 12 + j)) (fun j => U (B * 12 + j)) ((D - 64).tdiv 4)).tdiv 256 = q
    generalize (X * shareV (fun j => U (B * 12 + j)) (fun j => U (A * 12 + j)) ((D - 64).tdiv 4)).tdiv 256 = r
    generalize (Y * shareV (fun j => U (B * 12 + j)) (fun j => U (A * 12 + j)) ((D - 64).tdiv 4)).tdiv 256 = s
    have key : ∀ U1 : Nat → Int, Bods n U1 → (∀ i, U1 (i * 12 + 8) = U (i * 12 + 8)) → (U1 (B * 12) = U (B * 12)) → Bods n (bif decide (0 < U (B * 12 + 8)) then putRow U1 B (moveV (fun j => U (B * 12 + j)) r s) else U1) ∧ ∀ i, (bif decide (0 < U (B * 12 + 8)) then putRow U1 B (moveV (fun j => U (B * 12 + j)) r s) else U1) (i * 12 + 8) = U (i * 12 + 8) := by
      intro U1 h1 h8 h0
      by_cases m : 0 < U (B * 12 + 8)
      · rw [decide_eq_true m]
        exact ⟨h1.put hB (move_ok r s (h.row hB) (by show U (B * 12 + 8) ≠ 0; omega)) (by rw [moveV_0, h0]; rfl), fun i => (putRow_8 (by rw [moveV_8, h8])).trans (h8 i)⟩
      · rw [decide_eq_false m]; exact ⟨h1, h8⟩
    by_cases m : 0 < U (A * 12 + 8)
    · rw [decide_eq_true m]
      refine key _ (h.put hA (move_ok p q (h.row hA) (by show U (A * 12 + 8) ≠ 0; omega)) (by rw [moveV_0]; rfl)) (fun i => putRow_8 (by rw [moveV_8])) ?_
      have := putRow_else (U := U) (V := moveV (fun j => U (A * 12 + j)) p q) (k := A) (i := B) (j := 0) (fun e => hAB e.symm) (by omega)
      simpa using this
    · rw [decide_eq_false m]; exact key U h (fun i => rfl) rfl
def apartN (C U : Nat → Int) : Nat → Nat → Int
  | 0 => U
  | k + 1 => apartU (apartN C U k) (C (k * 5)).toNat (C (k * 5 + 1)).toNat (C (k * 5 + 2)) (C (k * 5 + 3)) (C (k * 5 + 4))
/-- contacts that are ok: places of bodies, two different ones; the hit within limits -/
structure CtOk (n m : Nat) (C : Nat → Int) : Prop where
  a : ∀ k, k < m → 0 ≤ C (k * 5) ∧ C (k * 5) < (n : Int)
  b : ∀ k, k < m → 0 ≤ C (k * 5 + 1) ∧ C (k * 5 + 1) < (n : Int)
  ne : ∀ k, k < m → C (k * 5) ≠ C (k * 5 + 1)
  x : ∀ k, k < m → -256 ≤ C (k * 5 + 2) ∧ C (k * 5 + 2) ≤ 256
  y : ∀ k, k < m → -256 ≤ C (k * 5 + 3) ∧ C (k * 5 + 3) ≤ 256
  d : ∀ k, k < m → 0 ≤ C (k * 5 + 4) ∧ C (k * 5 + 4) ≤ 102400
theorem Bods.aparts {n m : Nat} {U C : Nat → Int} (h : Bods n U) (hC : CtOk n m C) : ∀ k, k ≤ m → Bods n (apartN C U k) ∧ ∀ i, apartN C U k (i * 12 + 8) = U (i * 12 + 8)
  | 0, _ => ⟨h, fun i => rfl⟩
  | k + 1, hk => by
    obtain ⟨h1, h2⟩ := Bods.aparts h hC k (by omega)
    have ha := hC.a k (by omega)
    have hb := hC.b k (by omega)
    have hn := hC.ne k (by omega)
    obtain ⟨q1, q2⟩ := h1.apart (A := (C (k * 5)).toNat) (B := (C (k * 5 + 1)).toNat) (by omega) (by omega) (by omega) (C (k * 5 + 2)) (C (k * 5 + 3)) (C (k * 5 + 4))
    exact ⟨q1, fun i => (q2 i).trans (h2 i)⟩
end Go.Proofs.YthfodocnehahcaaGreatDoor
namespace Go.Proofs.YthfodocnehahcaaGreatDoor
open Go.RowKit
set_option linter.unusedVariables false
set_option linter.unusedSimpArgs false
theorem sqn (a : Int) : 0 ≤ a * a := by
  rcases Int.le_total 0 a with h | h
  · exact Int.mul_nonneg h h
  · have := Int.mul_nonneg (show 0 ≤ -a by omega) (show 0 ≤ -a by omega); rwa [Int.neg_mul_neg] at this
theorem abs_le_of_sq {a b : Int} (hb : 0 ≤ b) (h : a * a < (b + 1) * (b + 1)) : -b ≤ a ∧ a ≤ b := by
  have k : ∀ x : Int, x * x < (b + 1) * (b + 1) → x ≤ b := fun x hx => by
    by_cases l : b < x
    · have := Int.mul_le_mul (show b + 1 ≤ x by omega) (show b + 1 ≤ x by omega) (by omega) (by omega)
      omega
    · omega
  have k1 := k a h
  have k2 := k (-a) (by rw [Int.neg_mul_neg]; exact h)
  omega
theorem vl_ge {x y : Int} (hx : -10000000 ≤ x ∧ x ≤ 10000000) (hy : -10000000 ≤ y ∧ y ≤ 10000000) : 0 ≤ vl x y ∧ (-vl x y ≤ x ∧ x ≤ vl x y) ∧ (-vl x y ≤ y ∧ y ≤ vl x y) := by
  have h0 : 0 ≤ x * x + y * y := by have := sqn x; have := sqn y; omega
  have b1 := mul_bd (a := x) (b := x) (A := 10000000) (B := 10000000) (by omega) (by omega)
  have b2 := mul_bd (a := y) (b := y) (A := 10000000) (B := 10000000) (by omega) (by omega)
  obtain ⟨a, b, c⟩ := rootZ_is h0
  have hle := rootZ_le (n := x * x + y * y) (B := 99999999) (by omega) (by omega)
  have e : vl x y = rootZ (x * x + y * y) := by unfold vl clampZ; repeat' split <;> omega
  rw [e]
  have := sqn x
  have := sqn y
  exact ⟨a, abs_le_of_sq a (by omega), abs_le_of_sq a (by omega)⟩
theorem unit_bd {x y : Int} (hx : -10000000 ≤ x ∧ x ≤ 10000000) (hy : -10000000 ≤ y ∧ y ≤ 10000000) : (-256 ≤ ux x y ∧ ux x y ≤ 256) ∧ (-256 ≤ uy x y ∧ uy x y ≤ 256) := by
  obtain ⟨h0, hX, hY⟩ := vl_ge hx hy
  unfold ux uy
  by_cases z : vl x y = 0
  · rw [if_pos z, if_pos z]; omega
  · rw [if_neg z, if_neg z]
    exact ⟨tdiv_le (by omega) (by omega) (by omega), tdiv_le (by omega) (by omega) (by omega)⟩
/-- a hit that is ok -/
def HitOk (X Y D : Int) : Prop := (-256 ≤ X ∧ X ≤ 256) ∧ (-256 ≤ Y ∧ Y ≤ 256) ∧ (0 ≤ D ∧ D ≤ 102400)
theorem rd_ok {dx dy g X Y D : Int} (hx : -10000000 ≤ dx ∧ dx ≤ 10000000) (hy : -10000000 ≤ dy ∧ dy ≤ 10000000) (hg : 0 ≤ g ∧ g ≤ 51200) (e : rdT dx dy g = ((X, Y, D), true)) : HitOk X Y D ∧ D ≤ g := by
  unfold rdT at e
  split at e
  · rename_i h
    simp only [Prod.mk.injEq, and_true] at e
    obtain ⟨rfl, rfl, rfl⟩ := e
    obtain ⟨u1, u2⟩ := unit_bd hx hy
    obtain ⟨v0, _, _⟩ := vl_ge hx hy
    have b1 := mul_bd (a := dx) (b := dx) (A := 10000000) (B := 10000000) (by omega) (by omega)
    have b2 := mul_bd (a := dy) (b := dy) (A := 10000000) (B := 10000000) (by omega) (by omega)
    have h0 : 0 ≤ dx * dx + dy * dy := by have := sqn dx; have := sqn dy; omega
    obtain ⟨a, b, c⟩ := rootZ_is h0
    have hle := rootZ_le (n := dx * dx + dy * dy) (B := 99999999) (by omega) (by omega)
    have e : vl dx dy = rootZ (dx * dx + dy * dy) := by unfold vl clampZ; repeat' split <;> omega
    have hv : vl dx dy ≤ g := by
      rw [e]
      have hs : rootZ (dx * dx + dy * dy) * rootZ (dx * dx + dy * dy) < (g + 1) * (g + 1) := by
        have : (g + 1) * (g + 1) = g * g + (2 * g + 1) := by simp only [Int.add_mul, Int.mul_add, Int.one_mul, Int.mul_one]; omega
        omega
      exact (abs_le_of_sq hg.1 hs).2
    exact ⟨⟨u1, u2, by omega, by omega⟩, by omega⟩
  · simp at e
theorem bs_ok {s0 s1 s2 s3 : Int} (h0 : 0 ≤ s0) (h1 : 0 ≤ s1) (h2 : 0 ≤ s2) (h3 : 0 ≤ s3) (hs : s0 + s1 ≤ 102400) :
    (-256 ≤ (bsT s0 s1 s2 s3).1 ∧ (bsT s0 s1 s2 s3).1 ≤ 256) ∧ (-256 ≤ (bsT s0 s1 s2 s3).2.1 ∧ (bsT s0 s1 s2 s3).2.1 ≤ 256) ∧ (0 ≤ (bsT s0 s1 s2 s3).2.2 ∧ 2 * (bsT s0 s1 s2 s3).2.2 ≤ s0 + s1) := by
  unfold bsT
  by_cases a : s1 < s0 <;> simp only [a, if_true, if_false]
  · by_cases b : s2 < s1 <;> simp only [b, if_true, if_false]
    · by_cases c : s3 < s2 <;> simp only [c, if_true, if_false] <;> omega
    · by_cases c : s3 < s1 <;> simp only [c, if_true, if_false] <;> omega
  · by_cases b : s2 < s0 <;> simp only [b, if_true, if_false]
    · by_cases c : s3 < s2 <;> simp only [c, if_true, if_false] <;> omega
    · by_cases c : s3 < s0 <;> simp only [c, if_true, if_false] <;> omega
theorem mx_ok {a b c d x y g X Y D : Int} (ha : -2600000 ≤ a ∧ a ≤ c ∧ c ≤ 2600000 ∧ c - a ≤ 51200) (hb : -2600000 ≤ b ∧ b ≤ d ∧ d ≤ 2600000) (hx : -2560000 ≤ x ∧ x ≤ 2560000) (hy : -2560000 ≤ y ∧ y ≤ 2560000) (hg : 0 ≤ g ∧ g ≤ 25600) (e : mxT a b c d x y g = ((X, Y, D), true)) : HitOk X Y D := by
  unfold mxT at e
  split at e
  · rename_i h
    unfold ptB at h
    simp only [decide_eq_true_eq] at h
    have f := bs_ok (s0 := c - x) (s1 := x - a) (s2 := d - y) (s3 := y - b) (by omega) (by omega) (by omega) (by omega) (by omega)
    simp only [Prod.mk.injEq, and_true] at e
    obtain ⟨rfl, rfl, rfl⟩ := e
    exact ⟨f.1, f.2.1, by omega, by omega⟩
  · have n1 : mn (mx x a) c ≤ c ∧ a ≤ mn (mx x a) c := by unfold mn mx; repeat' split <;> omega
    have n2 : mn (mx y b) d ≤ d ∧ b ≤ mn (mx y b) d := by unfold mn mx; repeat' split <;> omega
    exact (rd_ok (by omega) (by omega) (by omega) e).1
theorem tn_ok {m : (Int × Int × Int) × Bool} {X Y D : Int} (hm : ∀ x y d, m = ((x, y, d), true) → HitOk x y d) (e : tnT m = ((X, Y, D), true)) : HitOk X Y D := by
  obtain ⟨⟨x, y, d⟩, k⟩ := m
  unfold tnT at e
  dsimp only at e
  split at e
  · rename_i hk
    subst hk
    simp only [Prod.mk.injEq, and_true] at e
    obtain ⟨rfl, rfl, rfl⟩ := e
    obtain ⟨h1, h2, h3⟩ := hm x y d rfl
    exact ⟨by omega, by omega, h3⟩
  · simp at e
theorem bx_ok {a b c d r s t u X Y D : Int} (h1 : c - a ≤ 51200) (h2 : t - r ≤ 51200) (e : bxT a b c d r s t u = ((X, Y, D), true)) : HitOk X Y D := by
  unfold bxT at e
  split at e
  · rename_i h
    rw [Bool.and_eq_true] at h
    obtain ⟨l1, l2⟩ := h
    unfold leB at l1 l2
    simp only [decide_eq_true_eq] at l1 l2
    have f := bs_ok (s0 := c - r) (s1 := t - a) (s2 := d - s) (s3 := u - b) (by omega) (by omega) (by omega) (by omega) (by omega)
    simp only [Prod.mk.injEq, and_true] at e
    rw [e] at f
    exact ⟨f.1, f.2.1, by have := f.2.2; dsimp only at this; omega, by have := f.2.2; dsimp only at this; omega⟩
  · simp at e
theorem toT_ok {k g h x y m c d u v X Y D : Int} (e : toT k g h x y m c d u v = ((X, Y, D), true)) : HitOk X Y D := by
  unfold toT at e
  split at e
  · rename_i hz
    simp only [Bool.and_eq_true] at hz
    obtain ⟨s1, s2, p1, p2⟩ := hz
    obtain ⟨⟨x0, x1⟩, y0, y1⟩ := inB_of p1
    obtain ⟨⟨u0, u1⟩, v0, v1⟩ := inB_of p2
    rcases shB_kinds s1 with ⟨rfl, rfl, a0, a1⟩ | ⟨rfl, a0, a1, a2, a3⟩
    · rcases shB_kinds s2 with ⟨rfl, rfl, b0, b1⟩ | ⟨rfl, b0, b1, b2, b3⟩
      · have q1 : tcT 1 g 0 x y 1 c 0 u v = rdT (u - x) (v - y) (g + c) := by unfold tcT; simp
        rw [q1] at e
        exact (rd_ok (by omega) (by omega) (by omega) e).1
      · have q1 : tcT 1 g 0 x y 2 c d u v = tnT (mxT (u - c) (v - d) (u + c) (v + d) x y g) := by unfold tcT; simp
        rw [q1] at e
        exact tn_ok (fun x' y' d' e0 => mx_ok (by omega) (by omega) (by omega) (by omega) (by omega) e0) e
    · rcases shB_kinds s2 with ⟨rfl, rfl, b0, b1⟩ | ⟨rfl, b0, b1, b2, b3⟩
      · have q1 : tcT 2 g h x y 1 c 0 u v = mxT (x - g) (y - h) (x + g) (y + h) u v c := by unfold tcT; simp
        rw [q1] at e
        exact mx_ok (by omega) (by omega) (by omega) (by omega) (by omega) e
      · have q1 : tcT 2 g h x y 2 c d u v = bxT (x - g) (y - h) (x + g) (y + h) (u - c) (v - d) (u + c) (v + d) := by unfold tcT; simp
        rw [q1] at e
        exact bx_ok (by omega) (by omega) e
  · simp at e
/-- a list of fives, each with a property -/
def Fives (P : Int → Int → Int → Int → Int → Prop) (l : List Int) : Prop := ∃ m, l.length = m * 5 ∧ ∀ k, k < m → P (ofL l (k * 5)) (ofL l (k * 5 + 1)) (ofL l (k * 5 + 2)) (ofL l (k * 5 + 3)) (ofL l (k * 5 + 4))
theorem ofL_l {l r : List Int} {q : Nat} (h : q < l.length) : ofL (l ++ r) q = ofL l q := by
  unfold ofL; rw [List.getD_eq_getElem?_getD, List.getD_eq_getElem?_getD, List.getElem?_append_left h]
theorem ofL_r {l r : List Int} {q : Nat} (h : l.length ≤ q) : ofL (l ++ r) q = ofL r (q - l.length) := by
  unfold ofL; rw [List.getD_eq_getElem?_getD, List.getD_eq_getElem?_getD, List.getElem?_append_right h]
theorem Fives.nil (P : Int → Int → Int → Int → Int → Prop) : Fives P [] := ⟨0, rfl, fun k h => by omega⟩
theorem Fives.one {P : Int → Int → Int → Int → Int → Prop} {a b x y d : Int} (h : P a b x y d) : Fives P [a, b, x, y, d] := by
  refine ⟨1, rfl, fun k hk => ?_⟩
  obtain rfl : k = 0 := by omega
  exact h
theorem Fives.app {P : Int → Int → Int → Int → Int → Prop} {l r : List Int} (h1 : Fives P l) (h2 : Fives P r) : Fives P (l ++ r) := by
  obtain ⟨m, e1, p1⟩ := h1
  obtain ⟨m', e2, p2⟩ := h2
  refine ⟨m + m', by rw [List.length_append, e1, e2]; omega, fun k hk => ?_⟩
  by_cases c : k < m
  · rw [ofL_l (by omega), ofL_l (by omega), ofL_l (by omega), ofL_l (by omega), ofL_l (by omega)]
    exact p1 k c
  · rw [ofL_r (by omega), ofL_r (by omega), ofL_r (by omega), ofL_r (by omega), ofL_r (by omega), e1, show k * 5 - m * 5 = (k - m) * 5 by omega, show k * 5 + 1 - m * 5 = (k - m) * 5 + 1 by omega, show k * 5 + 2 - m * 5 = (k - m) * 5 + 2 by omega, show k * 5 + 3 - m * 5 = (k - m) * 5 + 3 by omega, show k * 5 + 4 - m * 5 = (k - m) * 5 + 4 by omega]
    exact p2 (k - m) (by omega)
/-- a contact that is ok, of n bodies -/
def CtP (n : Nat) (a b x y d : Int) : Prop := 0 ≤ a ∧ a < b ∧ b < (n : Int) ∧ HitOk x y d
theorem conOne_ok (C : Nat → Nat → Int) {n i k : Nat} (hk : k < n) : Fives (CtP n) (conOne C i k) := by
  unfold conOne
  split
  · rename_i h
    unfold conB at h
    simp only [Bool.and_eq_true, decide_eq_true_eq] at h
    have e : toT (C 1 i) (C 2 i) (C 3 i) (C 4 i) (C 5 i) (C 1 k) (C 2 k) (C 3 k) (C 4 k) (C 5 k) = (((tcH C i k).1.1, (tcH C i k).1.2.1, (tcH C i k).1.2.2), true) := by
      show tcH C i k = _
      rw [← h.2.2]
    exact Fives.one ⟨by omega, by omega, by omega, toT_ok e⟩
  · exact Fives.nil _
theorem conIn_ok (C : Nat → Nat → Int) {n i : Nat} : ∀ k, k ≤ n → Fives (CtP n) (conIn C i k)
  | 0, _ => Fives.nil _
  | k + 1, h => (conIn_ok C k (by omega)).app (conOne_ok C (by omega))
theorem conOut_ok (C : Nat → Nat → Int) {n : Nat} : ∀ i, Fives (CtP n) (conOut C n i)
  | 0 => Fives.nil _
  | i + 1 => (conOut_ok C i).app (conIn_ok C n (Nat.le_refl _))
theorem Fives.ct {n m : Nat} {l : List Int} (h : Fives (CtP n) l) (e : l.length = m * 5) : CtOk n m (ofL l) := by
  obtain ⟨m', e', p⟩ := h
  obtain rfl : m' = m := by omega
  exact ⟨fun k hk => ⟨(p k hk).1, by have := (p k hk).2; omega⟩, fun k hk => ⟨by have := p k hk; unfold CtP at this; omega, (p k hk).2.2.1⟩, fun k hk => by have := (p k hk).2.1; omega, fun k hk => (p k hk).2.2.2.1, fun k hk => (p k hk).2.2.2.2.1, fun k hk => (p k hk).2.2.2.2.2⟩
theorem con_ct (C : Nat → Nat → Int) {n m : Nat} (e : (conL C n).length = m * 5) : CtOk n m (ofL (conL C n)) := (conOut_ok C n).ct e
end Go.Proofs.YthfodocnehahcaaGreatDoor
namespace Go.Proofs.YthfodocnehahcaaGreatDoor
open Go.RowKit
set_option linter.unusedVariables false
set_option linter.unusedSimpArgs false
def prL (U C : Nat → Int) : Nat → List Int
  | 0 => []
  | k + 1 => prL U C k ++ [U ((C (k * 5)).toNat * 12), U ((C (k * 5 + 1)).toNat * 12)]
theorem prL_len (U C : Nat → Int) : ∀ k, (prL U C k).length = k * 2
  | 0 => rfl
  | k + 1 => by rw [prL, List.length_append, prL_len U C k]; simp; omega
theorem flat2 (w : World) (p q : Int) (t : TypeId) : Flat (w.alloc (Obj.cells #[.int .i64 p, .int .i64 q] t)) (some ⟨w.heap.size, 0, none⟩) (1 * 2) (ofL [p, q]) := by
  intro _
  refine ⟨w.heap.size, 0, rfl, by simp, fun j hj => ?_⟩
  rw [Nat.zero_add]
  rcases (show j = 0 ∨ j = 1 by omega) with rfl | rfl <;> (simp only [ofL]; go_simp; (try rfl))
theorem OwnL.keptT {w w' : World} {b1 b2 t1 t2 k1 k2 n1 n2 : Nat} {v1 v2 : Value} {U1 U2 : Nat → Int} (h1 : OwnL w b1 t1 k1 v1 n1 U1) (h2 : OwnL w b2 t2 k2 v2 n2 U2) (ht : t1 ≠ t2) (hg : w.grownBy w' v2.ownBlock) : OwnL w' b1 t1 k1 v1 n1 U1 := by
  refine h1.kept hg ?_
  rcases h1.2 with ⟨q, _⟩ | ⟨g, c, cur, hv, _, hb, _⟩
  · left; rw [q]; rfl
  · right
    intro e
    rw [hv] at e
    rcases h2.2 with ⟨q2, _⟩ | ⟨g2, c2, cur2, hv2, _, hb2, _⟩
    · rw [q2] at e; simp [Value.ownBlock] at e
    · rw [hv2] at e
      simp [Value.ownBlock] at e
      subst e
      rw [hb] at hb2
      simp at hb2
      exact ht hb2.2
theorem balloc' (w : World) (o : Obj) : Below w.heap.size w (w.alloc o) := (Below.refl _ _).alloc (Nat.le_refl _) o
set_option maxRecDepth 20000 in
set_option maxHeartbeats 8000000 in
theorem l9Pairs_any (a : Option Addr) (n c : Nat) (U : Nat → Int) (w : World) (h : Flat w a (n * 12) U) (hbb : Bods n U) :
    Calls Tryz.prog 14 #[.slice a n c] w fun e w' => ∃ a1 m c1, e = .returned (.slice a1 m c1) ∧ (m ≤ 144 ∧ (conL (colOf U) n).length = m * 5) ∧ OutL w w' 62 2 a1 m c1 (ofL (prL U (ofL (conL (colOf U) n)) m)) := by
  have hset := cset_map
  have hn12 := hbb.le
  obtain ⟨M, hM0, hM1⟩ := conOut_len (colOf U) n n
  have hM : (conL (colOf U) n).length = M * 5 := hM0
  have hM144 : M ≤ 144 := Nat.le_trans hM1 (Nat.mul_le_mul hn12 hn12)
  clear hM0 hM1
  have hC := con_ct (colOf U) hM
  obtain ⟨C, hCe⟩ : ∃ C, ofL (conL (colOf U) n) = C := ⟨_, rfl⟩
  rw [hCe] at hC ⊢
  have V0 := LsV.new w 62 2
  have h1 := h.below V0.bel
  go_enter Tryz.func14, Tryz.ntmps14
  go_upto_region 2 with fail
  go_cut [4] (fun s4 wc => ∃ a2 c2, s4 = .slice a2 M c2 ∧ OwnL wc w.heap.size 56 5 (.slice a2 M c2) M C ∧ LsV w wc 62 2 (some ⟨w.heap.size, 0, none⟩) 0 0 [])
  case first =>
    go_wp2_with (go_at_call 22; refine (l7Contacts_any a n c U _ h1 hbb.to hn12).mono ?_; rintro e w2 ⟨a2, m2, c2, rfl, hl2, hO2⟩)
    obtain rfl : m2 = M := by omega
    rw [hCe] at hO2
    go_meet
    exact ⟨_, _, rfl, hO2.own.base V0.bel.size, V0.below hO2.bel⟩
  case rest =>
  clear V0 h1
  obtain ⟨a2, c2, rfl, f2w, V0⟩ := hcut
  go_upto_region 4 with fail
  go_loopw [3, 5] (fun s3 s5 wr => ∃ (k : Nat) (a1 : Option Addr) (c1 : Nat), k ≤ M ∧ s5 = .int .i64 (k : Int) ∧ s3 = .slice a1 k c1 ∧ OwnL wr w.heap.size 56 5 (.slice a2 M c2) M C ∧ LsV w wr 62 2 a1 k c1 (prL U C k)) (fun _ s5 _ => M - (intOf s5).toNat)
  case atStart => exact ⟨0, _, _, Nat.zero_le _, rfl, rfl, f2w, V0⟩
  case round =>
    clear V0 f2w
    obtain ⟨k, a1, c1, hk, rfl, rfl, f2, hV⟩ := hrel
    by_cases hlt : k < M
    · have hkm : (k : Int) < (M : Int) := by omega
      have ca := hC.a k hlt
      have cb := hC.b k hlt
      have HP : Shut (prL U C (k + 1) = prL U C k ++ [U ((C (k * 5)).toNat * 12), U ((C (k * 5 + 1)).toNat * 12)]) := by show _ = _; rw [prL]
      obtain ⟨A, hA0⟩ : ∃ A : Nat, C (k * 5) = (A : Int) := ⟨(C (k * 5)).toNat, by omega⟩
      obtain ⟨B, hB0⟩ : ∃ B : Nat, C (k * 5 + 1) = (B : Int) := ⟨(C (k * 5 + 1)).toNat, by omega⟩
      rw [hA0, hB0, Int.toNat_natCast, Int.toNat_natCast] at HP
      rw [hA0] at ca
      rw [hB0] at cb
      have hA : Shut (C (k * 5) = (A : Int)) := hA0
      have hBB : Shut (C (k * 5 + 1) = (B : Int)) := hB0
      clear hA0 hB0
      have hAn : A < n := by omega
      have hBn : B < n := by omega
      have hAi : (A : Int) < (n : Int) := ca.2
      have hBi : (B : Int) < (n : Int) := cb.2
      obtain ⟨b0, o0, e0, _, hc0⟩ := (h.below hV.bel) (by omega)
      obtain ⟨b1, o1, e1, _, hc1⟩ := f2.flat (by omega)
      have r0 : wr.cell? ⟨b1, o1 + k * 5, none⟩ = some (.int .i64 (A : Int)) := by have q := hc1 (k * 5) (by omega); rw [hA.out] at q; simpa [Nat.add_assoc] using q
      have r1 : wr.cell? ⟨b1, o1 + k * 5 + 1, none⟩ = some (.int .i64 (B : Int)) := by have q := hc1 (k * 5 + 1) (by omega); rw [hBB.out] at q; simpa [Nat.add_assoc] using q
      have rA : wr.cell? ⟨b0, o0 + A * 12, none⟩ = some (.int .i64 (U (A * 12))) := by have q := hc0 (A * 12) (by omega); simpa [Nat.add_assoc] using q
      have rB : wr.cell? ⟨b0, o0 + B * 12, none⟩ = some (.int .i64 (U (B * 12))) := by have q := hc0 (B * 12) (by omega); simpa [Nat.add_assoc] using q
      clear hc0 hc1
      subst e0 e1
      go_upto_region 6 with fail
      refine wp_region_held_drew (S := fun w' => w'.cell? ⟨b1, o1 + k * 5, none⟩ = some (.int .i64 (A : Int)) ∧ w'.cell? ⟨b1, o1 + k * 5 + 1, none⟩ = some (.int .i64 (B : Int)) ∧ w'.cell? ⟨b0, o0 + A * 12, none⟩ = some (.int .i64 (U (A * 12))) ∧ w'.cell? ⟨b0, o0 + B * 12, none⟩ = some (.int .i64 (U (B * 12)))) (by kernel_rfl) ?_ (fun hHeld => ?_)
      · (try dsimp only)
        (first | (go_simp; done) | (go_keep; done))
      refine tq 0 hHeld ?_
      refine tq 1 hHeld ?_
      refine tq 2 hHeld ?_
      refine tq 3 hHeld ?_
      refine tq 4 hHeld ?_
      refine tq 5 hHeld ?_
      refine tq 6 hHeld ?_
      refine tq 7 hHeld ?_
      refine tq 8 hHeld ?_
      refine tq 9 hHeld ?_
      refine tq 10 hHeld ?_
      refine tq 11 hHeld ?_
      refine tq 12 hHeld ?_
      refine tq 13 hHeld ?_
      refine tq 14 hHeld ?_
      refine tq 15 hHeld ?_
      refine tq 16 hHeld ?_
      refine tq 17 hHeld ?_
      refine tq 18 hHeld ?_
      refine tq 19 hHeld ?_
      refine tc 20 fun K hK => ?_
      (go_simp
       have hE : Below wr.heap.size wr (wr.alloc (Obj.cells #[.int .i64 (U (A * 12)), .int .i64 (U (B * 12))] 62)).drew := Below.drew (balloc' wr _)
       have hVE := hV.below hE
       have f2E := f2.below hE
       have hF : Flat (wr.alloc (Obj.cells #[.int .i64 (U (A * 12)), .int .i64 (U (B * 12))] 62)).drew (some ⟨wr.heap.size, 0, none⟩) (1 * 2) (ofL [U (A * 12), U (B * 12)]) := flat2 wr _ _ _
       clear r0 r1 rA rB hV f2
       have hV := hVE
       have f2 := f2E
       clear hVE hE f2E
       generalize (wr.alloc (Obj.cells #[.int .i64 (U (A * 12)), .int .i64 (U (B * 12))] 62)).drew = w6 at hV hF f2 ⊢
       generalize wr.heap.size = eb at hF ⊢
       obtain ⟨b0', o0', e0', _, hc0⟩ := (h.below hV.bel) (by omega)
       cases e0'
       obtain ⟨b1', o1', e1', _, hc1⟩ := f2.flat (by omega)
       cases e1'
       have r0 : w6.cell? ⟨b1, o1 + k * 5, none⟩ = some (.int .i64 (A : Int)) := by have q := hc1 (k * 5) (by omega); rw [hA.out] at q; simpa [Nat.add_assoc] using q
       have r1 : w6.cell? ⟨b1, o1 + k * 5 + 1, none⟩ = some (.int .i64 (B : Int)) := by have q := hc1 (k * 5 + 1) (by omega); rw [hBB.out] at q; simpa [Nat.add_assoc] using q
       have rA : w6.cell? ⟨b0, o0 + A * 12, none⟩ = some (.int .i64 (U (A * 12))) := by have q := hc0 (A * 12) (by omega); simpa [Nat.add_assoc] using q
       have rB : w6.cell? ⟨b0, o0 + B * 12, none⟩ = some (.int .i64 (U (B * 12))) := by have q := hc0 (B * 12) (by omega); simpa [Nat.add_assoc] using q
       clear hc0 hc1
       refine tr hK (fun hHeld => ?_)
       clear hK K)
      refine tc 21 fun K hK => ?_
      (refine step_app rfl _ _ _ rfl w.heap.size 62 2 16 zcPair Tryz.underlying24 infoItPair rfl (by decide) (.slice a1 k c1) k (ofL (prL U C k)) rfl hV.own (some ⟨eb, 0, none⟩) 1 1 (ofL [U (A * 12), U (B * 12)]) rfl hF (by unfold maxLen; omega) (by omega) hV.bel.size ?_
       intro a7 c7 w7 ho7 hg7
       have hV7 := hV.push (x := [U (A * 12), U (B * 12)]) rfl hg7 ho7
       have f27 := f2.keptT hV.own (by decide) hg7
       clear r0 r1 rA rB hV hF f2
       have hV := hV7
       have f2 := f27
       clear hV7 ho7 hg7 f27
       obtain ⟨b0', o0', e0', _, hc0⟩ := (h.below hV.bel) (by omega)
       cases e0'
       obtain ⟨b1', o1', e1', _, hc1⟩ := f2.flat (by omega)
       cases e1'
       have r0 : w7.cell? ⟨b1, o1 + k * 5, none⟩ = some (.int .i64 (A : Int)) := by have q := hc1 (k * 5) (by omega); rw [hA.out] at q; simpa [Nat.add_assoc] using q
       have r1 : w7.cell? ⟨b1, o1 + k * 5 + 1, none⟩ = some (.int .i64 (B : Int)) := by have q := hc1 (k * 5 + 1) (by omega); rw [hBB.out] at q; simpa [Nat.add_assoc] using q
       have rA : w7.cell? ⟨b0, o0 + A * 12, none⟩ = some (.int .i64 (U (A * 12))) := by have q := hc0 (A * 12) (by omega); simpa [Nat.add_assoc] using q
       have rB : w7.cell? ⟨b0, o0 + B * 12, none⟩ = some (.int .i64 (U (B * 12))) := by have q := hc0 (B * 12) (by omega); simpa [Nat.add_assoc] using q
       clear hc0 hc1
       refine tr hK (fun hHeld => ?_)
       clear hK K)
      refine tq 22 hHeld ?_
      refine wpAnyH_done (by kernel_rfl) ?_ _
      go_wp2_with fail
      go_roundw
      case rel => exact ⟨k + 1, _, _, by omega, by go_num, rfl, f2, by rw [HP.out]; exact hV⟩
      case measure => simp [intOf]; omega
    · obtain rfl : k = M := by omega
      go_wp2_with fail
      go_ret
      exact ⟨_, _, _, rfl, ⟨hM144, hM⟩, hV.bel, hV.own⟩
end Go.Proofs.YthfodocnehahcaaGreatDoor
namespace Go.Proofs.YthfodocnehahcaaGreatDoor
open Go.RowKit
set_option linter.unusedVariables false
set_option linter.unusedSimpArgs false
/-- pairs of a list, if it is ok -/
def prR (n : Nat) (U : Nat → Int) : List Int := bif bodsB n U then prL U (ofL (conL (colOf U) n)) ((conL (colOf U) n).length / 5) else []
theorem prR_len (n : Nat) (U : Nat → Int) : ∃ N, (prR n U).length = N * 2 ∧ N ≤ 144 ∧ (bodsB n U = true → (conL (colOf U) n).length = N * 5 ∧ prR n U = prL U (ofL (conL (colOf U) n)) N) := by
  unfold prR
  cases h : bodsB n U with
  | false => exact ⟨0, rfl, by omega, fun e => by cases e⟩
  | true =>
    obtain ⟨m, h1, h2⟩ := conOut_len (colOf U) n n
    have h1' : (conL (colOf U) n).length = m * 5 := h1
    have h12 : n ≤ 12 := by unfold bodsB at h; rw [Bool.and_eq_true, decide_eq_true_eq] at h; exact h.1
    have h144 := Nat.mul_le_mul h12 h12
    have e : (conL (colOf U) n).length / 5 = m := by omega
    refine ⟨m, ?_, by omega, fun _ => ⟨h1', ?_⟩⟩
    · rw [cond_true, e, prL_len]
    · rw [cond_true, e]
set_option maxRecDepth 20000 in
set_option maxHeartbeats 8000000 in
theorem stepPairsI_q (a : Option Addr) (n c : Nat) (U : Nat → Int) (N : Nat) (w : World) (h : Flat w a (n * 12) U) (hn : n ≤ 1048576) (hg : w.cell? ⟨0, 0, none⟩ = some (.iface 121 (.agg #[.pointer (some ⟨1, 47, none⟩)]))) (hN : (prR n U).length = N * 2) :
    Calls Tryz.prog 7 #[.slice a n c] w fun e w' => ∃ a' c', e = .returned (.slice a' N c') ∧ OutL w w' 62 2 a' N c' (ofL (prR n U)) := by
  have hset := cset_map
  have hlt : 0 < w.heap.size := cell_lt (a := ⟨0, 0, none⟩) hg
  obtain ⟨N', hN', h144, hall⟩ := prR_len n U
  obtain rfl : N' = N := by omega
  clear hN'
  cases hok : bodsB n U with
  | false =>
    have e0 : prR n U = [] := by unfold prR; rw [hok]; rfl
    rw [e0] at hN ⊢
    clear e0 hall
    rw [List.length_nil] at hN
    obtain rfl : N' = 0 := by omega
    clear hN
    go_enter Tryz.func7, Tryz.ntmps7
    go_wp2_with (first
      | (have _ := hb1; go_at_call 17; refine (refused_yes x _ ((hb1.cell (p := ⟨0, 0, none⟩) hlt).trans hg)).mono ?_; rintro e w2 ⟨rfl, hb2⟩)
      | (go_at_call 16; refine (bodiesOf_f a n c U _ h hn hok).mono ?_; rintro e w1 ⟨x, rfl, hb1⟩))
    go_ret
    exact ⟨none, 0, rfl, hb1.trans (hb2.mono hb1.size), OwnL.nil _ _ _ _ _⟩
  | true =>
    obtain ⟨hM, e0⟩ := hall hok
    rw [e0]
    have hBd := Bods.of hok
    have h12 := hBd.le
    have hCt := con_ct (colOf U) hM
    obtain ⟨C, hCe⟩ : ∃ C, ofL (conL (colOf U) n) = C := ⟨_, rfl⟩
    rw [hCe] at hCt ⊢
    clear e0 hN
    go_enter Tryz.func7, Tryz.ntmps7
    go_upto_region 6 with (first
      | (have _ := hb2; go_at_call 18; refine (contacts_any cb n (colOf U) S _ (hCs.below hb2) h12).mono ?_; rintro e w3 ⟨a2, m2, c2, rfl, hl2, hO2⟩)
      | (have _ := hb1; go_at_call 17; refine (refused_nil _).mono ?_; rintro e w2 ⟨rfl, hb2⟩)
      | (go_at_call 16; refine (bodiesOf_t a n c U _ h hn hok).mono ?_; rintro e w1 ⟨cb, S, rfl, hcb, hCs, hb1⟩))
    obtain rfl : m2 = N' := by omega
    rw [hCe] at hO2
    have hC3 := (hCs.below hb2).below hO2.bel
    have hB3 := (hb1.trans (hb2.mono hb1.size)).trans (hO2.bel.mono (Nat.le_trans hb1.size hb2.size))
    have f2 := hO2.own.flat
    have hcl := hC3.lt
    clear hl2 hO2 hb1 hb2 hCs hM hCe
    go_loopw [5, 18] (fun s5 s18 wr => ∃ (k : Nat) (a1 : Option Addr) (c1 : Nat), k ≤ m2 ∧ s18 = .int .i64 (k : Int) ∧ s5 = .slice a1 k c1 ∧ LsV w3 wr 62 2 a1 k c1 (prL U C k)) (fun _ s18 _ => m2 - (intOf s18).toNat)
    case atStart => exact ⟨0, _, _, Nat.zero_le _, rfl, rfl, LsV.nil w3 _ _⟩
    case round =>
      obtain ⟨k, a1, c1, hk, rfl, rfl, hV⟩ := hrel
      by_cases hlt2 : k < m2
      · have hkm : (k : Int) < (m2 : Int) := by omega
        have ca := hCt.a k hlt2
        have cb' := hCt.b k hlt2
        have HP : Shut (prL U C (k + 1) = prL U C k ++ [U ((C (k * 5)).toNat * 12), U ((C (k * 5 + 1)).toNat * 12)]) := by show _ = _; rw [prL]
        obtain ⟨A, hA0⟩ : ∃ A : Nat, C (k * 5) = (A : Int) := ⟨(C (k * 5)).toNat, by omega⟩
        obtain ⟨B, hB0⟩ : ∃ B : Nat, C (k * 5 + 1) = (B : Int) := ⟨(C (k * 5 + 1)).toNat, by omega⟩
        rw [hA0, hB0, Int.toNat_natCast, Int.toNat_natCast] at HP
        rw [hA0] at ca
        rw [hB0] at cb'
        obtain ⟨b1, o1, e1, hl1, hc1⟩ := f2 (by omega)
        have q0 : w3.cell? ⟨b1, o1 + k * 5, none⟩ = some (.int .i64 (A : Int)) := by have q := hc1 (k * 5) (by omega); rw [hA0] at q; simpa [Nat.add_assoc] using q
        have q1 : w3.cell? ⟨b1, o1 + k * 5 + 1, none⟩ = some (.int .i64 (B : Int)) := by have q := hc1 (k * 5 + 1) (by omega); rw [hB0] at q; simpa [Nat.add_assoc] using q
        have q2 : w3.cell? ⟨b1, o1 + k * 5 + 2, none⟩ = some (.int .i64 (C (k * 5 + 2))) := by have q := hc1 (k * 5 + 2) (by omega); simpa [Nat.add_assoc] using q
        have q3 : w3.cell? ⟨b1, o1 + k * 5 + 3, none⟩ = some (.int .i64 (C (k * 5 + 3))) := by have q := hc1 (k * 5 + 3) (by omega); simpa [Nat.add_assoc] using q
        have q4 : w3.cell? ⟨b1, o1 + k * 5 + 4, none⟩ = some (.int .i64 (C (k * 5 + 4))) := by have q := hc1 (k * 5 + 4) (by omega); simpa [Nat.add_assoc] using q
        have p0 := (hV.bel.cell (p := ⟨b1, o1 + k * 5, none⟩) hl1).trans q0
        have p1 := (hV.bel.cell (p := ⟨b1, o1 + k * 5 + 1, none⟩) hl1).trans q1
        have p2 := (hV.bel.cell (p := ⟨b1, o1 + k * 5 + 2, none⟩) hl1).trans q2
        have p3 := (hV.bel.cell (p := ⟨b1, o1 + k * 5 + 3, none⟩) hl1).trans q3
        have p4 := (hV.bel.cell (p := ⟨b1, o1 + k * 5 + 4, none⟩) hl1).trans q4
        clear hc1 q0 q1 q2 q3 q4 hA0 hB0
        subst e1
        have hAn : A < n := by omega
        have hBn : B < n := by omega
        go_upto_region 7 with fail
        go_cut [7] (fun s7 wc => ∃ kb : Nat, s7 = .pointer (some ⟨kb, 0, none⟩) ∧ (∀ b, (Value.slice a1 k c1).ownBlock = some b → b ≠ kb) ∧ kb < wc.heap.size ∧ wc.cell? ⟨kb, 0, none⟩ = some (.int .i64 (A : Int)) ∧ wc.cell? ⟨kb, 1, none⟩ = some (.int .i64 (B : Int)) ∧ LsV w3 wc 62 2 a1 k c1 (prL U C k))
        case first =>
          go_wp2_with fail
          go_meet
          exact ⟨_, rfl, fun b e => by have := (hV.own.lt b e).2; omega, by simp, by go_simp, by go_simp, hV.below ((Below.refl _ _).alloc (Nat.le_refl _) _)⟩
        case rest =>
        clear hV p0 p1 p2 p3 p4
        obtain ⟨kb, rfl, hne, hkl, k0, k1, hV⟩ := hcut
        obtain ⟨g0, c0, eS, hdS, dAw, _, hgl, _⟩ := hC3.at (i := 0) (k := A) (by omega) hAn
        obtain ⟨g0', c0', eS', _, dBw, _, _, _⟩ := hC3.at (i := 0) (k := B) (by omega) hBn
        rw [eS] at eS'
        simp only [Value.slice.injEq, Option.some.injEq, Addr.mk.injEq] at eS'
        obtain ⟨⟨rfl, _⟩, _, rfl⟩ := eS'
        have d0w : w3.cell? ⟨cb, 0, none⟩ = some (.slice (some ⟨g0, 0, none⟩) n c0) := hdS
        have dAw : w3.cell? ⟨g0, A, none⟩ = some (.int .i64 (U (A * 12))) := dAw
        have dBw : w3.cell? ⟨g0, B, none⟩ = some (.int .i64 (U (B * 12))) := dBw
        have d0 := (hV.bel.cell (p := ⟨cb, 0, none⟩) hcl).trans d0w
        have dA := (hV.bel.cell (p := ⟨g0, A, none⟩) hgl).trans dAw
        have dB := (hV.bel.cell (p := ⟨g0, B, none⟩) hgl).trans dBw
        have hAi : (A : Int) < (n : Int) := by omega
        have hBi : (B : Int) < (n : Int) := by omega
        clear eS hdS ca cb'
        go_upto_region 8 with fail
        refine wp_region_held_drew (S := fun w' => w'.cell? ⟨kb, 0, none⟩ = some (.int .i64 (A : Int)) ∧ w'.cell? ⟨kb, 1, none⟩ = some (.int .i64 (B : Int)) ∧ w'.cell? ⟨cb, 0, none⟩ = some (.slice (some ⟨g0, 0, none⟩) n c0) ∧ w'.cell? ⟨g0, A, none⟩ = some (.int .i64 (U (A * 12))) ∧ w'.cell? ⟨g0, B, none⟩ = some (.int .i64 (U (B * 12)))) (by kernel_rfl) ?_ (fun hHeld => ?_)
        · (try dsimp only)
          (first | (go_simp; done) | (go_keep; done))
        refine tq 0 hHeld ?_
        refine tq 1 hHeld ?_
        refine tq 2 hHeld ?_
        refine tq 3 hHeld ?_
        refine tq 4 hHeld ?_
        refine tq 5 hHeld ?_
        refine tq 6 hHeld ?_
        refine tq 7 hHeld ?_
        refine tq 8 hHeld ?_
        refine tq 9 hHeld ?_
        refine tq 10 hHeld ?_
        refine tq 11 hHeld ?_
        refine tq 12 hHeld ?_
        refine tq 13 hHeld ?_
        refine tq 14 hHeld ?_
        refine tq 15 hHeld ?_
        refine tq 16 hHeld ?_
        refine tq 17 hHeld ?_
        refine tc 18 fun K hK => ?_
        (go_simp
         have hE : Below wc.heap.size wc (wc.alloc (Obj.cells #[.int .i64 (U (A * 12)), .int .i64 (U (B * 12))] 62)).drew := Below.drew ((Below.refl _ _).alloc (Nat.le_refl _) _)
         have hF : Flat (wc.alloc (Obj.cells #[.int .i64 (U (A * 12)), .int .i64 (U (B * 12))] 62)).drew (some ⟨wc.heap.size, 0, none⟩) (1 * 2) (ofL [U (A * 12), U (B * 12)]) := flat2 wc _ _ _
         clear d0 dA dB
         replace hV := hV.below hE
         replace k0 := (hE.cell (p := ⟨kb, 0, none⟩) hkl).trans k0
         replace k1 := (hE.cell (p := ⟨kb, 1, none⟩) hkl).trans k1
         replace hkl := Nat.lt_of_lt_of_le hkl hE.size
         clear hE
         generalize (wc.alloc (Obj.cells #[.int .i64 (U (A * 12)), .int .i64 (U (B * 12))] 62)).drew = w6 at hV hF k0 k1 hkl ⊢
         generalize wc.heap.size = eb at hF ⊢
         have d0 := (hV.bel.cell (p := ⟨cb, 0, none⟩) hcl).trans d0w
         have dA := (hV.bel.cell (p := ⟨g0, A, none⟩) hgl).trans dAw
         have dB := (hV.bel.cell (p := ⟨g0, B, none⟩) hgl).trans dBw
         refine tr hK (fun hHeld => ?_)
         clear hK K)
        refine tc 19 fun K hK => ?_
        (refine step_app rfl _ _ _ rfl w3.heap.size 62 2 16 zcPair Tryz.underlying24 infoItPair rfl (by decide) (.slice a1 k c1) k (ofL (prL U C k)) rfl hV.own (some ⟨eb, 0, none⟩) 1 1 (ofL [U (A * 12), U (B * 12)]) rfl hF (by unfold maxLen; omega) (by omega) hV.bel.size ?_
         intro a7 c7 w7 ho7 hg7
         have hG := Fr.grown (X := fun b => (Value.slice a1 k c1).ownBlock = some b) hg7 (fun b e => e) hV.own.isCells
         have hV7 := hV.push (x := [U (A * 12), U (B * 12)]) rfl hg7 ho7
         clear d0 dA dB hF
         replace k0 := (hG.cell (p := ⟨kb, 0, none⟩) hkl (fun e => hne kb e rfl)).trans k0
         replace k1 := (hG.cell (p := ⟨kb, 1, none⟩) hkl (fun e => hne kb e rfl)).trans k1
         clear hV ho7 hg7 hG hkl
         have hV := hV7
         clear hV7
         have d0 := (hV.bel.cell (p := ⟨cb, 0, none⟩) hcl).trans d0w
         have dA := (hV.bel.cell (p := ⟨g0, A, none⟩) hgl).trans dAw
         have dB := (hV.bel.cell (p := ⟨g0, B, none⟩) hgl).trans dBw
         refine tr hK (fun hHeld => ?_)
         clear hK K)
        refine tq 20 hHeld ?_
        refine wpAnyH_done (by kernel_rfl) ?_ _
        go_wp2_with fail
        go_roundw
        case rel => exact ⟨k + 1, _, _, by omega, by go_num, rfl, by rw [HP.out]; exact hV⟩
        case measure => simp [intOf]; omega
      · obtain rfl : k = m2 := by omega
        go_wp2_with fail
        go_ret
        exact ⟨_, _, rfl, hB3.trans (hV.bel.mono hB3.size), hV.own.base hB3.size⟩
set_option maxRecDepth 20000 in
set_option maxHeartbeats 8000000 in
theorem stepPairsS_q (a : Option Addr) (n c : Nat) (U : Nat → Int) (N : Nat) (w : World) (h : Flat w a (n * 12) U) (hn : n ≤ 1048576) (hN : (prR n U).length = N * 2) :
    Calls Tryz.prog 5 #[.slice a n c] w fun e w' => ∃ a' c', e = .returned (.slice a' N c') ∧ OutL w w' 62 2 a' N c' (ofL (prR n U)) := by
  have hset := cset_map
  obtain ⟨N', hN', h144, hall⟩ := prR_len n U
  obtain rfl : N' = N := by omega
  clear hN'
  cases hok : bodsB n U with
  | true =>
    obtain ⟨hM, e0⟩ := hall hok
    rw [e0]
    clear e0 hN
    have hBd := Bods.of hok
    go_enter Tryz.func5, Tryz.ntmps5
    go_wp2_with (first
      | (have _ := hb1; go_at_call 14; refine (l9Pairs_any a n c U _ (h.below hb1) hBd).mono ?_; rintro e w2 ⟨a2, m2, c2, rfl, ⟨_, hl2⟩, hO2⟩)
      | (go_at_call 13; refine (sBodiesOk_q a n c U true _ h hn hok).mono ?_; rintro e w1 ⟨rfl, hb1⟩))
    obtain rfl : m2 = N' := by omega
    clear hl2 hM
    go_ret
    exact ⟨a2, c2, rfl, hb1.trans (hO2.bel.mono hb1.size), hO2.own.base hb1.size⟩
  | false =>
    have e0 : prR n U = [] := by unfold prR; rw [hok]; rfl
    rw [e0] at hN ⊢
    clear e0 hall
    rw [List.length_nil] at hN
    obtain rfl : N' = 0 := by omega
    clear hN
    go_enter Tryz.func5, Tryz.ntmps5
    go_wp2_with (go_at_call 13; refine (sBodiesOk_q a n c U false _ h hn hok).mono ?_; rintro e w1 ⟨rfl, hb1⟩)
    go_ret
    exact ⟨_, _, rfl, hb1.alloc hb1.size _, ((LsV.new w1 _ _).own.base hb1.size)⟩
theorem stepPairsI_r {n : Nat} {U R : Nat → Int} (hR : R = ofL (prR n U)) (a : Option Addr) (c N : Nat) (w : World) (h : Flat w a (n * 12) U) (hn : n ≤ 1048576) (hg : w.cell? ⟨0, 0, none⟩ = some (.iface 121 (.agg #[.pointer (some ⟨1, 47, none⟩)]))) (hN : (prR n U).length = N * 2) :
    Calls Tryz.prog 7 #[.slice a n c] w fun e w' => ∃ a' c', e = .returned (.slice a' N c') ∧ OutL w w' 62 2 a' N c' R := by subst hR; exact stepPairsI_q a n c U N w h hn hg hN
theorem stepPairsS_r {n : Nat} {U R : Nat → Int} (hR : R = ofL (prR n U)) (a : Option Addr) (c N : Nat) (w : World) (h : Flat w a (n * 12) U) (hn : n ≤ 1048576) (hN : (prR n U).length = N * 2) :
    Calls Tryz.prog 5 #[.slice a n c] w fun e w' => ∃ a' c', e = .returned (.slice a' N c') ∧ OutL w w' 62 2 a' N c' R := by subst hR; exact stepPairsS_q a n c U N w h hn hN
end Go.Proofs.YthfodocnehahcaaGreatDoor
namespace Go.Proofs.YthfodocnehahcaaGreatDoor
open Go.RowKit
set_option linter.unusedVariables false
set_option linter.unusedSimpArgs false

abbrev pairW (V : Nat → Int) : Value := .agg #[.int .i64 (V 0), .int .i64 (V 1)]
theorem eqPair_same (V : Nat → Int) (w : World) :
    Calls Tryz.prog 19 #[pairW V, pairW V] w fun e w' => e = .returned (.bool true) ∧ Below w.heap.size w w' := by
  have hset := cset_map
  go_enter Tryz.func19, Tryz.ntmps19
  go_wp2
  go_ret
  exact ⟨rfl, bel_a⟩
abbrev zeroPair : Value := .agg #[.int .i64 0, .int .i64 0]
theorem makePairS (n : Nat) (hn : n ≤ 1048576) (w : World) : (Instr.makeSlice 24 (.int .i64 (n : Int)) (.int .i64 (n : Int))).run Tryz.prog w = .ok (.slice (some ⟨w.heap.size, 0, none⟩) n n) (w.alloc (.cells (madeCells zeroPair.cells (n * 2)) 62)) :=
  make_rows _ _ zeroPair 2 16 Tryz.underlying24 (by kernel_rfl) _ _ n (by omega) (by omega) w
set_option maxRecDepth 20000 in
set_option maxHeartbeats 2000000 in
theorem eqPairS_same (a a' : Option Addr) (n c c' : Nat) (U : Nat → Int) (w : World) (h : Flat w a (n * 2) U) (h' : Flat w a' (n * 2) U) (hn : n ≤ 1048576) :
    Calls Tryz.prog 8 #[.slice a n c, .slice a' n c'] w fun e w' => e = .returned (.bool true) ∧ Below w.heap.size w w' := by
  have hset := cset_map
  go_enter Tryz.func8, Tryz.ntmps8
  go_wp2
  go_loopw [5] (fun i wr => ∃ k : Nat, k ≤ n ∧ i = .int .i64 (k : Int) ∧ Below w.heap.size w wr) (fun i _ => n - (intOf i).toNat)
  case atStart => exact ⟨0, Nat.zero_le _, rfl, Below.refl _ _⟩
  case round =>
    obtain ⟨k, hk, rfl, hB⟩ := hrel
    by_cases hlt : k < n
    · have hkn : (k : Int) < (n : Int) := by omega
      obtain ⟨b, o, rfl, hbl, hc⟩ := (h.below hB) (by omega)
      obtain ⟨b', o', rfl, hbl', hc'⟩ := (h'.below hB) (by omega)
      have c0 := hc (k * 2) (by omega)
      have d0 := hc' (k * 2) (by omega)
      have c1 := hc (k * 2 + 1) (by omega)
      have d1 := hc' (k * 2 + 1) (by omega)
      simp only [← Nat.add_assoc, Nat.add_zero] at c0 d0 c1 d1
      clear hc hc' h h'
      go_upto_region 6 with fail
      refine wp_region_held_drew (S := fun w' => w'.cell? ⟨b, o + k * 2, none⟩ = some (.int .i64 (U (k * 2))) ∧ w'.cell? ⟨b, o + k * 2 + 1, none⟩ = some (.int .i64 (U (k * 2 + 1))) ∧ w'.cell? ⟨b', o' + k * 2, none⟩ = some (.int .i64 (U (k * 2))) ∧ w'.cell? ⟨b', o' + k * 2 + 1, none⟩ = some (.int .i64 (U (k * 2 + 1)))) (by kernel_rfl) ?_ (fun hHeld => ?_)
      · (try dsimp only)
        (first | (go_simp; done) | (go_keep; done))
      refine tq 0 hHeld ?_
      refine tq 1 hHeld ?_
      refine tq 2 hHeld ?_
      refine tq 3 hHeld ?_
      refine tq 4 hHeld ?_
      refine tq 5 hHeld ?_
      refine tq 6 hHeld ?_
      refine tq 7 hHeld ?_
      (refine tc 8 fun K hK => ?_; go_simp; (go_at_call 19; refine (eqPair_same (fun j => U (k * 2 + j)) _).mono ?_; rintro e w1 ⟨rfl, hb1⟩; obtain ⟨hc1, hf1⟩ := bcell hb1; have hz1 := hb1.size; (try simp only [World.size_drew, World.size_alloc, World.size_setCell] at hc1 hf1 hz1); have hk1 := fun o => hc1 b o (by omega); have hk2 := fun o => hc1 b' o (by omega); clear hc1 hf1); (try go_wp2_with fail); refine tr hK (fun hHeld => ?_); clear hK K)
      refine tq 9 hHeld ?_
      refine wpAnyH_done (by kernel_rfl) ?_ _
      go_wp2_with fail
      go_roundw
      case rel => exact ⟨k + 1, by omega, by go_num, hB.trans (hb1.ofDr.mono hB.size)⟩
      case measure => simp [intOf]; omega
    · go_wp2
      go_ret
      exact ⟨rfl, hB⟩

abbrev worldW (T P : Int) (a : Option Addr) (n c : Nat) (a' : Option Addr) (m c' : Nat) : Value := .agg #[.int .i64 T, .int .i64 P, .slice a n c, .slice a' m c']
end Go.Proofs.YthfodocnehahcaaGreatDoor
namespace Go.Proofs.YthfodocnehahcaaGreatDoor
open Go.RowKit
set_option linter.unusedVariables false
set_option linter.unusedSimpArgs false
theorem markBody12 {w wr : World} {base g n c j : Nat} {U : Nat → Int} (hlt : j < n) (ho : OwnL wr base 39 12 (.slice (some ⟨g, 0, none⟩) n c) n (mixU (j * 12) U)) (hg : w.grownBy wr (Value.slice (some ⟨g, 0, none⟩) n c).ownBlock) :
    OwnL ((((((((((((wr.setCell ⟨g, j * 12, none⟩ (.int .i64 (1 + (j : Int) * 12))).setCell ⟨g, j * 12 + 1, none⟩ (.int .i64 (1 + (j : Int) * 12 + 1))).setCell ⟨g, j * 12 + 2, none⟩ (.int .i64 (1 + (j : Int) * 12 + 1 + 1))).setCell ⟨g, j * 12 + 3, none⟩ (.int .i64 (1 + (j : Int) * 12 + 1 + 1 + 1))).setCell ⟨g, j * 12 + 4, none⟩ (.int .i64 (1 + (j : Int) * 12 + 1 + 1 + 1 + 1))).setCell ⟨g, j * 12 + 5, none⟩ (.int .i64 (1 + (j : Int) * 12 + 1 + 1 + 1 + 1 + 1))).setCell ⟨g, j * 12 + 6, none⟩ (.int .i64 (1 + (j : Int) * 12 + 1 + 1 + 1 + 1 + 1 + 1))).setCell ⟨g, j * 12 + 7, none⟩ (.int .i64 (1 + (j : Int) * 12 + 1 + 1 + 1 + 1 + 1 + 1 + 1))).setCell ⟨g, j * 12 + 8, none⟩ (.int .i64 (1 + (j : Int) * 12 + 1 + 1 + 1 + 1 + 1 + 1 + 1 + 1))).setCell ⟨g, j * 12 + 9, none⟩ (.int .i64 (1 + (j : Int) * 12 + 1 + 1 + 1 + 1 + 1 + 1 + 1 + 1 + 1))).setCell ⟨g, j * 12 + 10, none⟩ (.int .i64 (1 + (j : Int) * 12 + 1 + 1 + 1 + 1 + 1 + 1 + 1 + 1 + 1 + 1))).setCell ⟨g, j * 12 + 11, none⟩ (.int .i64 (1 + (j : Int) * 12 + 1 + 1 + 1 + 1 + 1 + 1 + 1 + 1 + 1 + 1 + 1))) base 39 12 (.slice (some ⟨g, 0, none⟩) n c) n (mixU ((j + 1) * 12) U) ∧
    w.grownBy ((((((((((((wr.setCell ⟨g, j * 12, none⟩ (.int .i64 (1 + (j : Int) * 12))).setCell ⟨g, j * 12 + 1, none⟩ (.int .i64 (1 + (j : Int) * 12 + 1))).setCell ⟨g, j * 12 + 2, none⟩ (.int .i64 (1 + (j : Int) * 12 + 1 + 1))).setCell ⟨g, j * 12 + 3, none⟩ (.int .i64 (1 + (j : Int) * 12 + 1 + 1 + 1))).setCell ⟨g, j * 12 + 4, none⟩ (.int .i64 (1 + (j : Int) * 12 + 1 + 1 + 1 + 1))).setCell ⟨g, j * 12 + 5, none⟩ (.int .i64 (1 + (j : Int) * 12 + 1 + 1 + 1 + 1 + 1))).setCell ⟨g, j * 12 + 6, none⟩ (.int .i64 (1 + (j : Int) * 12 + 1 + 1 + 1 + 1 + 1 + 1))).setCell ⟨g, j * 12 + 7, none⟩ (.int .i64 (1 + (j : Int) * 12 + 1 + 1 + 1 + 1 + 1 + 1 + 1))).setCell ⟨g, j * 12 + 8, none⟩ (.int .i64 (1 + (j : Int) * 12 + 1 + 1 + 1 + 1 + 1 + 1 + 1 + 1))).setCell ⟨g, j * 12 + 9, none⟩ (.int .i64 (1 + (j : Int) * 12 + 1 + 1 + 1 + 1 + 1 + 1 + 1 + 1 + 1))).setCell ⟨g, j * 12 + 10, none⟩ (.int .i64 (1 + (j : Int) * 12 + 1 + 1 + 1 + 1 + 1 + 1 + 1 + 1 + 1 + 1))).setCell ⟨g, j * 12 + 11, none⟩ (.int .i64 (1 + (j : Int) * 12 + 1 + 1 + 1 + 1 + 1 + 1 + 1 + 1 + 1 + 1 + 1))) (Value.slice (some ⟨g, 0, none⟩) n c).ownBlock := by
  have q1 := ho.mark (by omega) (x := 1 + (j : Int) * 12) (by omega)
  have q2 := q1.mark (by omega) (x := 1 + (j : Int) * 12 + 1) (by omega)
  have q3 := q2.mark (by omega) (x := 1 + (j : Int) * 12 + 1 + 1) (by omega)
  have q4 := q3.mark (by omega) (x := 1 + (j : Int) * 12 + 1 + 1 + 1) (by omega)
  have q5 := q4.mark (by omega) (x := 1 + (j : Int) * 12 + 1 + 1 + 1 + 1) (by omega)
  have q6 := q5.mark (by omega) (x := 1 + (j : Int) * 12 + 1 + 1 + 1 + 1 + 1) (by omega)
  have q7 := q6.mark (by omega) (x := 1 + (j : Int) * 12 + 1 + 1 + 1 + 1 + 1 + 1) (by omega)
  have q8 := q7.mark (by omega) (x := 1 + (j : Int) * 12 + 1 + 1 + 1 + 1 + 1 + 1 + 1) (by omega)
  have q9 := q8.mark (by omega) (x := 1 + (j : Int) * 12 + 1 + 1 + 1 + 1 + 1 + 1 + 1 + 1) (by omega)
  have q10 := q9.mark (by omega) (x := 1 + (j : Int) * 12 + 1 + 1 + 1 + 1 + 1 + 1 + 1 + 1 + 1) (by omega)
  have q11 := q10.mark (by omega) (x := 1 + (j : Int) * 12 + 1 + 1 + 1 + 1 + 1 + 1 + 1 + 1 + 1 + 1) (by omega)
  have q12 := q11.mark (by omega) (x := 1 + (j : Int) * 12 + 1 + 1 + 1 + 1 + 1 + 1 + 1 + 1 + 1 + 1 + 1) (by omega)
  refine ⟨?_, ?_⟩
  · exact q12.congr fun q _ => by rw [show j * 12 + 1 + 1 + 1 + 1 + 1 + 1 + 1 + 1 + 1 + 1 + 1 + 1 = ((j + 1) * 12) from by omega]
  · have h0 : w.grownBy wr (some g) := hg
    exact (grown_trans (grown_trans (grown_trans (grown_trans (grown_trans (grown_trans (grown_trans (grown_trans (grown_trans (grown_trans (grown_trans (grown_trans h0 (grown_setG _ _ _ _)) (grown_setG _ _ _ _)) (grown_setG _ _ _ _)) (grown_setG _ _ _ _)) (grown_setG _ _ _ _)) (grown_setG _ _ _ _)) (grown_setG _ _ _ _)) (grown_setG _ _ _ _)) (grown_setG _ _ _ _)) (grown_setG _ _ _ _)) (grown_setG _ _ _ _)) (grown_setG _ _ _ _))
set_option maxRecDepth 20000 in
set_option maxHeartbeats 2000000 in
theorem markBodyS_any (base : Nat) (a : Option Addr) (n c : Nat) (U : Nat → Int) (w : World) (h : OwnL w base 39 12 (.slice a n c) n U) (hn : n ≤ 2097152) :
    Calls Tryz.prog 10 #[.slice a n c, .int .i64 1] w fun e w' => e = .returned (.int .i64 (1 + (n : Int) * 12)) ∧ OwnL w' base 39 12 (.slice a n c) n (fun q => 1 + (q : Int)) ∧ w.grownBy w' (Value.slice a n c).ownBlock := by
  have hset := cset_map
  go_enter Tryz.func10, Tryz.ntmps10
  go_wp2
  go_loopw [1, 5] (fun s i wr => ∃ j : Nat, j ≤ n ∧ i = .int .i64 (j : Int) ∧ s = .int .i64 (1 + (j : Int) * 12) ∧ OwnL wr base 39 12 (.slice a n c) n (mixU (j * 12) U) ∧ w.grownBy wr (Value.slice a n c).ownBlock) (fun _ i _ => n - (intOf i).toNat)
  case atStart => exact ⟨0, Nat.zero_le _, rfl, rfl, h.congr (fun q _ => by simp [mixU]), grown_refl _ _⟩
  case round =>
    obtain ⟨j, hj, rfl, rfl, ho, hg⟩ := hrel
    by_cases hlt : j < n
    · have hjn : (j : Int) < (n : Int) := by omega
      obtain ⟨g, rfl, hgb, hgl⟩ := ho.loc (by omega)
      have c0 := ho.cellq (q := j * 12) (by omega)
      have c1 := ho.cellq (q := j * 12 + 1) (by omega)
      have c2 := ho.cellq (q := j * 12 + 2) (by omega)
      have c3 := ho.cellq (q := j * 12 + 3) (by omega)
      have c4 := ho.cellq (q := j * 12 + 4) (by omega)
      have c5 := ho.cellq (q := j * 12 + 5) (by omega)
      have c6 := ho.cellq (q := j * 12 + 6) (by omega)
      have c7 := ho.cellq (q := j * 12 + 7) (by omega)
      have c8 := ho.cellq (q := j * 12 + 8) (by omega)
      have c9 := ho.cellq (q := j * 12 + 9) (by omega)
      have c10 := ho.cellq (q := j * 12 + 10) (by omega)
      have c11 := ho.cellq (q := j * 12 + 11) (by omega)
      have f0 := ho.fro
      go_wp2
      go_roundw
      case rel =>
        obtain ⟨r1, r2⟩ := markBody12 hlt ho hg
        exact ⟨j + 1, by omega, by go_num, congrArg (Value.int .i64) (by omega), r1, r2⟩
      case measure => simp [intOf]; omega
    · obtain rfl : j = n := by omega
      go_wp2
      go_ret
      exact ⟨rfl, ho.congr (fun q hq => by simp only [mixU]; rw [if_pos (by omega)]), hg⟩
theorem markPair2 {w wr : World} {base g n c j : Nat} {U : Nat → Int} (hlt : j < n) (ho : OwnL wr base 62 2 (.slice (some ⟨g, 0, none⟩) n c) n (mixU (j * 2) U)) (hg : w.grownBy wr (Value.slice (some ⟨g, 0, none⟩) n c).ownBlock) :
    OwnL ((wr.setCell ⟨g, j * 2, none⟩ (.int .i64 (1 + (j : Int) * 2))).setCell ⟨g, j * 2 + 1, none⟩ (.int .i64 (1 + (j : Int) * 2 + 1))) base 62 2 (.slice (some ⟨g, 0, none⟩) n c) n (mixU ((j + 1) * 2) U) ∧
    w.grownBy ((wr.setCell ⟨g, j * 2, none⟩ (.int .i64 (1 + (j : Int) * 2))).setCell ⟨g, j * 2 + 1, none⟩ (.int .i64 (1 + (j : Int) * 2 + 1))) (Value.slice (some ⟨g, 0, none⟩) n c).ownBlock := by
  have q1 := ho.mark (by omega) (x := 1 + (j : Int) * 2) (by omega)
  have q2 := q1.mark (by omega) (x := 1 + (j : Int) * 2 + 1) (by omega)
  refine ⟨?_, ?_⟩
  · exact q2.congr fun q _ => by rw [show j * 2 + 1 + 1 = ((j + 1) * 2) from by omega]
  · have h0 : w.grownBy wr (some g) := hg
    exact (grown_trans (grown_trans h0 (grown_setG _ _ _ _)) (grown_setG _ _ _ _))
set_option maxRecDepth 20000 in
set_option maxHeartbeats 2000000 in
theorem markPairS_any (base : Nat) (a : Option Addr) (n c : Nat) (U : Nat → Int) (w : World) (h : OwnL w base 62 2 (.slice a n c) n U) (hn : n ≤ 2097152) :
    Calls Tryz.prog 11 #[.slice a n c, .int .i64 1] w fun e w' => e = .returned (.int .i64 (1 + (n : Int) * 2)) ∧ OwnL w' base 62 2 (.slice a n c) n (fun q => 1 + (q : Int)) ∧ w.grownBy w' (Value.slice a n c).ownBlock := by
  have hset := cset_map
  go_enter Tryz.func11, Tryz.ntmps11
  go_wp2
  go_loopw [1, 5] (fun s i wr => ∃ j : Nat, j ≤ n ∧ i = .int .i64 (j : Int) ∧ s = .int .i64 (1 + (j : Int) * 2) ∧ OwnL wr base 62 2 (.slice a n c) n (mixU (j * 2) U) ∧ w.grownBy wr (Value.slice a n c).ownBlock) (fun _ i _ => n - (intOf i).toNat)
  case atStart => exact ⟨0, Nat.zero_le _, rfl, rfl, h.congr (fun q _ => by simp [mixU]), grown_refl _ _⟩
  case round =>
    obtain ⟨j, hj, rfl, rfl, ho, hg⟩ := hrel
    by_cases hlt : j < n
    · have hjn : (j : Int) < (n : Int) := by omega
      obtain ⟨g, rfl, hgb, hgl⟩ := ho.loc (by omega)
      have c0 := ho.cellq (q := j * 2) (by omega)
      have c1 := ho.cellq (q := j * 2 + 1) (by omega)
      have f0 := ho.fro
      go_wp2
      go_roundw
      case rel =>
        obtain ⟨r1, r2⟩ := markPair2 hlt ho hg
        exact ⟨j + 1, by omega, by go_num, congrArg (Value.int .i64) (by omega), r1, r2⟩
      case measure => simp [intOf]; omega
    · obtain rfl : j = n := by omega
      go_wp2
      go_ret
      exact ⟨rfl, ho.congr (fun q hq => by simp only [mixU]; rw [if_pos (by omega)]), hg⟩
set_option maxRecDepth 20000 in
set_option maxHeartbeats 2000000 in
theorem heldPairS_any (a : Option Addr) (n c : Nat) (w : World) (h : Flat w a (n * 2) (fun q => 1 + (q : Int))) (hn : n ≤ 2097152) :
    Calls Tryz.prog 12 #[.slice a n c, .int .i64 1] w fun e w' => e = .returned (.int .i64 (1 + (n : Int) * 2)) ∧ w' = w := by
  go_enter Tryz.func12, Tryz.ntmps12
  go_wp2
  go_loop [1, 5] (fun s i => ∃ j : Nat, j ≤ n ∧ i = .int .i64 (j : Int) ∧ s = .int .i64 (1 + (j : Int) * 2)) (fun _ i => n - (intOf i).toNat)
  case atStart => exact ⟨0, Nat.zero_le _, rfl, rfl⟩
  case round =>
    obtain ⟨j, hj, rfl, rfl⟩ := hrel
    by_cases hlt : j < n
    · have hjn : (j : Int) < (n : Int) := by omega
      obtain ⟨b, o, rfl, hbl, hc⟩ := h (by omega)
      have c0 : w.cell? ⟨b, o + j * 2, none⟩ = some (.int .i64 (1 + (j : Int) * 2)) := (hc (j * 2) (by omega)).trans (congrArg (fun z => some (Value.int .i64 z)) (show (1 : Int) + ((j * 2 : Nat) : Int) = 1 + (j : Int) * 2 by omega))
      have c1 : w.cell? ⟨b, o + j * 2 + 1, none⟩ = some (.int .i64 (1 + (j : Int) * 2 + 1)) := (hc (j * 2 + 1) (by omega)).trans (congrArg (fun z => some (Value.int .i64 z)) (show (1 : Int) + ((j * 2 + 1 : Nat) : Int) = 1 + (j : Int) * 2 + 1 by omega))
      clear hc h
      go_wp2
      go_round
      case rel => exact ⟨j + 1, by omega, by go_num, congrArg (Value.int .i64) (by omega)⟩
      case measure => simp [intOf]; omega
    · obtain rfl : j = n := by omega
      go_wp2
      go_ret
      exact ⟨rfl, rfl⟩
end Go.Proofs.YthfodocnehahcaaGreatDoor
namespace Go.Proofs.YthfodocnehahcaaGreatDoor
open Go.RowKit
set_option linter.unusedVariables false
set_option linter.unusedSimpArgs false
set_option maxRecDepth 20000 in
set_option maxHeartbeats 8000000 in
theorem fnExactStepPairs_walk (a : Option Addr) (n c : Nat) (U : Nat → Int)  (w : World) (h : Flat w a (n * 12) U) (hn : (n : Int) ≤ 9223372036854775807)  (hG0 : w.cell? ⟨0, 0, none⟩ = some (.iface 121 (.agg #[.pointer (some ⟨1, 47, none⟩)]))):
    Calls Tryz.prog 3 #[.slice a n c] w fun e w' => e = .returned (.bool true) ∧ Below w.heap.size w w' := by
  have hset := cset_map
  by_cases h20 : n ≤ 1048576
  · have h1 : ¬ (1048576 - (n : Int) < 0) := by omega
    have hlt0 : 0 < w.heap.size := cell_lt (a := ⟨0, 0, none⟩) hG0
    have HGF : ∀ W, Below w.heap.size w W → W.cell? ⟨0, 0, none⟩ = some (.iface 121 (.agg #[.pointer (some ⟨1, 47, none⟩)])) := fun W b => (b.cell (p := ⟨0, 0, none⟩) hlt0).trans hG0
    obtain ⟨N, hN5, hN144, _⟩ := prR_len n U
    have hN20 : N ≤ 1048576 := by omega
    obtain ⟨R, hR⟩ : ∃ R, R = ofL (prR n U) := ⟨_, rfl⟩
    go_enter Tryz.func3, Tryz.ntmps3
    go_upto_region 5 with (go_at_call 4; refine (szBodyS_any _ _ _ _ hn).mono ?_; rw [if_pos h20]; rintro e w0 ⟨rfl, rfl⟩)
    go_cut [4] (fun s wc => ∃ aw cw lw hw, s = .slice aw N cw ∧ w0.heap.size ≤ lw ∧ lw ≤ hw ∧ Below w0.heap.size w0 wc ∧ Lv wc lw hw 62 2 aw N cw R)
    case first =>
      go_wp2_with (first
        | (go_at_call 6; refine (toBodyS_any _ _ _ U _ h h20).mono ?_; rintro e w2 ⟨b2, rfl, hl2, hr2, hb2⟩)
        | (go_at_call 5; refine (stepPairsS_r hR _ _ N _ hr2.flat h20 hN5).mono ?_; rintro e w3 ⟨a3, c3, rfl, hO3⟩))
      go_meet
      exact ⟨_, _, _, _, rfl, hb2.size, hO3.bel.size, hb2.trans (hO3.bel.mono hb2.size), hO3.lv⟩
    case rest =>
    obtain ⟨aw, cw, lw, hw, rfl, g1, g2, hB, hW⟩ := hcut
    go_upto_region 6 with fail
    go_cut [5] (fun s wc => ∃ ax cx lx hx, s = .slice ax n cx ∧ n ≤ cx ∧ hw ≤ lx ∧ lx ≤ hx ∧ Below w0.heap.size w0 wc ∧ Lv wc lw hw 62 2 aw N cw R ∧ Lv wc lx hx 39 12 ax n cx U)
    case first =>
      go_wp2_with (go_at_call 6; refine (toBodyS_any _ _ _ U _ (h.below hB) h20).mono ?_; rintro e w2 ⟨b2, rfl, hl2, hr2, hb2⟩)
      go_meet
      exact ⟨_, _, _, _, rfl, Nat.le_refl _, hW.le, hb2.size, hB.trans (hb2.mono hB.size), hW.on hb2, Lv.row hr2 hl2 h20⟩
    case rest =>
    clear hB hW
    obtain ⟨ax, cx, lx, hx, rfl, hcx, g3, g4, hB, hW, hX⟩ := hcut
    go_upto_region 7 with fail
    go_cut [6] (fun s wc => ∃ ag cg lg hg, s = .slice ag N cg ∧ hx ≤ lg ∧ lg ≤ hg ∧ Below w0.heap.size w0 wc ∧ Lv wc lw hw 62 2 aw N cw R ∧ Lv wc lx hx 39 12 ax n cx U ∧ Lv wc lg hg 62 2 ag N cg R)
    case first =>
      go_wp2_with (go_at_call 7; refine (stepPairsI_r hR _ _ N _ hX.flat h20 (HGF _ hB) hN5).mono ?_; rintro e w3 ⟨a3, c3, rfl, hO3⟩)
      go_meet
      exact ⟨_, _, _, _, rfl, hX.le, hO3.bel.size, hB.trans (hO3.bel.mono hB.size), hW.on hO3.bel, hX.on hO3.bel, hO3.lv⟩
    case rest =>
    clear hB hW hX
    obtain ⟨ag, cg, lg, hg, rfl, g5, g6, hB, hW, hX, hG⟩ := hcut
    go_upto_region 8 with fail
    go_cut [26] (fun s wc => s = .bool false ∧ Below w0.heap.size w0 wc ∧ Lv wc lw hw 62 2 aw N cw R ∧ Lv wc lx hx 39 12 ax n cx U ∧ Lv wc lg hg 62 2 ag N cg R)
    case first =>
      go_wp2_with (go_at_call 8; refine (eqPairS_same _ _ _ _ _ R _ hG.flat hW.flat hN20).mono ?_; rintro e w8 ⟨rfl, hb8⟩)
      go_meet
      exact ⟨rfl, hB.trans (hb8.mono hB.size), hW.on hb8, hX.on hb8, hG.on hb8⟩
    case rest =>
    clear hB hW hX hG
    obtain ⟨rfl, hB, hW, hX, hG⟩ := hcut
    go_upto_region 10 with fail
    go_cut [31] (fun s wc => s = .bool false ∧ Below w0.heap.size w0 wc ∧ Lv wc lw hw 62 2 aw N cw R ∧ Lv wc lx hx 39 12 ax n cx U ∧ Lv wc lg hg 62 2 ag N cg R)
    case first =>
      go_wp2_with (first
        | (go_at_call 6; refine (toBodyS_any _ _ _ U _ (h.below hB) h20).mono ?_; rintro e w6 ⟨b6, rfl, hl6, hr6, hb6⟩)
        | (go_at_call 9; refine (eqBodyS_same _ _ _ _ _ U _ (hX.on hb6).flat hr6.flat h20).mono ?_; rintro e w7 ⟨rfl, hb7⟩))
      go_meet
      have hb67 := hb6.trans (hb7.mono hb6.size)
      exact ⟨rfl, hB.trans (hb67.mono hB.size), hW.on hb67, hX.on hb67, hG.on hb67⟩
    case rest =>
    clear hB hW hX hG
    obtain ⟨rfl, hB, hW, hX, hG⟩ := hcut
    go_upto_region 13 with fail
    go_cut [7] (fun s wc => s = .int .i64 (1 + (n : Int) * 12) ∧ Below w0.heap.size w0 wc ∧ Lv wc lw hw 62 2 aw N cw R ∧ Lv wc lx hx 39 12 ax n cx (fun q => 1 + (q : Int)) ∧ Lv wc lg hg 62 2 ag N cg R)
    case first =>
      go_wp2_with (go_at_call 10; refine (markBodyS_any lx _ _ _ U _ hX.own (by omega)).mono ?_; rintro e w2 ⟨rfl, ho2, hg2⟩)
      go_meet
      exact ⟨rfl, hX.below hB hB.size hg2 (by omega), hW.gr hX hg2 (.inl (by omega)), hX.me hg2 ho2, hG.gr hX hg2 (.inr (by omega))⟩
    case rest =>
    clear hB hW hX hG
    obtain ⟨rfl, hB, hW, hX, hG⟩ := hcut
    have hk0 : ¬ ((1 + (n : Int) * 12) < 0) := by omega
    go_upto_region 14 with fail
    go_cut [42] (fun s wc => s = .bool false ∧ Below w0.heap.size w0 wc ∧ Lv wc lw hw 62 2 aw N cw R ∧ Lv wc lx hx 39 12 ax n cx (fun q => 1 + (q : Int)) ∧ Lv wc lg hg 62 2 ag N cg R)
    case first =>
      go_wp2_with (go_at_call 8; refine (eqPairS_same _ _ _ _ _ R _ hG.flat hW.flat hN20).mono ?_; rintro e w9 ⟨rfl, hb9⟩)
      go_meet
      exact ⟨rfl, hB.trans (hb9.mono hB.size), hW.on hb9, hX.on hb9, hG.on hb9⟩
    case rest =>
    clear hB hW hX hG
    obtain ⟨rfl, hB, hW, hX, hG⟩ := hcut
    go_upto_region 17 with fail
    go_cut [8] (fun s wc => s = .int .i64 (1 + (N : Int) * 2) ∧ Below w0.heap.size w0 wc ∧ Lv wc lw hw 62 2 aw N cw R ∧ Lv wc lx hx 39 12 ax n cx (fun q => 1 + (q : Int)) ∧ Lv wc lg hg 62 2 ag N cg (fun q => 1 + (q : Int)))
    case first =>
      go_wp2_with (go_at_call 11; refine (markPairS_any lg _ _ _ R _ hG.own (by omega)).mono ?_; rintro e w2 ⟨rfl, ho2, hg2⟩)
      go_meet
      exact ⟨rfl, hG.below hB hB.size hg2 (by omega), hW.gr hG hg2 (.inl (by omega)), hX.gr hG hg2 (.inl (by omega)), hG.me hg2 ho2⟩
    case rest =>
    clear hB hW hX hG
    obtain ⟨rfl, hB, hW, hX, hG⟩ := hcut
    have hk1 : ¬ ((1 + (N : Int) * 2) < 0) := by omega
    go_upto_region 19 with fail
    go_cut [9] (fun s wc => s = .int .i64 (1 + (N : Int) * 2) ∧ Below w0.heap.size w0 wc ∧ Lv wc lw hw 62 2 aw N cw R ∧ Lv wc lx hx 39 12 ax n cx (fun q => 1 + (q : Int)) ∧ Lv wc lg hg 62 2 ag N cg (fun q => 1 + (q : Int)))
    case first =>
      go_wp2_with (go_at_call 12; refine (heldPairS_any _ _ _ _ hG.flat (by omega)).mono ?_; rintro e w2 ⟨rfl, rfl⟩)
      go_meet
      exact ⟨rfl, hB, hW, hX, hG⟩
    case rest =>
    clear hB hW hX hG
    obtain ⟨rfl, hB, hW, hX, hG⟩ := hcut
    go_upto_region 24 with fail
    go_cut [10] (fun s wc => ∃ ah ch lh hh, s = .slice ah N ch ∧ Below w0.heap.size w0 wc ∧ Lv wc lw hw 62 2 aw N cw R ∧ Lv wc lx hx 39 12 ax n cx (fun q => 1 + (q : Int)) ∧ Lv wc lg hg 62 2 ag N cg (fun q => 1 + (q : Int)) ∧ Lv wc lh hh 62 2 ah N ch R)
    case first =>
      go_wp2_with (first
        | (go_at_call 6; refine (toBodyS_any _ _ _ U _ (h.below hB) h20).mono ?_; rintro e w2 ⟨b2, rfl, hl2, hr2, hb2⟩)
        | (go_at_call 7; refine (stepPairsI_r hR _ _ N _ hr2.flat h20 (HGF _ (hB.trans (hb2.mono hB.size))) hN5).mono ?_; rintro e w3 ⟨a3, c3, rfl, hO3⟩))
      go_meet
      have hb23 := hb2.trans (hO3.bel.mono hb2.size)
      exact ⟨_, _, _, _, rfl, hB.trans (hb23.mono hB.size), hW.on hb23, hX.on hb23, hG.on hb23, hO3.lv⟩
    case rest =>
    clear hB hW hX hG
    obtain ⟨ah, ch, lh, hh, rfl, hB, hW, hX, hG, hH⟩ := hcut
    go_upto_region 25 with fail
    go_cut [60] (fun s wc => s = .bool false ∧ Below w0.heap.size w0 wc ∧ Lv wc lg hg 62 2 ag N cg (fun q => 1 + (q : Int)))
    case first =>
      go_wp2_with (go_at_call 8; refine (eqPairS_same _ _ _ _ _ R _ hH.flat hW.flat hN20).mono ?_; rintro e w9 ⟨rfl, hb9⟩)
      go_meet
      exact ⟨rfl, hB.trans (hb9.mono hB.size), hG.on hb9⟩
    case rest =>
    clear hB hW hX hG hH
    obtain ⟨rfl, hB, hG⟩ := hcut
    go_upto_region 28 with fail
    go_wp2_with (go_at_call 12; refine (heldPairS_any _ _ _ _ hG.flat (by omega)).mono ?_; rintro e w2 ⟨rfl, rfl⟩)
    go_ret
    exact ⟨rfl, hB⟩
  · have h1 : (1048576 - (n : Int) < 0) := by omega
    go_enter Tryz.func3, Tryz.ntmps3
    go_wp2_with (go_at_call 4; refine (szBodyS_any _ _ _ _ hn).mono ?_; rw [if_neg h20]; rintro e w0 ⟨rfl, rfl⟩)
    go_ret
    exact ⟨rfl, Below.refl _ _⟩
end Go.Proofs.YthfodocnehahcaaGreatDoor
namespace Go.Proofs.YthfodocnehahcaaGreatDoor
theorem head_cut {l : List (List Char)} {c : List Char} (h : (l.head? == some c) = true) : ∃ rest, l = c :: rest := by
  cases l with
  | nil => simp at h
  | cons a r => simp at h; exact ⟨r, by rw [h]⟩
theorem strip_cut (rest : List (List Char)) : stripLifts liftWords ("cut".toList :: rest) = ([], "cut".toList :: rest) := by kernel_rfl
theorem make_of {P : Program} {l : List Char} (h0 : P.initOrder.toList = l) (h1 : ((behindMainWord (wordsSigns l)).head? == some "cut".toList) = true) : P.make = some .cut := by
  obtain ⟨rest, hr⟩ := head_cut h1
  unfold Program.make
  rw [h0, hr]
  rfl
theorem headLifts_of {P : Program} {l : List Char} (h0 : P.initOrder.toList = l) (h1 : ((behindMainWord (wordsSigns l)).head? == some "cut".toList) = true) : P.headLifts = [] := by
  obtain ⟨rest, hr⟩ := head_cut h1
  unfold Program.headLifts
  rw [h0, hr, strip_cut]
  rfl
theorem liftsFinal_of {P : Program} {l : List Char} (h0 : P.initOrder.toList = l) (h1 : ((behindMainWord (wordsSigns l)).head? == some "cut".toList) = true) : P.liftsFinal = false := by
  have hh := headLifts_of h0 h1
  obtain ⟨rest, hr⟩ := head_cut h1
  unfold Program.liftsFinal
  rw [h0, hr, hh]
  rfl
theorem mayEnter_of {P : Program} {l : List Char} (h0 : P.initOrder.toList = l) (h1 : ((behindMainWord (wordsSigns l)).head? == some "cut".toList) = true) (h2 : P.laysLater = false) (h3 : P.bearsReflect = false) (h4 : P.doorFits [] = true) : P.mayEnter = true := by
  obtain ⟨rest, hr⟩ := head_cut h1
  unfold Program.mayEnter
  rw [h0, hr]
  simp only [strip_cut, h2, h3, h4]
  simp
end Go.Proofs.YthfodocnehahcaaGreatDoor
namespace Go.Proofs.YthfodocnehahcaaGreatDoor
set_option maxRecDepth 100000
def ordL : { l : List Char // Tryz.prog.initOrder = String.ofList l } := ⟨_, rfl⟩
theorem ordT : Tryz.prog.initOrder.toList = ordL.1 := (congrArg String.toList ordL.2).trans String.toList_ofList
theorem headE : ((behindMainWord (wordsSigns ordL.1)).head? == some "cut".toList) = true := by kernel_rfl
theorem makeT : Tryz.prog.make = some .cut := make_of ordT headE
theorem liftsFinalT : Tryz.prog.liftsFinal = false := liftsFinal_of ordT headE
theorem laysLaterT : Tryz.prog.laysLater = false := by kernel_rfl
theorem bearsReflectT : Tryz.prog.bearsReflect = false := by kernel_rfl
theorem doorFitsT : Tryz.prog.doorFits [] = true := by kernel_rfl
theorem mayEnterT : Tryz.prog.mayEnter = true := mayEnter_of ordT headE laysLaterT bearsReflectT doorFitsT
theorem ownT : ownKnob Tryz.prog.godebug = none := by kernel_rfl
theorem laidOutT : laidOutB Tryz.prog = true := by kernel_rfl
theorem mapsRowedT : mapsRowed Tryz.prog = true := by kernel_rfl
theorem stopsHeardT : Tryz.prog.stopsHeard = true := by kernel_rfl
theorem plainKeysT : Tryz.prog.plainKeys = true := by kernel_rfl
end Go.Proofs.YthfodocnehahcaaGreatDoor
namespace Go.Proofs.YthfodocnehahcaaGreatDoor
open Go.RowKit Go.ChangeShapes Go.WideShapes Go.Deep
set_option linter.unusedVariables false
set_option linter.unusedSimpArgs false
/-- what is read at the type is k numbers -/
def IntsOf (P : Program) (e : TypeId) (k : Nat) : Prop :=
  ∀ (H : Type) (enc : TypeId × Value → H) (w : World) (base : Nat) (spare : Nat → Bool) (held : Bool) (fuel : Nat) (cs : List Value) (x : DataW H × List MemPlace),
    DataW.trod enc P w base spare held fuel e cs = some x → cs.length = k ∧ ∀ j, j < k → ∃ v : Int, cs[j]? = some (.int .i64 v) ∧ (Lit.int .i64 v).wf = true
theorem IntsOf.int {P : Program} {e : TypeId} (h : P.underlying e = some (.int .i64)) : IntsOf P e 1 := by
  intro H enc w base spare held fuel cs x hx
  obtain ⟨v, h1, _, h3⟩ := DataW.trod_int h hx
  subst h1
  refine ⟨rfl, fun j hj => ?_⟩
  obtain rfl : j = 0 := by omega
  exact ⟨v, rfl, h3⟩
theorem IntsOf.struct {P : Program} {t : TypeId} {k : Nat} {fs : Array Field} (cs_ : List Nat) (ht : P.underlying t = some (.struct fs)) (hk : P.cellsOf t = k)
    (hf : ∀ (i : Nat) (f : Field) (c : Nat), fs[i]? = some f → cs_[i]? = some c → P.cellsOf f.type = c ∧ IntsOf P f.type c)
    (cover : (List.range k).all (fun j => (List.range fs.size).any fun i => match fs[i]?, cs_[i]? with | some f, some c => decide (f.offset ≤ j ∧ j < f.offset + c) | _, _ => false) = true) : IntsOf P t k := by
  intro H enc w base spare held fuel cs x hx
  obtain ⟨xs, n, _, _, hl, hlen, hg⟩ := DataW.trod_struct ht hx
  rw [hk] at hl
  refine ⟨hl, fun j hj => ?_⟩
  rw [List.all_eq_true] at cover
  have c1 := cover j (List.mem_range.2 hj)
  rw [List.any_eq_true] at c1
  obtain ⟨i, hi, hm⟩ := c1
  have hi' := List.mem_range.1 hi
  cases hfi : fs[i]? with
  | none => simp [hfi] at hm
  | some f =>
    cases hci : cs_[i]? with
    | none => simp [hfi, hci] at hm
    | some c =>
      simp only [hfi, hci, decide_eq_true_eq] at hm
      obtain ⟨hc, hI⟩ := hf i f c hfi hci
      have g := hg i f hfi
      rw [hc] at g
      have hxi : i < xs.length := by rw [hlen]; exact hi'
      rw [List.getElem?_eq_getElem hxi] at g
      obtain ⟨_, q⟩ := hI H enc w base spare held _ _ _ g
      obtain ⟨v, hv, hw⟩ := q (j - f.offset) (by omega)
      refine ⟨v, ?_, hw⟩
      rw [List.getElem?_take, if_pos (by omega), List.getElem?_drop, show f.offset + (j - f.offset) = j by omega] at hv
      exact hv
theorem open_flat {P : Program} {t e : TypeId} {k : Nat} (hk0 : 0 < k) (ht : P.underlying t = some (.slice e)) (hk : P.cellsOf e = k) (hE : IntsOf P e k)
    {H : Type} {enc : TypeId × Value → H} {w : World} {base : Nat} {spare : Nat → Bool} {held : Bool} {fuel : Nat} {v : Value} {x : DataW H × List MemPlace}
    (h : DataW.trod enc P w base spare held fuel t [v] = some x) :
    ∃ (a : Option Addr) (n c : Nat) (U : Nat → Int), v = .slice a n c ∧ (n : Int) ≤ 9223372036854775807 ∧ Flat w a (n * k) U ∧ ∀ q, q < n * k → (Lit.int .i64 (U q)).wf = true := by
  rcases open_slice ht h with ⟨hc, _⟩ | ⟨a, len, cap, m, fu, D, Pl, hc, hb, hl, hm, hmm, _, hall⟩
  · simp only [List.cons.injEq, and_true] at hc
    subst hc
    exact ⟨none, 0, 0, fun _ => 0, rfl, by omega, by rw [Nat.zero_mul]; exact Flat.nil, fun q hq => by omega⟩
  · simp only [List.cons.injEq, and_true] at hc
    subst hc
    have hlm : len ≤ m := by rw [hmm]; split <;> omega
    have one : ∀ q, q < len * k → ∃ z : Int, w.cell? (a.add q) = some (.int .i64 z) ∧ (Lit.int .i64 z).wf = true := by
      intro q hq
      have hi : q / k < len := Nat.div_lt_of_lt_mul (by rw [Nat.mul_comm]; exact hq)
      obtain ⟨cs', h1, h2⟩ := hall (q / k) (by omega)
      obtain ⟨_, hlen, hcell⟩ := World.cells?_some h1
      obtain ⟨_, hv⟩ := hE H enc w base spare held _ _ _ h2
      obtain ⟨z, hz, hw⟩ := hv (q % k) (Nat.mod_lt _ hk0)
      have := hcell (q % k) (by rw [hk]; exact Nat.mod_lt _ hk0)
      rw [hz, hk, add_add, Nat.mul_comm, Nat.div_add_mod] at this
      exact ⟨z, this, hw⟩
    obtain ⟨U, hU⟩ := choose_lt one
    refine ⟨some a, len, cap, U, rfl, by unfold maxLen at hm; omega, ?_, fun q hq => (hU q hq).2⟩
    intro h0
    obtain ⟨b, o, spot⟩ := a
    have g0 := (hU 0 h0).1
    have hspot : spot = none := by simpa [Addr.add] using World.cell?_spot g0
    subst hspot
    have hbl := World.block_lt_of_cell? w _ g0
    simp only [Addr.add, if_true] at hbl
    refine ⟨b, o, rfl, hbl, fun q hq => ?_⟩
    have := (hU q hq).1
    by_cases hq0 : q = 0
    · subst hq0; simpa [Addr.add] using this
    · simpa [Addr.add, hq0] using this
end Go.Proofs.YthfodocnehahcaaGreatDoor
