/- Texts of a proof. -/
import Derived.Test.YtfiaokkolcodgaaGreatS9q
import Derived.Test.YtfiaokkolcodgaaGreatB22
import Derived.Test.YtfiaokkolcodgaaGreatS9p
import Derived.Deep.RegionHeld3
import Derived.Deep.DeepCutAuto
set_option maxHeartbeats 16000000
set_option maxRecDepth 20000
namespace Go.Proofs.YtfiaokkolcodgaaGreat
open Go.RowKit
set_option linter.unusedVariables false
set_option linter.unusedSimpArgs false
structure BOk (V : Nat → Int) : Prop where
 i0 : 0 ≤ V 0 ∧ V 0 ≤ 999999999
 sh : shB (V 1) (V 2) (V 3) = true
 a4 : -2560000 ≤ V 4 ∧ V 4 ≤ 2560000
 a5 : -2560000 ≤ V 5 ∧ V 5 ≤ 2560000
 d6 : -20000000 ≤ V 6 ∧ V 6 ≤ 20000000
 d7 : -20000000 ≤ V 7 ∧ V 7 ≤ 20000000
 m8 : 0 ≤ V 8 ∧ V 8 ≤ 1000
 b9 : 0 ≤ V 9 ∧ V 9 ≤ 256
 r10 : 0 ≤ V 10 ∧ V 10 ≤ 256
 q11 : 0 ≤ V 11 ∧ V 11 ≤ 8
 fx : V 8 = 0 → V 11 = 0
 rs : (V 8 ≠ 0 ∧ V 11 ≠ 8) ∨ (V 6 = 0 ∧ V 7 = 0)
theorem BOk.of {V : Nat → Int} (h : bodyB V = true) : BOk V := by
 unfold bodyB restB inB at h
 simp only [Bool.and_eq_true, decide_eq_true_eq] at h
 obtain ⟨a0, a1, a2, a3, a4, a5, a6, a7, a8, a9⟩ := h
 exact ⟨a0, a1, by omega, by omega, by omega, by omega, a4, a5, a6, a7, a8, a9⟩
theorem BOk.to {V : Nat → Int} (h : BOk V) : bodyB V = true := by
 obtain ⟨a0, a1, a2, a3, a4, a5, a6, a7, a8, a9, b0, b1⟩ := h
 unfold bodyB restB inB
 simp only [Bool.and_eq_true, decide_eq_true_eq]
 exact ⟨a0, a1, by omega, by omega, a6, a7, a8, a9, b0, b1⟩
theorem clampZ_in (l n : Int) (h : 0 ≤ l) : -l ≤ clampZ l n ∧ clampZ l n ≤ l := by unfold clampZ; repeat (first | omega | split)
theorem setV_ne {V : Nat → Int} {k j : Nat} {a : Int} (h : j ≠ k) : setV V k a j = V j := by unfold setV; rw [if_neg h]
theorem setV_eq {V : Nat → Int} {k : Nat} {a : Int} : setV V k a k = a := by unfold setV; rw [if_pos rfl]
theorem pull_ok {V : Nat → Int} (g : Int) (h : BOk V) : BOk (pullV g V) := by
 unfold pullV
 cases hl : liveV V with
 | false => exact h
 | true =>
  unfold liveV at hl
  simp only [Bool.and_eq_true, decide_eq_true_eq, Bool.not_eq_true', decide_eq_false_iff_not] at hl
  have c := clampZ_in 20000000 (V 7 - g * V 8) (by omega)
  generalize clampZ 20000000 (V 7 - g * V 8) = y at c
  show BOk (setV V 7 y)
  obtain ⟨a0, a1, a2, a3, a4, a5, a6, a7, a8, a9, b0, b1⟩ := h
  constructor <;> simp only [setV, reduceIte] <;> (first | assumption | omega | (simp; assumption) | (simp; omega))
theorem setV4 (V : Nat → Int) (x y u v : Int) : (∀ j, j ≠ 4 → j ≠ 5 → j ≠ 6 → j ≠ 7 → setV (setV (setV (setV V 4 x) 5 y) 6 u) 7 v j = V j) ∧ setV (setV (setV (setV V 4 x) 5 y) 6 u) 7 v 4 = x ∧ setV (setV (setV (setV V 4 x) 5 y) 6 u) 7 v 5 = y ∧ setV (setV (setV (setV V 4 x) 5 y) 6 u) 7 v 6 = u ∧ setV (setV (setV (setV V 4 x) 5 y) 6 u) 7 v 7 = v := by
 refine ⟨fun j h4 h5 h6 h7 => ?_, ?_, ?_, ?_, setV_eq⟩
 · rw [setV_ne h7, setV_ne h6, setV_ne h5, setV_ne h4]
 · rw [setV_ne (by decide), setV_ne (by decide), setV_ne (by decide), setV_eq]
 · rw [setV_ne (by decide), setV_ne (by decide), setV_eq]
 · rw [setV_ne (by decide), setV_eq]
theorem setV3 (V : Nat → Int) (x y u : Int) : (∀ j, j ≠ 6 → j ≠ 7 → j ≠ 11 → setV (setV (setV V 6 x) 7 y) 11 u j = V j) ∧ setV (setV (setV V 6 x) 7 y) 11 u 6 = x ∧ setV (setV (setV V 6 x) 7 y) 11 u 7 = y ∧ setV (setV (setV V 6 x) 7 y) 11 u 11 = u := by
 refine ⟨fun j h6 h7 h11 => ?_, ?_, ?_, setV_eq⟩
 · rw [setV_ne h11, setV_ne h7, setV_ne h6]
 · rw [setV_ne (by decide), setV_ne (by decide), setV_eq]
 · rw [setV_ne (by decide), setV_eq]
theorem move_ok {V : Nat → Int} (p q : Int) (h : BOk V) (hm : V 8 ≠ 0) : BOk (moveV V p q) := by
 have c1 := clampZ_in 2560000 (V 4 + p) (by omega)
 have c2 := clampZ_in 2560000 (V 5 + q) (by omega)
 unfold moveV mvX mvY
 generalize clampZ 2560000 (V 4 + p) = x at c1
 generalize clampZ 2560000 (V 5 + q) = y at c2
 obtain ⟨a0, a1, a2, a3, a4, a5, a6, a7, a8, a9, b0, b1⟩ := h
 obtain ⟨u, hu⟩ : ∃ u, (if x = V 4 + p then V 6 else 0) = u := ⟨_, rfl⟩
 obtain ⟨v, hv⟩ : ∃ v, (if y = V 5 + q then V 7 else 0) = v := ⟨_, rfl⟩
 rw [hu, hv]
 have bu : (-20000000 ≤ u ∧ u ≤ 20000000) ∧ (V 6 = 0 → u = 0) := by rw [← hu]; split <;> constructor <;> (try intro) <;> omega
 have bv : (-20000000 ≤ v ∧ v ≤ 20000000) ∧ (V 7 = 0 → v = 0) := by rw [← hv]; split <;> constructor <;> (try intro) <;> omega
 obtain ⟨e, e4, e5, e6, e7⟩ := setV4 V x y u v
 generalize setV (setV (setV (setV V 4 x) 5 y) 6 u) 7 v = W at e e4 e5 e6 e7
 have w0 := e 0 (by decide) (by decide) (by decide) (by decide)
 have w1 := e 1 (by decide) (by decide) (by decide) (by decide)
 have w2 := e 2 (by decide) (by decide) (by decide) (by decide)
 have w3 := e 3 (by decide) (by decide) (by decide) (by decide)
 have w8 := e 8 (by decide) (by decide) (by decide) (by decide)
 have w9 := e 9 (by decide) (by decide) (by decide) (by decide)
 have wa := e 10 (by decide) (by decide) (by decide) (by decide)
 have wb := e 11 (by decide) (by decide) (by decide) (by decide)
 exact ⟨by rw [w0]; exact a0, by rw [w1, w2, w3]; exact a1, by rw [e4]; exact c1, by rw [e5]; exact c2, by rw [e6]; exact bu.1, by rw [e7]; exact bv.1, by rw [w8]; exact a6, by rw [w9]; exact a7, by rw [wa]; exact a8, by rw [wb]; exact a9, by rw [w8, wb]; exact b0, by rw [w8, wb, e6, e7]; rcases b1 with q | q; exact .inl q; exact .inr ⟨bu.2 q.1, bv.2 q.2⟩⟩
theorem go_ok {V : Nat → Int} (h : BOk V) : BOk (goV V) := by
 unfold goV
 cases hl : liveV V with
 | false => exact h
 | true =>
  unfold liveV at hl
  simp only [Bool.and_eq_true, decide_eq_true_eq, Bool.not_eq_true', decide_eq_false_iff_not] at hl
  exact move_ok _ _ h (by omega)
theorem quiet_ok {V : Nat → Int} (r : Int) (h : BOk V) (hr : 0 ≤ r ∧ r ≤ 8) : BOk (quietV r V) := by
 unfold quietV
 cases hl : (decide (V 8 = 0) || decide (8 ≤ V 11)) with
 | true => exact h
 | false =>
  simp only [Bool.or_eq_false_iff, decide_eq_false_iff_not] at hl
  obtain ⟨z, hz⟩ : ∃ z, (bif decide (-8 ≤ spX V ∧ spX V ≤ 8) && decide (-8 ≤ spY V ∧ spY V ≤ 8) then mn (r + 1) 7 else 0) = z := ⟨_, rfl⟩
  rw [hz]
  have bz : 0 ≤ z ∧ z ≤ 7 := by
   rw [← hz]
   cases (decide (-8 ≤ spX V ∧ spX V ≤ 8) && decide (-8 ≤ spY V ∧ spY V ≤ 8))
   · exact ⟨by show (0 : Int) ≤ 0; omega, by show (0 : Int) ≤ 7; omega⟩
   · show 0 ≤ mn (r + 1) 7 ∧ mn (r + 1) 7 ≤ 7
     unfold mn
     split <;> omega
  show BOk (setV V 11 z)
  obtain ⟨a0, a1, a2, a3, a4, a5, a6, a7, a8, a9, b0, b1⟩ := h
  constructor <;> simp only [setV, reduceIte] <;> (first | assumption | omega | (simp; assumption) | (simp; omega))
theorem push_ok {V : Nat → Int} (p q : Int) (h : BOk V) : BOk (pushV V p q) := by
 unfold pushV
 by_cases m : V 8 = 0
 · rw [if_pos m]; exact h
 · rw [if_neg m]
   have c1 := clampZ_in 20000000 (V 6 + p) (by omega)
   have c2 := clampZ_in 20000000 (V 7 + q) (by omega)
   generalize clampZ 20000000 (V 6 + p) = x at c1
   generalize clampZ 20000000 (V 7 + q) = y at c2
   obtain ⟨a0, a1, a2, a3, a4, a5, a6, a7, a8, a9, b0, b1⟩ := h
   obtain ⟨e, e6, e7, eb⟩ := setV3 V x y 0
   generalize setV (setV (setV V 6 x) 7 y) 11 0 = W at e e6 e7 eb
   have w0 := e 0 (by decide) (by decide) (by decide)
   have w1 := e 1 (by decide) (by decide) (by decide)
   have w2 := e 2 (by decide) (by decide) (by decide)
   have w3 := e 3 (by decide) (by decide) (by decide)
   have w4 := e 4 (by decide) (by decide) (by decide)
   have w5 := e 5 (by decide) (by decide) (by decide)
   have w8 := e 8 (by decide) (by decide) (by decide)
   have w9 := e 9 (by decide) (by decide) (by decide)
   have wa := e 10 (by decide) (by decide) (by decide)
   exact ⟨by rw [w0]; exact a0, by rw [w1, w2, w3]; exact a1, by rw [w4]; exact a2, by rw [w5]; exact a3, by rw [e6]; exact c1, by rw [e7]; exact c2, by rw [w8]; exact a6, by rw [w9]; exact a7, by rw [wa]; exact a8, by rw [eb]; omega, by rw [eb]; exact fun _ => rfl, .inl ⟨by rw [w8]; exact m, by rw [eb]; decide⟩⟩
theorem Bods.put {n : Nat} {U : Nat → Int} {k : Nat} {V : Nat → Int} (h : Bods n U) (hk : k < n) (hV : BOk V) (h0 : V 0 = U (k * 12)) : Bods n (putRow U k V) := by
 have at_ : ∀ i j, i ≠ k → j < 12 → putRow U k V (i * 12 + j) = U (i * 12 + j) := fun i j hi hj => by unfold putRow; rw [if_neg (by omega)]
 have at0 : ∀ i, putRow U k V (i * 12) = U (i * 12) := fun i => by
  by_cases e : i = k
  · subst e; unfold putRow; rw [if_pos (by omega), Nat.sub_self]; exact h0
  · have := at_ i 0 e (by omega); simpa using this
 refine ⟨h.le, fun i hi => ?_, fun i hi => ?_⟩
 · by_cases e : i = k
   · subst e
     rw [bodyB_cong (W := V) (fun j hj => by unfold putRow; rw [if_pos (by omega), Nat.add_sub_cancel_left])]
     exact hV.to
   · rw [bodyB_cong (W := fun j => U (i * 12 + j)) (fun j hj => at_ i j e hj)]
     exact h.ok i hi
 · rw [at0, at0]; exact h.asc i hi
theorem Bods.row {n : Nat} {U : Nat → Int} (h : Bods n U) {k : Nat} (hk : k < n) : BOk (fun j => U (k * 12 + j)) := BOk.of (h.ok k hk)
theorem Bods.pull {n : Nat} {U : Nat → Int} (h : Bods n U) (g : Int) : Bods n (mapR (fun _ V => pullV g V) U n) :=
 h.map (fun k hk => (pull_ok g (h.row hk)).to) (fun k hk => by show pullV g (fun j => U (k * 12 + j)) 0 = _; unfold pullV; cases liveV (fun j => U (k * 12 + j)) <;> rfl)
theorem Bods.go {n : Nat} {U : Nat → Int} (h : Bods n U) : Bods n (mapR (fun _ V => goV V) U n) :=
 h.map (fun k hk => (go_ok (h.row hk)).to) (fun k hk => by show goV (fun j => U (k * 12 + j)) 0 = _; unfold goV; cases liveV (fun j => U (k * 12 + j)) <;> rfl)
theorem Bods.quiet {n : Nat} {U U2 : Nat → Int} (h : Bods n U) (h2 : Bods n U2) : Bods n (mapR (fun i V => quietV (U2 (i * 12 + 11)) V) U n) :=
 h.map (fun k hk => (quiet_ok _ (h.row hk) (h2.row hk).q11).to) (fun k hk => by show quietV _ (fun j => U (k * 12 + j)) 0 = _; unfold quietV; cases (decide ((fun j => U (k * 12 + j)) 8 = 0) || decide (8 ≤ (fun j => U (k * 12 + j)) 11)) <;> rfl)
theorem moveV_0 (V : Nat → Int) (p q : Int) : moveV V p q 0 = V 0 := rfl
theorem moveV_8 (V : Nat → Int) (p q : Int) : moveV V p q 8 = V 8 := rfl
theorem putRow_8 {U V : Nat → Int} {k i : Nat} (h : V 8 = U (k * 12 + 8)) : putRow U k V (i * 12 + 8) = U (i * 12 + 8) := by
 unfold putRow
 by_cases e : i = k
 · subst e; rw [if_pos (by omega), Nat.add_sub_cancel_left]; exact h
 · rw [if_neg (by omega)]
theorem putRow_else {U V : Nat → Int} {k i j : Nat} (e : i ≠ k) (hj : j < 12) : putRow U k V (i * 12 + j) = U (i * 12 + j) := by unfold putRow; rw [if_neg (by omega)]
theorem Bods.apart {n : Nat} {U : Nat → Int} (h : Bods n U) {A B : Nat} (hA : A < n) (hB : B < n) (hAB : A ≠ B) (X Y D : Int) : Bods n (apartU U A B X Y D) ∧ ∀ i, apartU U A B X Y D (i * 12 + 8) = U (i * 12 + 8) := by
 unfold apartU
 cases decide (0 < (D - 64).tdiv 4) with
 | false => exact ⟨h, fun i => rfl⟩
 | true =>
  simp only [cond_true]
  generalize (-X * shareV (fun j => U (A * 12 + j)) (fun j => U (B * 12 + j)) ((D - 64).tdiv 4)).tdiv 256 = p
  generalize (-Y * shareV (fun j => U (A * 12 + j)) (fun j => U (B * 12 + j)) ((D - 64).tdiv 4)).tdiv 256 = q
  generalize (X * shareV (fun j => U (B * 12 + j)) (fun j => U (A * 12 + j)) ((D - 64).tdiv 4)).tdiv 256 = r
  generalize (Y * shareV (fun j => U (B * 12 + j)) (fun j => U (A * 12 + j)) ((D - 64).tdiv 4)).tdiv 256 = s
  have key : ∀ U1 : Nat → Int, Bods n U1 → (∀ i, U1 (i * 12 + 8) = U (i * 12 + 8)) → (U1 (B * 12) = U (B * 12)) → Bods n (bif decide (0 < U (B * 12 + 8)) then putRow U1 B (moveV (fun j => U (B * 12 + j)) r s) else U1) ∧ ∀ i, (bif decide (0 < U (B * 12 + 8)) then putRow U1 B (moveV (fun j => U (B * 12 + j)) r s) else U1) (i * 12 + 8) = U (i * 12 + 8) := by
   intro U1 h1 h8 h0
   by_cases m : 0 < U (B * 12 + 8)
   · rw [decide_eq_true m]
     exact ⟨h1.put hB (move_ok r s (h.row hB) (by show U (B * 12 + 8) ≠ 0; omega)) (by rw [moveV_0, h0]; rfl), fun i => (putRow_8 (by rw [moveV_8, h8])).trans (h8 i)⟩
   · rw [decide_eq_false m]; exact ⟨h1, h8⟩
  by_cases m : 0 < U (A * 12 + 8)
  · rw [decide_eq_true m]
    refine key _ (h.put hA (move_ok p q (h.row hA) (by show U (A * 12 + 8) ≠ 0; omega)) (by rw [moveV_0]; rfl)) (fun i => putRow_8 (by rw [moveV_8])) ?_
    have := putRow_else (U := U) (V := moveV (fun j => U (A * 12 + j)) p q) (k := A) (i := B) (j := 0) (fun e => hAB e.symm) (by omega)
    simpa using this
  · rw [decide_eq_false m]; exact key U h (fun i => rfl) rfl
def apartN (C U : Nat → Int) : Nat → Nat → Int
 | 0 => U
 | k + 1 => apartU (apartN C U k) (C (k * 5)).toNat (C (k * 5 + 1)).toNat (C (k * 5 + 2)) (C (k * 5 + 3)) (C (k * 5 + 4))
structure CtOk (n m : Nat) (C : Nat → Int) : Prop where
 a : ∀ k, k < m → 0 ≤ C (k * 5) ∧ C (k * 5) < (n : Int)
 b : ∀ k, k < m → 0 ≤ C (k * 5 + 1) ∧ C (k * 5 + 1) < (n : Int)
 ne : ∀ k, k < m → C (k * 5) ≠ C (k * 5 + 1)
 x : ∀ k, k < m → -256 ≤ C (k * 5 + 2) ∧ C (k * 5 + 2) ≤ 256
 y : ∀ k, k < m → -256 ≤ C (k * 5 + 3) ∧ C (k * 5 + 3) ≤ 256
 d : ∀ k, k < m → 0 ≤ C (k * 5 + 4) ∧ C (k * 5 + 4) ≤ 102400
theorem Bods.aparts {n m : Nat} {U C : Nat → Int} (h : Bods n U) (hC : CtOk n m C) : ∀ k, k ≤ m → Bods n (apartN C U k) ∧ ∀ i, apartN C U k (i * 12 + 8) = U (i * 12 + 8)
 | 0, _ => ⟨h, fun i => rfl⟩
 | k + 1, hk => by
  obtain ⟨h1, h2⟩ := Bods.aparts h hC k (by omega)
  have ha := hC.a k (by omega)
  have hb := hC.b k (by omega)
  have hn := hC.ne k (by omega)
  obtain ⟨q1, q2⟩ := h1.apart (A := (C (k * 5)).toNat) (B := (C (k * 5 + 1)).toNat) (by omega) (by omega) (by omega) (C (k * 5 + 2)) (C (k * 5 + 3)) (C (k * 5 + 4))
  exact ⟨q1, fun i => (q2 i).trans (h2 i)⟩
def FlatB (w : World) (a : Option Addr) (n : Nat) (A : Nat → Bool) : Prop := 0 < n → ∃ b o, a = some ⟨b, o, none⟩ ∧ b < w.heap.size ∧ ∀ j, j < n → w.cell? ⟨b, o + j, none⟩ = some (.bool (A j))
theorem FlatB.below {w w' : World} {a : Option Addr} {n B : Nat} {A : Nat → Bool} (h : FlatB w a n A) (hb : Below w.heap.size w w') : FlatB w' a n A := fun h0 => by
 obtain ⟨b, o, e, l, c⟩ := h h0
 exact ⟨b, o, e, Nat.lt_of_lt_of_le l hb.size, fun j hj => (hb.cell (p := ⟨b, o + j, none⟩) l).trans (c j hj)⟩
def wakeV (b : Bool) (V : Nat → Int) : Nat → Int := bif b && decide (8 ≤ V 11) then setV V 11 0 else V
def awK (G : Nat → Int) (A : Nat → Bool) (k : Nat) : Bool := decide (0 ≤ G k) && A (G k).toNat
theorem l9Wake_any (a : Option Addr) (n c : Nat) (U : Nat → Int) (ag : Option Addr) (cg : Nat) (G : Nat → Int) (aa : Option Addr) (na ca : Nat) (A : Nat → Bool) (w : World) (h : Flat w a (n * 12) U) (hn : n ≤ 1048576) (hG2 : Flat w ag (n * 1) G) (hA3 : FlatB w aa na A) (hGn : ∀ k, k < n → G k < (na : Int)) :
 Calls Tryz.prog 93 #[.slice a n c, .slice ag n cg, .slice aa na ca] w fun e w' => ∃ a1 c1, e = .returned (.slice a1 n c1) ∧ OutL w w' 35 12 a1 n c1 (mapR (fun i V => wakeV (awK G A i) V) U n) := by
 have hset := cset_map
 go_enter Tryz.func93, Tryz.ntmps93
 go_upto_region 1 with fail
 go_cut [7] (fun s0 wc => ∃ a1 c1, s0 = .slice a1 n c1 ∧ OutL w wc 35 12 a1 n c1 U)
 case first =>
  go_wp2_with (go_at_call 43; refine (l8Copy_any a n c U _ h hn).mono ?_; rintro e w3 ⟨a1, c1, rfl, hO⟩)
  go_meet
  exact ⟨_, _, rfl, hO⟩
 case rest =>
 obtain ⟨a1, c1, rfl, hO⟩ := hcut
 go_upto_region 3 with fail
 go_loopw [8] (fun s wr => ∃ k : Nat, k ≤ n ∧ s = .int .i64 (k : Int) ∧ OutL w wr 35 12 a1 n c1 (mapR (fun i V => wakeV (awK G A i) V) U k)) (fun s _ => n - (intOf s).toNat)
 case atStart => exact ⟨0, Nat.zero_le _, rfl, by rw [mapR_0]; exact hO⟩
 case round =>
  clear hO
  obtain ⟨k, hk, rfl, hO⟩ := hrel
  by_cases hlt : k < n
  · have hkn : (k : Int) < (n : Int) := by omega
    obtain ⟨g, rfl, hg1, hg2⟩ := hO.own.loc (by omega)
    have d0 : wr.cell? ⟨g, k * 12, none⟩ = some (.int .i64 (U (k * 12))) := by have q := hO.own.cellq (q := k * 12 + 0) (by omega); rw [mapR_row] at q; exact q
    have d1 : wr.cell? ⟨g, k * 12 + 1, none⟩ = some (.int .i64 (U (k * 12 + 1))) := by have q := hO.own.cellq (q := k * 12 + 1) (by omega); rw [mapR_row] at q; exact q
    have d2 : wr.cell? ⟨g, k * 12 + 2, none⟩ = some (.int .i64 (U (k * 12 + 2))) := by have q := hO.own.cellq (q := k * 12 + 2) (by omega); rw [mapR_row] at q; exact q
    have d3 : wr.cell? ⟨g, k * 12 + 3, none⟩ = some (.int .i64 (U (k * 12 + 3))) := by have q := hO.own.cellq (q := k * 12 + 3) (by omega); rw [mapR_row] at q; exact q
    have d4 : wr.cell? ⟨g, k * 12 + 4, none⟩ = some (.int .i64 (U (k * 12 + 4))) := by have q := hO.own.cellq (q := k * 12 + 4) (by omega); rw [mapR_row] at q; exact q
    have d5 : wr.cell? ⟨g, k * 12 + 5, none⟩ = some (.int .i64 (U (k * 12 + 5))) := by have q := hO.own.cellq (q := k * 12 + 5) (by omega); rw [mapR_row] at q; exact q
    have d6 : wr.cell? ⟨g, k * 12 + 6, none⟩ = some (.int .i64 (U (k * 12 + 6))) := by have q := hO.own.cellq (q := k * 12 + 6) (by omega); rw [mapR_row] at q; exact q
    have d7 : wr.cell? ⟨g, k * 12 + 7, none⟩ = some (.int .i64 (U (k * 12 + 7))) := by have q := hO.own.cellq (q := k * 12 + 7) (by omega); rw [mapR_row] at q; exact q
    have d8 : wr.cell? ⟨g, k * 12 + 8, none⟩ = some (.int .i64 (U (k * 12 + 8))) := by have q := hO.own.cellq (q := k * 12 + 8) (by omega); rw [mapR_row] at q; exact q
    have d9 : wr.cell? ⟨g, k * 12 + 9, none⟩ = some (.int .i64 (U (k * 12 + 9))) := by have q := hO.own.cellq (q := k * 12 + 9) (by omega); rw [mapR_row] at q; exact q
    have d10 : wr.cell? ⟨g, k * 12 + 10, none⟩ = some (.int .i64 (U (k * 12 + 10))) := by have q := hO.own.cellq (q := k * 12 + 10) (by omega); rw [mapR_row] at q; exact q
    have d11 : wr.cell? ⟨g, k * 12 + 11, none⟩ = some (.int .i64 (U (k * 12 + 11))) := by have q := hO.own.cellq (q := k * 12 + 11) (by omega); rw [mapR_row] at q; exact q
    have df := hO.own.fro
    obtain ⟨SL, hSL⟩ : ∃ b, decide (8 ≤ (fun j => U (k * 12 + j)) 11) = b := ⟨_, rfl⟩
    obtain ⟨b2, o2, e2, hbl2, hc2⟩ := (hG2.below hO.bel) (by omega)
    have r2 := hc2 k (by omega)
    clear hc2
    have hGk := hGn k hlt
    subst e2
    obtain ⟨gk, hgk⟩ : ∃ z, G k = z := ⟨_, rfl⟩
    rw [hgk] at r2 hGk
    by_cases hg0 : 0 ≤ gk
    · obtain ⟨b3, o3, e3, hbl3, hc3⟩ := hA3 (by omega)
      have r3 := (hO.bel.cell (p := ⟨b3, o3 + gk.toNat, none⟩) hbl3).trans (hc3 gk.toNat (by omega))
      clear hc3
      subst e3
      obtain ⟨aw, haw⟩ : ∃ z, A gk.toNat = z := ⟨_, rfl⟩
      have hak : awK G A k = aw := by unfold awK; rw [hgk, decide_eq_true hg0, Bool.true_and, haw]
      rw [haw] at r3
      have hgi : gk < (na : Int) := by omega
      clear hgk haw
      cases aw with
      | false =>
       have HNO : Shut (mapR (fun i V => wakeV (awK G A i) V) U (k + 1) = mapR (fun i V => wakeV (awK G A i) V) U k) := mapR_same (fun j hj => by show wakeV (awK G A k) (fun j => U (k * 12 + j)) j = _; unfold wakeV; rw [hak]; rfl)
       clear hak hSL
       go_wp2_with fail
       go_roundw
       case rel => exact ⟨k + 1, by omega, by go_num, by rw [HNO.out]; exact hO⟩
       case measure => simp [intOf]; omega
      | true =>
       cases SL with
       | false =>
        have HNO : Shut (mapR (fun i V => wakeV (awK G A i) V) U (k + 1) = mapR (fun i V => wakeV (awK G A i) V) U k) := mapR_same (fun j hj => by show wakeV (awK G A k) (fun j => U (k * 12 + j)) j = _; unfold wakeV; rw [hak, hSL]; rfl)
        clear hak
        go_wp2_with (go_at_call 128; refine (l6Sleeps_k (fun j => U (k * 12 + j)) _ false hSL).mono ?_; rintro e w4 ⟨rfl, hb4⟩)
        go_roundw
        case rel => exact ⟨k + 1, by omega, by go_num, by rw [HNO.out]; exact hO.on hb4⟩
        case measure => simp [intOf]; omega
       | true =>
        have HS : Shut ((fun r => if r = k * 12 + 11 then 0 else mapR (fun i V => wakeV (awK G A i) V) U k r) = mapR (fun i V => wakeV (awK G A i) V) U (k + 1)) := mapR_one (by omega) (fun i hi => by
         show wakeV (awK G A k) (fun j => U (k * 12 + j)) i = _
         unfold wakeV
         rw [hak, hSL]
         rfl)
        clear hak
        go_upto_region 6 with (go_at_call 128; refine (l6Sleeps_k (fun j => U (k * 12 + j)) _ true hSL).mono ?_; rintro e w4 ⟨rfl, hb4⟩)
        have hO4 := hO.on hb4
        have uf := hO4.own.fro
        have uc := hO4.own.cellq (q := k * 12 + 11) (by omega)
        go_wp2_with fail
        have hq := hO4.own.setq (k * 12 + 11) (by omega) 0
        rw [HS.out] at hq
        have hB5 : Below w.heap.size w (w4.setCell ⟨g, k * 12 + 11, none⟩ (.int .i64 0)) := hO4.bel.setCell hg1 _
        go_roundw
        case rel => exact ⟨k + 1, by omega, by go_num, hB5, hq⟩
        case measure => simp [intOf]; omega
    · have hak : awK G A k = false := by unfold awK; rw [hgk, decide_eq_false hg0, Bool.false_and]
      have HNO : Shut (mapR (fun i V => wakeV (awK G A i) V) U (k + 1) = mapR (fun i V => wakeV (awK G A i) V) U k) := mapR_same (fun j hj => by show wakeV (awK G A k) (fun j => U (k * 12 + j)) j = _; unfold wakeV; rw [hak]; rfl)
      clear hak hSL hgk
      go_wp2_with fail
      go_roundw
      case rel => exact ⟨k + 1, by omega, by go_num, by rw [HNO.out]; exact hO⟩
      case measure => simp [intOf]; omega
  · obtain rfl : k = n := by omega
    go_wp2_with fail
    go_ret
    exact ⟨_, _, rfl, hO⟩
def allQ (G U : Nat → Int) (g : Nat) : Nat → Bool
 | 0 => true
 | i + 1 => allQ G U g i && (!decide (G i = (g : Int)) || decide (7 ≤ U (i * 12 + 11)))
def slV (V : Nat → Int) : Nat → Int := fun i => if i = 7 then 0 else if i = 6 then 0 else if i = 11 then 8 else V i
def slF (G : Nat → Int) (g : Nat) : Nat → (Nat → Int) → Nat → Int := fun i V => bif decide (G i = (g : Int)) then slV V else V
def sleepS (G : Nat → Int) (A : Nat → Bool) (n g : Nat) (U : Nat → Int) : Nat → Int := bif A g && allQ G U g n then mapR (slF G g) U n else U
def sleepN (G : Nat → Int) (A : Nat → Bool) (n : Nat) (U : Nat → Int) : Nat → Nat → Int
 | 0 => U
 | g + 1 => sleepS G A n g (sleepN G A n U g)
theorem mapR_sl {f : Nat → (Nat → Int) → Nat → Int} {U : Nat → Int} {k : Nat} (h : f k (fun j => U (k * 12 + j)) = slV (fun j => U (k * 12 + j))) : (fun r => if r = k * 12 + 7 then 0 else if r = k * 12 + 6 then 0 else if r = k * 12 + 11 then 8 else mapR f U k r) = mapR f U (k + 1) := by
 rw [← mapR_set, h]
 funext q
 unfold putRow slV
 by_cases e : k * 12 ≤ q ∧ q < k * 12 + 12
 · rw [if_pos e]
   obtain ⟨d, rfl⟩ : ∃ d, q = k * 12 + d := ⟨q - k * 12, by omega⟩
   rw [Nat.add_sub_cancel_left, mapR_row]
   by_cases e1 : d = 7
   · rw [if_pos (by omega), if_pos e1]
   · rw [if_neg (by omega), if_neg e1]
     by_cases e2 : d = 6
     · rw [if_pos (by omega), if_pos e2]
     · rw [if_neg (by omega), if_neg e2]
       by_cases e3 : d = 11
       · rw [if_pos (by omega), if_pos e3]
       · rw [if_neg (by omega), if_neg e3]
 · rw [if_neg e, if_neg (by omega), if_neg (by omega), if_neg (by omega)]
def slU (b : Bool) (G : Nat → Int) (g : Nat) (U : Nat → Int) (i : Nat) : Nat → Int := bif b then mapR (slF G g) U i else U
theorem l9Sleep_any (a : Option Addr) (n c : Nat) (U : Nat → Int) (ag : Option Addr) (cg : Nat) (G : Nat → Int) (aa : Option Addr) (na ca : Nat) (A : Nat → Bool) (w : World) (h : Flat w a (n * 12) U) (hn : n ≤ 1048576) (hna : na ≤ 1048576) (hG2 : Flat w ag (n * 1) G) (hA3 : FlatB w aa na A) :
 Calls Tryz.prog 97 #[.slice a n c, .slice ag n cg, .slice aa na ca] w fun e w' => ∃ a1 c1, e = .returned (.slice a1 n c1) ∧ OutL w w' 35 12 a1 n c1 (sleepN G A n U na) := by
 have hset := cset_map
 go_enter Tryz.func97, Tryz.ntmps97
 go_upto_region 1 with fail
 go_cut [7] (fun s0 wc => ∃ a1 c1, s0 = .slice a1 n c1 ∧ OutL w wc 35 12 a1 n c1 U)
 case first =>
  go_wp2_with (go_at_call 43; refine (l8Copy_any a n c U _ h hn).mono ?_; rintro e w3 ⟨a1, c1, rfl, hO⟩)
  go_meet
  exact ⟨_, _, rfl, hO⟩
 case rest =>
 obtain ⟨a1, c1, rfl, hO⟩ := hcut
 go_upto_region 3 with fail
 go_loopw [8, 9, 10, 11] (fun s _ _ _ wr => ∃ g : Nat, g ≤ na ∧ s = .int .i64 (g : Int) ∧ OutL w wr 35 12 a1 n c1 (sleepN G A n U g)) (fun s _ _ _ _ => na - (intOf s).toNat)
 case atStart => exact ⟨0, Nat.zero_le _, rfl, hO⟩
 case round =>
  clear hO
  obtain ⟨g, hg, rfl, hO⟩ := hrel
  by_cases hlt : g < na
  · have hgn : (g : Int) < (na : Int) := by omega
    obtain ⟨b3, o3, e3, hbl3, hc3⟩ := hA3 (by omega)
    have r3 := (hO.bel.cell (p := ⟨b3, o3 + g, none⟩) hbl3).trans (hc3 g hlt)
    clear hc3
    subst e3
    obtain ⟨aw, haw⟩ : ∃ z, A g = z := ⟨_, rfl⟩
    rw [haw] at r3
    obtain ⟨X, hX⟩ : ∃ X, sleepN G A n U g = X := ⟨_, rfl⟩
    have HN : Shut (sleepN G A n U (g + 1) = sleepS G A n g X) := by show _ = _; rw [sleepN, hX]
    rw [hX] at hO
    clear hX
    cases aw with
    | false =>
     have HNO : Shut (sleepN G A n U (g + 1) = X) := by show _ = _; rw [HN.out]; unfold sleepS; rw [haw]; rfl
     clear haw
     go_wp2_with fail
     go_roundw
     case rel => exact ⟨g + 1, by omega, by go_num, by rw [HNO.out]; exact hO⟩
     case measure => simp [intOf]; omega
    | true =>
     have HYE : Shut (sleepN G A n U (g + 1) = slU (allQ G X g n) G g X n) := by show _ = _; rw [HN.out]; unfold sleepS slU; rw [haw]; rfl
     clear haw HN
     go_upto_region 8 with fail
     go_loopw [9, 10] (fun s9 s10 wq => ∃ i : Nat, i ≤ n ∧ s10 = .int .i64 (i : Int) ∧ s9 = .bool (allQ G X g i) ∧ wq = wr) (fun _ s10 _ => n - (intOf s10).toNat)
     case atStart => exact ⟨0, Nat.zero_le _, rfl, rfl, rfl⟩
     case round =>
      obtain ⟨i, hi, rfl, rfl, rfl⟩ := hrel
      by_cases hil : i < n
      · have hin : (i : Int) < (n : Int) := by omega
        obtain ⟨b2, o2, e2, hbl2, hc2⟩ := (hG2.below hO.bel) (by omega)
        have r2 := hc2 i (by omega)
        clear hc2
        subst e2
        obtain ⟨gb, rfl, hg1, hg2⟩ := hO.own.loc (by omega)
        have u11 := hO.own.cellq (q := i * 12 + 11) (by omega)
        obtain ⟨AL, hAL⟩ : ∃ b, allQ G X g i = b := ⟨_, rfl⟩
        have HQ : Shut (allQ G X g (i + 1) = (AL && (!decide (G i = (g : Int)) || decide (7 ≤ X (i * 12 + 11))))) := by show _ = _; rw [allQ, hAL]
        rw [hAL]
        clear hAL
        cases AL with
        | false =>
         go_wp2_with fail
         go_roundw
         case rel => exact ⟨i + 1, by omega, by go_num, congrArg Value.bool (by rw [HQ.out]; rfl), by trivial⟩
         case measure => simp [intOf]; omega
        | true =>
         by_cases e : G i = (g : Int)
         · have e4 : (G i != (g : Int)) = false := by simp [e]
           have e5 : (G i == (g : Int)) = true := by simp [e]
           have E : Shut (G i = (g : Int)) := e
           clear e
           by_cases q7 : 7 ≤ X (i * 12 + 11)
           · go_wp2_with fail
             go_roundw
             case rel => exact ⟨i + 1, by omega, by go_num, congrArg Value.bool (by rw [HQ.out, decide_eq_true E.out, decide_eq_true q7]; rfl), by trivial⟩
             case measure => simp [intOf]; omega
           · go_wp2_with fail
             go_roundw
             case rel => exact ⟨i + 1, by omega, by go_num, congrArg Value.bool (by rw [HQ.out, decide_eq_true E.out, decide_eq_false q7]; rfl), by trivial⟩
             case measure => simp [intOf]; omega
         · have e4 : (G i != (g : Int)) = true := by simp [e]
           have e5 : (G i == (g : Int)) = false := by simp [e]
           go_wp2_with fail
           go_roundw
           case rel => exact ⟨i + 1, by omega, by go_num, congrArg Value.bool (by rw [HQ.out, decide_eq_false e]; rfl), by trivial⟩
           case measure => simp [intOf]; omega
      · obtain rfl : i = n := by omega
        obtain ⟨AL, hAL⟩ : ∃ b, allQ G X g i = b := ⟨_, rfl⟩
        rw [hAL] at HYE
        rw [hAL]
        clear hAL
        go_upto_region 12 with fail
        go_loopw [11] (fun s wq => ∃ k : Nat, k ≤ i ∧ s = .int .i64 (k : Int) ∧ OutL w wq 35 12 a1 i c1 (slU AL G g X k)) (fun s _ => i - (intOf s).toNat)
        case atStart => exact ⟨0, Nat.zero_le _, rfl, by unfold slU; cases AL; exact hO; rw [mapR_0]; exact hO⟩
        case round =>
         clear hO
         obtain ⟨k, hk, rfl, hO⟩ := hrel
         by_cases hkl : k < i
         · have hkn : (k : Int) < (i : Int) := by omega
           cases AL with
           | false =>
            go_wp2_with fail
            go_roundw
            case rel => exact ⟨k + 1, by omega, by go_num, hO⟩
            case measure => simp [intOf]; omega
           | true =>
            obtain ⟨b2, o2, e2, hbl2, hc2⟩ := (hG2.below hO.bel) (by omega)
            have r2 := hc2 k (by omega)
            clear hc2
            subst e2
            by_cases e : G k = (g : Int)
            · have e5 : (G k == (g : Int)) = true := by simp [e]
              have e6 : (G k = (g : Int)) = True := eq_true e
              have HS : Shut ((fun r => if r = k * 12 + 7 then 0 else if r = k * 12 + 6 then 0 else if r = k * 12 + 11 then 8 else mapR (slF G g) X k r) = mapR (slF G g) X (k + 1)) := mapR_sl (by unfold slF; rw [decide_eq_true e]; rfl)
              clear e
              obtain ⟨gb, rfl, hg1, hg2⟩ := hO.own.loc (by omega)
              have hO' : OutL w wr 35 12 (some ⟨gb, 0, none⟩) i c1 (mapR (slF G g) X k) := hO
              have uf := hO'.own.fro
              have u6 := hO'.own.cellq (q := k * 12 + 6) (by omega)
              have u7 := hO'.own.cellq (q := k * 12 + 7) (by omega)
              have u11 := hO'.own.cellq (q := k * 12 + 11) (by omega)
              go_wp2_with fail
              have q1 := ((hO'.own.setq (k * 12 + 11) (by omega) 8).setq (k * 12 + 6) (by omega) 0).setq (k * 12 + 7) (by omega) 0
              rw [HS.out] at q1
              have qB : Below w.heap.size w (((wr.setCell ⟨gb, k * 12 + 11, none⟩ (.int .i64 8)).setCell ⟨gb, k * 12 + 6, none⟩ (.int .i64 0)).setCell ⟨gb, k * 12 + 7, none⟩ (.int .i64 0)) := ((hO'.bel.setCell hg1 _).setCell hg1 _).setCell hg1 _
              go_roundw
              case rel => exact ⟨k + 1, by omega, by go_num, qB, q1⟩
              case measure => simp [intOf]; omega
            · have e5 : (G k == (g : Int)) = false := by simp [e]
              have HNO : Shut (mapR (slF G g) X (k + 1) = mapR (slF G g) X k) := mapR_same (fun j hj => by unfold slF; rw [decide_eq_false e]; rfl)
              go_wp2_with fail
              go_roundw
              case rel => exact ⟨k + 1, by omega, by go_num, by show OutL _ _ _ _ _ _ _ (mapR (slF G g) X (k + 1)); rw [HNO.out]; exact hO⟩
              case measure => simp [intOf]; omega
         · obtain rfl : k = i := by omega
           go_wp2_with fail
           go_roundw
           case rel => exact ⟨g + 1, by omega, by go_num, by rw [HYE.out]; exact hO⟩
           case measure => simp [intOf]; omega
  · obtain rfl : g = na := by omega
    go_wp2_with fail
    go_ret
    exact ⟨_, _, rfl, hO⟩
end Go.Proofs.YtfiaokkolcodgaaGreat
