/- Texts of a proof. -/
import Derived.Test.YtmnhankcbkfhaaaGreatDoorS9q
import Derived.Test.YtmnhankcbkfhaaaGreatDoorS9p
import Derived.Deep.RegionHeld3
import Derived.Deep.DeepCutAuto
import Derived.Test.YtmnhankcbkfhaaaGreatDoorB20
import Derived.Test.YtmnhankcbkfhaaaGreatDoorB9
import Derived.Test.YtmnhankcbkfhaaaGreatDoorB12
import Derived.Test.YtmnhankcbkfhaaaGreatDoorB4
import Derived.Test.YtmnhankcbkfhaaaGreatDoorKMv
set_option maxHeartbeats 16000000
set_option maxRecDepth 20000
namespace Go.Proofs.YtmnhankcbkfhaaaGreatDoor
open Go.RowKit
set_option linter.unusedVariables false
set_option linter.unusedSimpArgs false
structure BOk (V : Nat → Int) : Prop where
 i0 : 0 ≤ V 0 ∧ V 0 ≤ 999999999
 sh : shB (V 1) (V 2) (V 3) = true
 a4 : -2560000 ≤ V 4 ∧ V 4 ≤ 2560000
 a5 : -2560000 ≤ V 5 ∧ V 5 ≤ 2560000
 d6 : -20000000 ≤ V 6 ∧ V 6 ≤ 20000000
 d7 : -20000000 ≤ V 7 ∧ V 7 ≤ 20000000
 m8 : 0 ≤ V 8 ∧ V 8 ≤ 1000
 b9 : 0 ≤ V 9 ∧ V 9 ≤ 256
 r10 : 0 ≤ V 10 ∧ V 10 ≤ 256
 q11 : 0 ≤ V 11 ∧ V 11 ≤ 8
 fx : V 8 = 0 → V 11 = 0
 rs : (V 8 ≠ 0 ∧ V 11 ≠ 8) ∨ (V 6 = 0 ∧ V 7 = 0)
theorem BOk.of {V : Nat → Int} (h : bodyB V = true) : BOk V := by
 unfold bodyB restB inB at h
 simp only [Bool.and_eq_true, decide_eq_true_eq] at h
 obtain ⟨a0, a1, a2, a3, a4, a5, a6, a7, a8, a9⟩ := h
 exact ⟨a0, a1, by omega, by omega, by omega, by omega, a4, a5, a6, a7, a8, a9⟩
theorem BOk.to {V : Nat → Int} (h : BOk V) : bodyB V = true := by
 obtain ⟨a0, a1, a2, a3, a4, a5, a6, a7, a8, a9, b0, b1⟩ := h
 unfold bodyB restB inB
 simp only [Bool.and_eq_true, decide_eq_true_eq]
 exact ⟨a0, a1, by omega, by omega, a6, a7, a8, a9, b0, b1⟩
theorem clampZ_in (l n : Int) (h : 0 ≤ l) : -l ≤ clampZ l n ∧ clampZ l n ≤ l := by unfold clampZ; repeat (first | omega | split)
theorem setV_ne {V : Nat → Int} {k j : Nat} {a : Int} (h : j ≠ k) : setV V k a j = V j := by unfold setV; rw [if_neg h]
theorem setV_eq {V : Nat → Int} {k : Nat} {a : Int} : setV V k a k = a := by unfold setV; rw [if_pos rfl]
theorem pull_ok {V : Nat → Int} (g : Int) (h : BOk V) : BOk (pullV g V) := by
 unfold pullV
 cases hl : liveV V with
 | false => exact h
 | true =>
  unfold liveV at hl
  simp only [Bool.and_eq_true, decide_eq_true_eq, Bool.not_eq_true', decide_eq_false_iff_not] at hl
  have c := clampZ_in 20000000 (V 7 - g * V 8) (by omega)
  generalize clampZ 20000000 (V 7 - g * V 8) = y at c
  show BOk (setV V 7 y)
  obtain ⟨a0, a1, a2, a3, a4, a5, a6, a7, a8, a9, b0, b1⟩ := h
  constructor <;> simp only [setV, reduceIte] <;> (first | assumption | omega | (simp; assumption) | (simp; omega))
theorem setV4 (V : Nat → Int) (x y u v : Int) : (∀ j, j ≠ 4 → j ≠ 5 → j ≠ 6 → j ≠ 7 → setV (setV (setV (setV V 4 x) 5 y) 6 u) 7 v j = V j) ∧ setV (setV (setV (setV V 4 x) 5 y) 6 u) 7 v 4 = x ∧ setV (setV (setV (setV V 4 x) 5 y) 6 u) 7 v 5 = y ∧ setV (setV (setV (setV V 4 x) 5 y) 6 u) 7 v 6 = u ∧ setV (setV (setV (setV V 4 x) 5 y) 6 u) 7 v 7 = v := by
 refine ⟨fun j h4 h5 h6 h7 => ?_, ?_, ?_, ?_, setV_eq⟩
 · rw [setV_ne h7, setV_ne h6, setV_ne h5, setV_ne h4]
 · rw [setV_ne (by decide), setV_ne (by decide), setV_ne (by decide), setV_eq]
 · rw [setV_ne (by decide), setV_ne (by decide), setV_eq]
 · rw [setV_ne (by decide), setV_eq]
theorem setV3 (V : Nat → Int) (x y u : Int) : (∀ j, j ≠ 6 → j ≠ 7 → j ≠ 11 → setV (setV (setV V 6 x) 7 y) 11 u j = V j) ∧ setV (setV (setV V 6 x) 7 y) 11 u 6 = x ∧ setV (setV (setV V 6 x) 7 y) 11 u 7 = y ∧ setV (setV (setV V 6 x) 7 y) 11 u 11 = u := by
 refine ⟨fun j h6 h7 h11 => ?_, ?_, ?_, setV_eq⟩
 · rw [setV_ne h11, setV_ne h7, setV_ne h6]
 · rw [setV_ne (by decide), setV_ne (by decide), setV_eq]
 · rw [setV_ne (by decide), setV_eq]
theorem move_ok {V : Nat → Int} (p q : Int) (h : BOk V) (hm : V 8 ≠ 0) : BOk (moveV V p q) := by
 have c1 := clampZ_in 2560000 (V 4 + p) (by omega)
 have c2 := clampZ_in 2560000 (V 5 + q) (by omega)
 unfold moveV mvX mvY
 generalize clampZ 2560000 (V 4 + p) = x at c1
 generalize clampZ 2560000 (V 5 + q) = y at c2
 obtain ⟨a0, a1, a2, a3, a4, a5, a6, a7, a8, a9, b0, b1⟩ := h
 obtain ⟨u, hu⟩ : ∃ u, (if x = V 4 + p then V 6 else 0) = u := ⟨_, rfl⟩
 obtain ⟨v, hv⟩ : ∃ v, (if y = V 5 + q then V 7 else 0) = v := ⟨_, rfl⟩
 rw [hu, hv]
 have bu : (-20000000 ≤ u ∧ u ≤ 20000000) ∧ (V 6 = 0 → u = 0) := by rw [← hu]; split <;> constructor <;> (try intro) <;> omega
 have bv : (-20000000 ≤ v ∧ v ≤ 20000000) ∧ (V 7 = 0 → v = 0) := by rw [← hv]; split <;> constructor <;> (try intro) <;> omega
 obtain ⟨e, e4, e5, e6, e7⟩ := setV4 V x y u v
 generalize setV (setV (setV (setV V 4 x) 5 y) 6 u) 7 v = W at e e4 e5 e6 e7
 have w0 := e 0 (by decide) (by decide) (by decide) (by decide)
 have w1 := e 1 (by decide) (by decide) (by decide) (by decide)
 have w2 := e 2 (by decide) (by decide) (by decide) (by decide)
 have w3 := e 3 (by decide) (by decide) (by decide) (by decide)
 have w8 := e 8 (by decide) (by decide) (by decide) (by decide)
 have w9 := e 9 (by decide) (by decide) (by decide) (by decide)
 have wa := e 10 (by decide) (by decide) (by decide) (by decide)
 have wb := e 11 (by decide) (by decide) (by decide) (by decide)
 exact ⟨by rw [w0]; exact a0, by rw [w1, w2, w3]; exact a1, by rw [e4]; exact c1, by rw [e5]; exact c2, by rw [e6]; exact bu.1, by rw [e7]; exact bv.1, by rw [w8]; exact a6, by rw [w9]; exact a7, by rw [wa]; exact a8, by rw [wb]; exact a9, by rw [w8, wb]; exact b0, by rw [w8, wb, e6, e7]; rcases b1 with q | q; exact .inl q; exact .inr ⟨bu.2 q.1, bv.2 q.2⟩⟩
theorem go_ok {V : Nat → Int} (h : BOk V) : BOk (goV V) := by
 unfold goV
 cases hl : liveV V with
 | false => exact h
 | true =>
  unfold liveV at hl
  simp only [Bool.and_eq_true, decide_eq_true_eq, Bool.not_eq_true', decide_eq_false_iff_not] at hl
  exact move_ok _ _ h (by omega)
theorem quiet_ok {V : Nat → Int} (r : Int) (h : BOk V) (hr : 0 ≤ r ∧ r ≤ 8) : BOk (quietV r V) := by
 unfold quietV
 cases hl : (decide (V 8 = 0) || decide (8 ≤ V 11)) with
 | true => exact h
 | false =>
  simp only [Bool.or_eq_false_iff, decide_eq_false_iff_not] at hl
  obtain ⟨z, hz⟩ : ∃ z, (bif decide (-8 ≤ spX V ∧ spX V ≤ 8) && decide (-8 ≤ spY V ∧ spY V ≤ 8) then mn (r + 1) 7 else 0) = z := ⟨_, rfl⟩
  rw [hz]
  have bz : 0 ≤ z ∧ z ≤ 7 := by
   rw [← hz]
   cases (decide (-8 ≤ spX V ∧ spX V ≤ 8) && decide (-8 ≤ spY V ∧ spY V ≤ 8))
   · exact ⟨by show (0 : Int) ≤ 0; omega, by show (0 : Int) ≤ 7; omega⟩
   · show 0 ≤ mn (r + 1) 7 ∧ mn (r + 1) 7 ≤ 7
     unfold mn
     split <;> omega
  show BOk (setV V 11 z)
  obtain ⟨a0, a1, a2, a3, a4, a5, a6, a7, a8, a9, b0, b1⟩ := h
  constructor <;> simp only [setV, reduceIte] <;> (first | assumption | omega | (simp; assumption) | (simp; omega))
theorem push_ok {V : Nat → Int} (p q : Int) (h : BOk V) : BOk (pushV V p q) := by
 unfold pushV
 by_cases m : V 8 = 0
 · rw [if_pos m]; exact h
 · rw [if_neg m]
   have c1 := clampZ_in 20000000 (V 6 + p) (by omega)
   have c2 := clampZ_in 20000000 (V 7 + q) (by omega)
   generalize clampZ 20000000 (V 6 + p) = x at c1
   generalize clampZ 20000000 (V 7 + q) = y at c2
   obtain ⟨a0, a1, a2, a3, a4, a5, a6, a7, a8, a9, b0, b1⟩ := h
   obtain ⟨e, e6, e7, eb⟩ := setV3 V x y 0
   generalize setV (setV (setV V 6 x) 7 y) 11 0 = W at e e6 e7 eb
   have w0 := e 0 (by decide) (by decide) (by decide)
   have w1 := e 1 (by decide) (by decide) (by decide)
   have w2 := e 2 (by decide) (by decide) (by decide)
   have w3 := e 3 (by decide) (by decide) (by decide)
   have w4 := e 4 (by decide) (by decide) (by decide)
   have w5 := e 5 (by decide) (by decide) (by decide)
   have w8 := e 8 (by decide) (by decide) (by decide)
   have w9 := e 9 (by decide) (by decide) (by decide)
   have wa := e 10 (by decide) (by decide) (by decide)
   exact ⟨by rw [w0]; exact a0, by rw [w1, w2, w3]; exact a1, by rw [w4]; exact a2, by rw [w5]; exact a3, by rw [e6]; exact c1, by rw [e7]; exact c2, by rw [w8]; exact a6, by rw [w9]; exact a7, by rw [wa]; exact a8, by rw [eb]; omega, by rw [eb]; exact fun _ => rfl, .inl ⟨by rw [w8]; exact m, by rw [eb]; decide⟩⟩
theorem Bods.put {n : Nat} {U : Nat → Int} {k : Nat} {V : Nat → Int} (h : Bods n U) (hk : k < n) (hV : BOk V) (h0 : V 0 = U (k * 12)) : Bods n (putRow U k V) := by
 have at_ : ∀ i j, i ≠ k → j < 12 → putRow U k V (i * 12 + j) = U (i * 12 + j) := fun i j hi hj => by unfold putRow; rw [if_neg (by omega)]
 have at0 : ∀ i, putRow U k V (i * 12) = U (i * 12) := fun i => by
  by_cases e : i = k
  · subst e; unfold putRow; rw [if_pos (by omega), Nat.sub_self]; exact h0
  · have := at_ i 0 e (by omega); simpa using this
 refine ⟨h.le, fun i hi => ?_, fun i hi => ?_⟩
 · by_cases e : i = k
   · subst e
     rw [bodyB_cong (W := V) (fun j hj => by unfold putRow; rw [if_pos (by omega), Nat.add_sub_cancel_left])]
     exact hV.to
   · rw [bodyB_cong (W := fun j => U (i * 12 + j)) (fun j hj => at_ i j e hj)]
     exact h.ok i hi
 · rw [at0, at0]; exact h.asc i hi
theorem Bods.row {n : Nat} {U : Nat → Int} (h : Bods n U) {k : Nat} (hk : k < n) : BOk (fun j => U (k * 12 + j)) := BOk.of (h.ok k hk)
theorem Bods.pull {n : Nat} {U : Nat → Int} (h : Bods n U) (g : Int) : Bods n (mapR (fun _ V => pullV g V) U n) :=
 h.map (fun k hk => (pull_ok g (h.row hk)).to) (fun k hk => by show pullV g (fun j => U (k * 12 + j)) 0 = _; unfold pullV; cases liveV (fun j => U (k * 12 + j)) <;> rfl)
theorem Bods.go {n : Nat} {U : Nat → Int} (h : Bods n U) : Bods n (mapR (fun _ V => goV V) U n) :=
 h.map (fun k hk => (go_ok (h.row hk)).to) (fun k hk => by show goV (fun j => U (k * 12 + j)) 0 = _; unfold goV; cases liveV (fun j => U (k * 12 + j)) <;> rfl)
theorem Bods.quiet {n : Nat} {U U2 : Nat → Int} (h : Bods n U) (h2 : Bods n U2) : Bods n (mapR (fun i V => quietV (U2 (i * 12 + 11)) V) U n) :=
 h.map (fun k hk => (quiet_ok _ (h.row hk) (h2.row hk).q11).to) (fun k hk => by show quietV _ (fun j => U (k * 12 + j)) 0 = _; unfold quietV; cases (decide ((fun j => U (k * 12 + j)) 8 = 0) || decide (8 ≤ (fun j => U (k * 12 + j)) 11)) <;> rfl)
def FlatB (w : World) (a : Option Addr) (n : Nat) (A : Nat → Bool) : Prop := 0 < n → ∃ b o, a = some ⟨b, o, none⟩ ∧ b < w.heap.size ∧ ∀ j, j < n → w.cell? ⟨b, o + j, none⟩ = some (.bool (A j))
theorem FlatB.below {w w' : World} {a : Option Addr} {n B : Nat} {A : Nat → Bool} (h : FlatB w a n A) (hb : Below w.heap.size w w') : FlatB w' a n A := fun h0 => by
 obtain ⟨b, o, e, l, c⟩ := h h0
 exact ⟨b, o, e, Nat.lt_of_lt_of_le l hb.size, fun j hj => (hb.cell (p := ⟨b, o + j, none⟩) l).trans (c j hj)⟩
def wakeV (b : Bool) (V : Nat → Int) : Nat → Int := bif b && decide (8 ≤ V 11) then setV V 11 0 else V
def awK (G : Nat → Int) (A : Nat → Bool) (k : Nat) : Bool := decide (0 ≤ G k) && A (G k).toNat
theorem l9Wake_any (a : Option Addr) (n c : Nat) (U : Nat → Int) (ag : Option Addr) (cg : Nat) (G : Nat → Int) (aa : Option Addr) (na ca : Nat) (A : Nat → Bool) (w : World) (h : Flat w a (n * 12) U) (hn : n ≤ 1048576) (hG2 : Flat w ag (n * 1) G) (hA3 : FlatB w aa na A) (hGn : ∀ k, k < n → G k < (na : Int)) :
 Calls Tryz.prog 26 #[.slice a n c, .slice ag n cg, .slice aa na ca] w fun e w' => ∃ a1 c1, e = .returned (.slice a1 n c1) ∧ OutL w w' 39 12 a1 n c1 (mapR (fun i V => wakeV (awK G A i) V) U n) := by
 have hset := cset_map
 go_enter Tryz.func26, Tryz.ntmps26
 go_upto_region 1 with fail
 go_cut [7] (fun s0 wc => ∃ a1 c1, s0 = .slice a1 n c1 ∧ OutL w wc 39 12 a1 n c1 U)
 case first =>
  go_wp2_with (go_at_call 19; refine (l8Copy_any a n c U _ h hn).mono ?_; rintro e w3 ⟨a1, c1, rfl, hO⟩)
  go_meet
  exact ⟨_, _, rfl, hO⟩
 case rest =>
 obtain ⟨a1, c1, rfl, hO⟩ := hcut
 go_upto_region 3 with fail
 go_loopw [8] (fun s wr => ∃ k : Nat, k ≤ n ∧ s = .int .i64 (k : Int) ∧ OutL w wr 39 12 a1 n c1 (mapR (fun i V => wakeV (awK G A i) V) U k)) (fun s _ => n - (intOf s).toNat)
 case atStart => exact ⟨0, Nat.zero_le _, rfl, by rw [mapR_0]; exact hO⟩
 case round =>
  clear hO
  obtain ⟨k, hk, rfl, hO⟩ := hrel
  by_cases hlt : k < n
  · have hkn : (k : Int) < (n : Int) := by omega
    obtain ⟨g, rfl, hg1, hg2⟩ := hO.own.loc (by omega)
    have d0 : wr.cell? ⟨g, k * 12, none⟩ = some (.int .i64 (U (k * 12))) := by have q := hO.own.cellq (q := k * 12 + 0) (by omega); rw [mapR_row] at q; exact q
    have d1 : wr.cell? ⟨g, k * 12 + 1, none⟩ = some (.int .i64 (U (k * 12 + 1))) := by have q := hO.own.cellq (q := k * 12 + 1) (by omega); rw [mapR_row] at q; exact q
    have d2 : wr.cell? ⟨g, k * 12 + 2, none⟩ = some (.int .i64 (U (k * 12 + 2))) := by have q := hO.own.cellq (q := k * 12 + 2) (by omega); rw [mapR_row] at q; exact q
    have d3 : wr.cell? ⟨g, k * 12 + 3, none⟩ = some (.int .i64 (U (k * 12 + 3))) := by have q := hO.own.cellq (q := k * 12 + 3) (by omega); rw [mapR_row] at q; exact q
    have d4 : wr.cell? ⟨g, k * 12 + 4, none⟩ = some (.int .i64 (U (k * 12 + 4))) := by have q := hO.own.cellq (q := k * 12 + 4) (by omega); rw [mapR_row] at q; exact q
    have d5 : wr.cell? ⟨g, k * 12 + 5, none⟩ = some (.int .i64 (U (k * 12 + 5))) := by have q := hO.own.cellq (q := k * 12 + 5) (by omega); rw [mapR_row] at q; exact q
    have d6 : wr.cell? ⟨g, k * 12 + 6, none⟩ = some (.int .i64 (U (k * 12 + 6))) := by have q := hO.own.cellq (q := k * 12 + 6) (by omega); rw [mapR_row] at q; exact q
    have d7 : wr.cell? ⟨g, k * 12 + 7, none⟩ = some (.int .i64 (U (k * 12 + 7))) := by have q := hO.own.cellq (q := k * 12 + 7) (by omega); rw [mapR_row] at q; exact q
    have d8 : wr.cell? ⟨g, k * 12 + 8, none⟩ = some (.int .i64 (U (k * 12 + 8))) := by have q := hO.own.cellq (q := k * 12 + 8) (by omega); rw [mapR_row] at q; exact q
    have d9 : wr.cell? ⟨g, k * 12 + 9, none⟩ = some (.int .i64 (U (k * 12 + 9))) := by have q := hO.own.cellq (q := k * 12 + 9) (by omega); rw [mapR_row] at q; exact q
    have d10 : wr.cell? ⟨g, k * 12 + 10, none⟩ = some (.int .i64 (U (k * 12 + 10))) := by have q := hO.own.cellq (q := k * 12 + 10) (by omega); rw [mapR_row] at q; exact q
    have d11 : wr.cell? ⟨g, k * 12 + 11, none⟩ = some (.int .i64 (U (k * 12 + 11))) := by have q := hO.own.cellq (q := k * 12 + 11) (by omega); rw [mapR_row] at q; exact q
    have df := hO.own.fro
    obtain ⟨SL, hSL⟩ : ∃ b, decide (8 ≤ (fun j => U (k * 12 + j)) 11) = b := ⟨_, rfl⟩
    obtain ⟨b2, o2, e2, hbl2, hc2⟩ := (hG2.below hO.bel) (by omega)
    have r2 := hc2 k (by omega)
    clear hc2
    have hGk := hGn k hlt
    subst e2
    obtain ⟨gk, hgk⟩ : ∃ z, G k = z := ⟨_, rfl⟩
    rw [hgk] at r2 hGk
    by_cases hg0 : 0 ≤ gk
    · obtain ⟨b3, o3, e3, hbl3, hc3⟩ := hA3 (by omega)
      have r3 := (hO.bel.cell (p := ⟨b3, o3 + gk.toNat, none⟩) hbl3).trans (hc3 gk.toNat (by omega))
      clear hc3
      subst e3
      obtain ⟨aw, haw⟩ : ∃ z, A gk.toNat = z := ⟨_, rfl⟩
      have hak : awK G A k = aw := by unfold awK; rw [hgk, decide_eq_true hg0, Bool.true_and, haw]
      rw [haw] at r3
      have hgi : gk < (na : Int) := by omega
      clear hgk haw
      cases aw with
      | false =>
       have HNO : Shut (mapR (fun i V => wakeV (awK G A i) V) U (k + 1) = mapR (fun i V => wakeV (awK G A i) V) U k) := mapR_same (fun j hj => by show wakeV (awK G A k) (fun j => U (k * 12 + j)) j = _; unfold wakeV; rw [hak]; rfl)
       clear hak hSL
       go_wp2_with fail
       go_roundw
       case rel => exact ⟨k + 1, by omega, by go_num, by rw [HNO.out]; exact hO⟩
       case measure => simp [intOf]; omega
      | true =>
       cases SL with
       | false =>
        have HNO : Shut (mapR (fun i V => wakeV (awK G A i) V) U (k + 1) = mapR (fun i V => wakeV (awK G A i) V) U k) := mapR_same (fun j hj => by show wakeV (awK G A k) (fun j => U (k * 12 + j)) j = _; unfold wakeV; rw [hak, hSL]; rfl)
        clear hak
        go_wp2_with (go_at_call 49; refine (l6Sleeps_k (fun j => U (k * 12 + j)) _ false hSL).mono ?_; rintro e w4 ⟨rfl, hb4⟩)
        go_roundw
        case rel => exact ⟨k + 1, by omega, by go_num, by rw [HNO.out]; exact hO.on hb4⟩
        case measure => simp [intOf]; omega
       | true =>
        have HS : Shut ((fun r => if r = k * 12 + 11 then 0 else mapR (fun i V => wakeV (awK G A i) V) U k r) = mapR (fun i V => wakeV (awK G A i) V) U (k + 1)) := mapR_one (by omega) (fun i hi => by
         show wakeV (awK G A k) (fun j => U (k * 12 + j)) i = _
         unfold wakeV
         rw [hak, hSL]
         rfl)
        clear hak
        go_upto_region 6 with (go_at_call 49; refine (l6Sleeps_k (fun j => U (k * 12 + j)) _ true hSL).mono ?_; rintro e w4 ⟨rfl, hb4⟩)
        have hO4 := hO.on hb4
        have uf := hO4.own.fro
        have uc := hO4.own.cellq (q := k * 12 + 11) (by omega)
        go_wp2_with fail
        have hq := hO4.own.setq (k * 12 + 11) (by omega) 0
        rw [HS.out] at hq
        have hB5 : Below w.heap.size w (w4.setCell ⟨g, k * 12 + 11, none⟩ (.int .i64 0)) := hO4.bel.setCell hg1 _
        go_roundw
        case rel => exact ⟨k + 1, by omega, by go_num, hB5, hq⟩
        case measure => simp [intOf]; omega
    · have hak : awK G A k = false := by unfold awK; rw [hgk, decide_eq_false hg0, Bool.false_and]
      have HNO : Shut (mapR (fun i V => wakeV (awK G A i) V) U (k + 1) = mapR (fun i V => wakeV (awK G A i) V) U k) := mapR_same (fun j hj => by show wakeV (awK G A k) (fun j => U (k * 12 + j)) j = _; unfold wakeV; rw [hak]; rfl)
      clear hak hSL hgk
      go_wp2_with fail
      go_roundw
      case rel => exact ⟨k + 1, by omega, by go_num, by rw [HNO.out]; exact hO⟩
      case measure => simp [intOf]; omega
  · obtain rfl : k = n := by omega
    go_wp2_with fail
    go_ret
    exact ⟨_, _, rfl, hO⟩
theorem moveV_0 (V : Nat → Int) (p q : Int) : moveV V p q 0 = V 0 := rfl
theorem moveV_8 (V : Nat → Int) (p q : Int) : moveV V p q 8 = V 8 := rfl
theorem putRow_8 {U V : Nat → Int} {k i : Nat} (h : V 8 = U (k * 12 + 8)) : putRow U k V (i * 12 + 8) = U (i * 12 + 8) := by
 unfold putRow
 by_cases e : i = k
 · subst e; rw [if_pos (by omega), Nat.add_sub_cancel_left]; exact h
 · rw [if_neg (by omega)]
theorem putRow_else {U V : Nat → Int} {k i j : Nat} (e : i ≠ k) (hj : j < 12) : putRow U k V (i * 12 + j) = U (i * 12 + j) := by unfold putRow; rw [if_neg (by omega)]
theorem Bods.apart {n : Nat} {U : Nat → Int} (h : Bods n U) {A B : Nat} (hA : A < n) (hB : B < n) (hAB : A ≠ B) (X Y D : Int) : Bods n (apartU U A B X Y D) ∧ ∀ i, apartU U A B X Y D (i * 12 + 8) = U (i * 12 + 8) := by
 unfold apartU
 cases decide (0 < (D - 64).tdiv 4) with
 | false => exact ⟨h, fun i => rfl⟩
 | true =>
  simp only [cond_true]
  generalize (-X * shareV (fun j => U (A * 12 + j)) (fun j => U (B * 12 + j)) ((D - 64).tdiv 4)).tdiv 256 = p
  generalize (-Y * shareV (fun j => U (A * 12 + j)) (fun j => U (B * 12 + j)) ((D - 64).tdiv 4)).tdiv 256 = q
  generalize (X * shareV (fun j => U (B * 12 + j)) (fun j => U (A * 12 + j)) ((D - 64).tdiv 4)).tdiv 256 = r
  generalize (Y * shareV (fun j => U (B * 12 + j)) (fun j => U (A * 12 + j)) ((D - 64).tdiv 4)).tdiv 256 = s
  have key : ∀ U1 : Nat → Int, Bods n U1 → (∀ i, U1 (i * 12 + 8) = U (i * 12 + 8)) → (U1 (B * 12) = U (B * 12)) → Bods n (bif decide (0 < U (B * 12 + 8)) then putRow U1 B (moveV (fun j => U (B * 12 + j)) r s) else U1) ∧ ∀ i, (bif decide (0 < U (B * 12 + 8)) then putRow U1 B (moveV (fun j => U (B * 12 + j)) r s) else U1) (i * 12 + 8) = U (i * 12 + 8) := by
   intro U1 h1 h8 h0
   by_cases m : 0 < U (B * 12 + 8)
   · rw [decide_eq_true m]
     exact ⟨h1.put hB (move_ok r s (h.row hB) (by show U (B * 12 + 8) ≠ 0; omega)) (by rw [moveV_0, h0]; rfl), fun i => (putRow_8 (by rw [moveV_8, h8])).trans (h8 i)⟩
   · rw [decide_eq_false m]; exact ⟨h1, h8⟩
  by_cases m : 0 < U (A * 12 + 8)
  · rw [decide_eq_true m]
    refine key _ (h.put hA (move_ok p q (h.row hA) (by show U (A * 12 + 8) ≠ 0; omega)) (by rw [moveV_0]; rfl)) (fun i => putRow_8 (by rw [moveV_8])) ?_
    have := putRow_else (U := U) (V := moveV (fun j => U (A * 12 + j)) p q) (k := A) (i := B) (j := 0) (fun e => hAB e.symm) (by omega)
    simpa using this
  · rw [decide_eq_false m]; exact key U h (fun i => rfl) rfl
def apartN (C U : Nat → Int) : Nat → Nat → Int
 | 0 => U
 | k + 1 => apartU (apartN C U k) (C (k * 5)).toNat (C (k * 5 + 1)).toNat (C (k * 5 + 2)) (C (k * 5 + 3)) (C (k * 5 + 4))
structure CtOk (n m : Nat) (C : Nat → Int) : Prop where
 a : ∀ k, k < m → 0 ≤ C (k * 5) ∧ C (k * 5) < (n : Int)
 b : ∀ k, k < m → 0 ≤ C (k * 5 + 1) ∧ C (k * 5 + 1) < (n : Int)
 ne : ∀ k, k < m → C (k * 5) ≠ C (k * 5 + 1)
 x : ∀ k, k < m → -256 ≤ C (k * 5 + 2) ∧ C (k * 5 + 2) ≤ 256
 y : ∀ k, k < m → -256 ≤ C (k * 5 + 3) ∧ C (k * 5 + 3) ≤ 256
 d : ∀ k, k < m → 0 ≤ C (k * 5 + 4) ∧ C (k * 5 + 4) ≤ 102400
theorem Bods.aparts {n m : Nat} {U C : Nat → Int} (h : Bods n U) (hC : CtOk n m C) : ∀ k, k ≤ m → Bods n (apartN C U k) ∧ ∀ i, apartN C U k (i * 12 + 8) = U (i * 12 + 8)
 | 0, _ => ⟨h, fun i => rfl⟩
 | k + 1, hk => by
  obtain ⟨h1, h2⟩ := Bods.aparts h hC k (by omega)
  have ha := hC.a k (by omega)
  have hb := hC.b k (by omega)
  have hn := hC.ne k (by omega)
  obtain ⟨q1, q2⟩ := h1.apart (A := (C (k * 5)).toNat) (B := (C (k * 5 + 1)).toNat) (by omega) (by omega) (by omega) (C (k * 5 + 2)) (C (k * 5 + 3)) (C (k * 5 + 4))
  exact ⟨q1, fun i => (q2 i).trans (h2 i)⟩
theorem col_put {U V : Nat → Int} {k i j : Nat} (hi : i < 12) : colOf (putRow U k V) i j = if j = k then V i else colOf U i j := by
 unfold colOf putRow
 by_cases e : j = k
 · subst e; rw [if_pos (by omega), if_pos rfl, Nat.add_sub_cancel_left]
 · rw [if_neg (by omega), if_neg e]
theorem putRow_self (U : Nat → Int) (k : Nat) : putRow U k (fun j => U (k * 12 + j)) = U := by
 funext q
 unfold putRow
 by_cases e : k * 12 ≤ q ∧ q < k * 12 + 12
 · rw [if_pos e]; exact congrArg U (by omega)
 · rw [if_neg e]
theorem shareV_congr {V W V' W' : Nat → Int} (m : Int) (h1 : V 8 = V' 8) (h2 : W 8 = W' 8) : shareV V W m = shareV V' W' m := by unfold shareV; rw [h1, h2]
theorem moveV_zero {V : Nat → Int} (a4 : -2560000 ≤ V 4 ∧ V 4 ≤ 2560000) (a5 : -2560000 ≤ V 5 ∧ V 5 ≤ 2560000) : moveV V 0 0 = V := by
 have e4 : clampZ 2560000 (V 4 + 0) = V 4 := by unfold clampZ; (repeat' split); all_goals omega
 have e5 : clampZ 2560000 (V 5 + 0) = V 5 := by unfold clampZ; (repeat' split); all_goals omega
 unfold moveV mvX mvY
 rw [e4, e5, if_pos (by omega), if_pos (by omega)]
 funext j
 unfold setV
 repeat' split
 all_goals (first | rfl | (subst_vars; rfl))
theorem row_else {U V : Nat → Int} {k l : Nat} (h : l ≠ k) : ∀ j, j < 12 → putRow U k V (l * 12 + j) = U (l * 12 + j) := fun j hj => putRow_else h hj
theorem row_is {U V : Nat → Int} {k : Nat} : ∀ j, j < 12 → putRow U k V (k * 12 + j) = V j := fun j hj => by unfold putRow; rw [if_pos (by omega), Nat.add_sub_cancel_left]
theorem putRow_congr {U V W : Nat → Int} {k : Nat} (h : ∀ j, j < 12 → V j = W j) : putRow U k V = putRow U k W := by
 funext q
 unfold putRow
 by_cases e : k * 12 ≤ q ∧ q < k * 12 + 12
 · rw [if_pos e, if_pos e]; exact h _ (by omega)
 · rw [if_neg e, if_neg e]
theorem moveV_congr {V W : Nat → Int} (p q : Int) (h : ∀ j, j < 12 → V j = W j) : ∀ j, j < 12 → moveV V p q j = moveV W p q j := fun j hj => by
 unfold moveV mvX mvY setV
 rw [h 4 (by omega), h 5 (by omega), h 6 (by omega), h 7 (by omega), h j hj]
theorem apart_two {U : Nat → Int} {A B : Nat} {x y d p q r s : Int} (hAB : A ≠ B) (hA : BOk (fun j => U (A * 12 + j))) (hB : BOk (fun j => U (B * 12 + j))) (hm : 0 < (d - 64).tdiv 4)
 (ep : (-x * shareV (fun j => U (A * 12 + j)) (fun j => U (B * 12 + j)) ((d - 64).tdiv 4)).tdiv 256 = p) (eq : (-y * shareV (fun j => U (A * 12 + j)) (fun j => U (B * 12 + j)) ((d - 64).tdiv 4)).tdiv 256 = q)
 (er : (x * shareV (fun j => U (B * 12 + j)) (fun j => U (A * 12 + j)) ((d - 64).tdiv 4)).tdiv 256 = r) (es : (y * shareV (fun j => U (B * 12 + j)) (fun j => U (A * 12 + j)) ((d - 64).tdiv 4)).tdiv 256 = s) :
 putRow (putRow U A (moveV (fun j => U (A * 12 + j)) p q)) B (moveV (fun j => putRow U A (moveV (fun j => U (A * 12 + j)) p q) (B * 12 + j)) r s) = apartU U A B x y d := by
 have e1 : putRow U A (moveV (fun j => U (A * 12 + j)) p q) = bif decide (0 < U (A * 12 + 8)) then putRow U A (moveV (fun j => U (A * 12 + j)) p q) else U := by
  by_cases z : 0 < U (A * 12 + 8)
  · rw [decide_eq_true z, cond_true]
  · rw [decide_eq_false z, cond_false]
    have z8 : U (A * 12 + 8) = 0 := by have := hA.m8; omega
    have s0 : shareV (fun j => U (A * 12 + j)) (fun j => U (B * 12 + j)) ((d - 64).tdiv 4) = 0 := by unfold shareV; rw [show decide (U (A * 12 + 8) = 0) = true from decide_eq_true z8]; rfl
    rw [s0, Int.mul_zero] at ep eq
    have p0 : p = 0 := ep.symm
    have q0 : q = 0 := eq.symm
    rw [p0, q0, moveV_zero hA.a4 hA.a5, putRow_self]
 have e2 : ∀ U1 : Nat → Int, (∀ j, j < 12 → U1 (B * 12 + j) = U (B * 12 + j)) → putRow U1 B (moveV (fun j => U1 (B * 12 + j)) r s) = bif decide (0 < U (B * 12 + 8)) then putRow U1 B (moveV (fun j => U (B * 12 + j)) r s) else U1 := by
  intro U1 h1
  by_cases z : 0 < U (B * 12 + 8)
  · rw [decide_eq_true z, cond_true]
    exact putRow_congr (moveV_congr r s h1)
  · rw [decide_eq_false z, cond_false]
    have z8 : U (B * 12 + 8) = 0 := by have := hB.m8; omega
    have s0 : shareV (fun j => U (B * 12 + j)) (fun j => U (A * 12 + j)) ((d - 64).tdiv 4) = 0 := by unfold shareV; rw [show decide (U (B * 12 + 8) = 0) = true from decide_eq_true z8]; rfl
    rw [s0, Int.mul_zero] at er es
    have r0 : r = 0 := er.symm
    have s0 : s = 0 := es.symm
    have a4 := hB.a4
    have a5 := hB.a5
    rw [r0, s0, moveV_zero (V := fun j => U1 (B * 12 + j)) (by rw [h1 4 (by omega)]; exact a4) (by rw [h1 5 (by omega)]; exact a5), putRow_self]
 rw [e2 _ (row_else (fun e => hAB e.symm)), e1]
 unfold apartU
 rw [decide_eq_true hm, ep, eq, er, es]
 rfl
theorem kShare {cb n k l : Nat} {V1 V2 : Nat → Int} {G : Nat → Nat} {w : World} (h1 : HAt w cb n k V1 G) (h2 : HAt w cb n l V2 G) (m x : Int) (a0 : 0 ≤ V1 8 ∧ V1 8 ≤ 1000) (a1 : 0 ≤ V2 8 ∧ V2 8 ≤ 1000) (hm : -30000 ≤ m ∧ m ≤ 30000) (ex : shareV V1 V2 m = x) :
 Calls Tryz.prog 159 #[hdk cb k, .int .i64 m, hdk cb l] w fun e w' => e = .returned (.int .i64 x) ∧ Below w.heap.size w w' := by
 have hset := cset_map
 have l1 := h1.cbl
 subst ex
 unfold shareV
 have p2 := mul_bd (a := m) (b := V2 8) (A := 30000) (B := 1000) (by omega) (by omega)
 have p5 := tdiv_bd (x := m * V2 8) (B := 30000000) (V1 8 + V2 8) (by omega)
 by_cases z1 : V1 8 = 0
 · have d1 : decide (V1 8 = 0) = true := decide_eq_true z1
   rw [d1, cond_true]
   go_enter Tryz.func159, Tryz.ntmps159
   go_wp2_with (go_at_call 112; refine (kFixed (h1.below (bel_a))).mono ?_; rintro e w1 ⟨rfl, hb1⟩; have hz1 := hb1.size; (try simp only [zz] at hz1); have := kf2 hb1 w.heap.size)
   exact bodyPost_ret (v := .int .i64 0) (by simp [results, Tryz.results159, go_sem, *]) rfl ⟨rfl, bel_a⟩
 · have d1 : decide (V1 8 = 0) = false := decide_eq_false z1
   rw [d1, cond_false]
   by_cases z2 : V2 8 = 0
   · have d2 : decide (V2 8 = 0) = true := decide_eq_true z2
     rw [d2, cond_true]
     go_enter Tryz.func159, Tryz.ntmps159
     go_wp2_with (first
   | (have _ := hb1; go_at_call 112; refine (kFixed (h2.below (bel_a))).mono ?_; rintro e w2 ⟨rfl, hb2⟩; have hz2 := hb2.size; (try simp only [zz] at hz2); have := kf2 hb2 w.heap.size)
   | (go_at_call 112; refine (kFixed (h1.below (bel_a))).mono ?_; rintro e w1 ⟨rfl, hb1⟩; have hz1 := hb1.size; (try simp only [zz] at hz1); have := kf2 hb1 w.heap.size))
     exact bodyPost_ret (v := .int .i64 m) (by simp [results, Tryz.results159, go_sem, *]) rfl ⟨rfl, bel_a⟩
   · have d2 : decide (V2 8 = 0) = false := decide_eq_false z2
     rw [d2, cond_false]
     have z3 : (V1 8 + V2 8 = 0) = False := eq_false (by omega)
     have z4 : ¬ V1 8 + V2 8 = 0 := by omega
     have w1_ : IntKind.i64.wrap (m * V2 8) = m * V2 8 := i64w (by omega)
     have w2_ : IntKind.i64.wrap (V1 8 + V2 8) = V1 8 + V2 8 := i64w (by omega)
     have w3_ : IntKind.i64.wrap ((m * V2 8).tdiv (V1 8 + V2 8)) = (m * V2 8).tdiv (V1 8 + V2 8) := i64w (by omega)
     go_enter Tryz.func159, Tryz.ntmps159
     go_upto_region 5 with (first
   | (have _ := hb1; go_at_call 112; refine (kFixed (h2.below (bel_a))).mono ?_; rintro e w2 ⟨rfl, hb2⟩; have hz2 := hb2.size; (try simp only [zz] at hz2); have := kf2 hb2 w.heap.size)
   | (go_at_call 112; refine (kFixed (h1.below (bel_a))).mono ?_; rintro e w1 ⟨rfl, hb1⟩; have hz1 := hb1.size; (try simp only [zz] at hz1); have := kf2 hb1 w.heap.size))
     refine wp_region_held_drew (S := fun w' => w'.cell? ⟨w.heap.size, 0, none⟩ = some (.int .i64 (k : Int)) ∧ w'.cell? ⟨w.heap.size, 1, none⟩ = some (.pointer (some ⟨cb, 0, none⟩)) ∧ w'.cell? ⟨w.heap.size + 1, 0, none⟩ = some (.int .i64 (l : Int)) ∧ w'.cell? ⟨w.heap.size + 1, 1, none⟩ = some (.pointer (some ⟨cb, 0, none⟩))) (by kernel_rfl) ?_ (fun hHeld => ?_)
     · (try dsimp only)
       (first | (go_simp; done) | (go_keep; done))
     refine tq 0 hHeld ?_
     refine tq 1 hHeld ?_
     refine tq 4 hHeld ?_
     refine tq 6 hHeld ?_
     (refine tc 2 fun K hK => ?_; go_simp; (go_at_call 91; refine (kMass (h2.below (bel_a))).mono ?_; rintro e w3 ⟨rfl, hb3⟩; have hz3 := hb3.size; (try simp only [zz] at hz3); have := kf2 hb3 w.heap.size); (try go_wp2_with fail); refine tr hK (fun hHeld => ?_); clear hK K)
     refine tq 3 hHeld ?_
     (refine tc 5 fun K hK => ?_; go_simp; (go_at_call 91; refine (kMass (h1.below (bel_a))).mono ?_; rintro e w4 ⟨rfl, hb4⟩; have hz4 := hb4.size; (try simp only [zz] at hz4); have := kf2 hb4 w.heap.size); (try go_wp2_with fail); refine tr hK (fun hHeld => ?_); clear hK K)
     (refine tc 7 fun K hK => ?_; go_simp; (go_at_call 91; refine (kMass (h2.below (bel_a))).mono ?_; rintro e w5 ⟨rfl, hb5⟩; have hz5 := hb5.size; (try simp only [zz] at hz5); have := kf2 hb5 w.heap.size); (try go_wp2_with fail); refine tr hK (fun hHeld => ?_); clear hK K)
     refine tq 8 hHeld ?_
     refine tq 9 hHeld ?_
     refine tq 10 hHeld ?_
     refine wpAnyH_done (by kernel_rfl) ?_ _
     go_wp2_with fail
     exact bodyPost_ret (v := .int .i64 ((m * V2 8).tdiv (V1 8 + V2 8))) (by simp [results, Tryz.results159, go_sem, *]) rfl ⟨rfl, bel_a⟩
end Go.Proofs.YtmnhankcbkfhaaaGreatDoor
