/- What meets a box: both sides. A list in its own memory, beside others. -/
import Derived.Test.YtcbgcochpflblaaBrMt
import Derived.Test.YtcbgcochpflblaaB19
import Derived.Test.YtcbgcochpflblaaB6
import Derived.Deep.RegionHeld3
import Derived.Deep.DeepCutAuto
import Derived.Test.YtcbgcochpflblaaB20
namespace Go.Proofs.Ytcbgcochpflblaa
open Go.RowKit
set_option linter.unusedVariables false
set_option linter.unusedSimpArgs false
theorem allB_at {U : Nat → Int} : ∀ {n k : Nat}, allB U n = true → k < n → stepB U k = true
  | 0, _, _, l => absurd l (Nat.not_lt_zero _)
  | n + 1, k, h, l => by
    unfold allB at h
    rw [Bool.and_eq_true] at h
    rcases Nat.lt_succ_iff_lt_or_eq.1 l with l | rfl
    · exact allB_at h.1 l
    · exact h.2
theorem broadB_n {n : Nat} {U : Nat → Int} (h : broadB n U = true) : n ≤ 24 := by unfold broadB at h; rw [Bool.and_eq_true] at h; exact of_decide_eq_true h.1
theorem broadB_bd {n : Nat} {U : Nat → Int} (h : broadB n U = true) : ∀ q, q < n * 5 → B1 (U q) := by
  intro q hq
  unfold broadB at h
  rw [Bool.and_eq_true] at h
  have hs := allB_at h.2 (k := q / 5) (by omega)
  unfold stepB itemB at hs
  rw [Bool.and_eq_true, Bool.and_eq_true] at hs
  obtain ⟨⟨h1, h2⟩, -⟩ := hs
  have h1 := of_decide_eq_true h1
  unfold bokB at h2
  rw [Bool.and_eq_true, Bool.and_eq_true] at h2
  obtain ⟨h3, h4, -⟩ := h2
  unfold vokB at h3 h4
  simp only [Bool.and_eq_true, decide_eq_true_eq, Nat.add_zero] at h1 h3 h4
  have hq5 : q / 5 * 5 + q % 5 = q := by omega
  unfold B1
  rcases (show q % 5 = 0 ∨ q % 5 = 1 ∨ q % 5 = 2 ∨ q % 5 = 3 ∨ q % 5 = 4 by omega) with e | e | e | e | e <;> rw [e] at hq5 <;> rw [← hq5] <;> (try simp only [Nat.add_zero]) <;> omega
def askL (n : Nat) (U : Nat → Int) (a b c d : Int) : List Int := bif broadB n U && bokB a b c d then ((List.range n).filter (Mt U a b c d)).map (fun i => U (i * 5)) else []
theorem LI.own {w : World} {base n c : Nat} {a : Option Addr} {zs : List Int} (h : LI w base (.slice a n c) n zs) : OwnL w base 3 1 (.slice a n c) n (ofL zs) := by
  have e : zs.map (Value.int .i64) = numL (n * 1) (ofL zs) := by
    have hl := h.1
    apply List.ext_getElem?
    intro j
    by_cases hj : j < n
    · rw [numL_get (by omega), List.getElem?_map, List.getElem?_eq_getElem (by omega)]
      unfold ofL
      simp [List.getD, List.getElem?_eq_getElem (show j < zs.length by omega)]
    · rw [List.getElem?_eq_none (by rw [List.length_map]; omega), List.getElem?_eq_none (by rw [numL_len]; omega)]
  unfold OwnL
  rw [← e]
  exact h.2
theorem LI.new (w : World) (base : Nat) (hb : base ≤ w.heap.size) : LI (w.alloc (.cells #[] 3)) base (.slice (some ⟨w.heap.size, 0, none⟩) 0 0) 0 [] :=
  ⟨rfl, by simp, .inr ⟨w.heap.size, 0, #[], rfl, hb, Go.Deep.blk_alloc_new _ _, Nat.le_refl _, Nat.zero_le _, by simp, by simp⟩⟩
/-- what lies where inside: the boxes, the box, and the answer's memory behind them -/
structure AQ (w wr : World) (ai : Option Addr) (n ci : Nat) (a b c d : Int) : Prop where
  bel : Below w.heap.size w wr
  big : w.heap.size + 1 < wr.heap.size
  box : wr.cell? ⟨w.heap.size, 0, none⟩ = some (.slice ai n ci)
  q0 : wr.cell? ⟨w.heap.size + 1, 0, none⟩ = some (.int .i64 a)
  q1 : wr.cell? ⟨w.heap.size + 1, 1, none⟩ = some (.int .i64 b)
  q2 : wr.cell? ⟨w.heap.size + 1, 2, none⟩ = some (.int .i64 c)
  q3 : wr.cell? ⟨w.heap.size + 1, 3, none⟩ = some (.int .i64 d)
theorem AQ.new (w : World) (ai : Option Addr) (n ci : Nat) (a b c d : Int) : AQ w ((w.alloc (.cells #[.slice ai n ci] 30)).alloc (.cells #[.int .i64 a, .int .i64 b, .int .i64 c, .int .i64 d] 57)) ai n ci a b c d :=
  ⟨bel_a, by simp, by go_simp, by go_simp, by go_simp, by go_simp, by go_simp⟩
theorem AQ.on {w wr w' : World} {ai : Option Addr} {n ci : Nat} {a b c d : Int} (h : AQ w wr ai n ci a b c d) (hb : Below wr.heap.size wr w') : AQ w w' ai n ci a b c d :=
  ⟨h.bel.trans (hb.mono (by have := h.big; omega)), Nat.lt_of_lt_of_le h.big hb.size, keepc hb h.box, keepc hb h.q0, keepc hb h.q1, keepc hb h.q2, keepc hb h.q3⟩
theorem AQ.gr {w wr w' : World} {ai : Option Addr} {n ci : Nat} {a b c d : Int} {row : Option Nat} (h : AQ w wr ai n ci a b c d) (hg : wr.grownBy w' row) (hr : ∀ k, row = some k → w.heap.size + 1 < k) : AQ w w' ai n ci a b c d := by
  have hb : Below (w.heap.size + 2) wr w' := (Below.refl _ _).grown hg (by have := h.big; omega) (fun k e => by have := hr k e; omega)
  exact ⟨h.bel.trans (hb.mono (by omega)), Nat.lt_of_lt_of_le h.big hb.size, (hb.cell (p := ⟨w.heap.size, 0, none⟩) (by show w.heap.size < _; omega)).trans h.box, (hb.cell (p := ⟨w.heap.size + 1, 0, none⟩) (by show w.heap.size + 1 < _; omega)).trans h.q0, (hb.cell (p := ⟨w.heap.size + 1, 1, none⟩) (by show w.heap.size + 1 < _; omega)).trans h.q1, (hb.cell (p := ⟨w.heap.size + 1, 2, none⟩) (by show w.heap.size + 1 < _; omega)).trans h.q2, (hb.cell (p := ⟨w.heap.size + 1, 3, none⟩) (by show w.heap.size + 1 < _; omega)).trans h.q3⟩
end Go.Proofs.Ytcbgcochpflblaa
namespace Go.Proofs.Ytcbgcochpflblaa
open Go.RowKit
set_option linter.unusedVariables false
set_option linter.unusedSimpArgs false
structure Lk (w : World) (lo bx : Nat) (a : Option Addr) (n c : Nat) (U : Nat → Int) : Prop where
  own : OwnL w lo 59 5 (.slice a n c) n U
  top : ∀ b, (Value.slice a n c).ownBlock = some b → b < bx
  box : w.cell? ⟨bx, 0, none⟩ = some (.slice a n c)
  lt : bx < w.heap.size
theorem Lk.on {w w' : World} {lo bx : Nat} {a : Option Addr} {n c : Nat} {U : Nat → Int} (h : Lk w lo bx a n c U) (hb : Below w.heap.size w w') : Lk w' lo bx a n c U :=
  ⟨h.own.below hb, h.top, (hb.cell (p := ⟨bx, 0, none⟩) h.lt).trans h.box, Nat.lt_of_lt_of_le h.lt hb.size⟩
theorem Lk.flat {w : World} {lo bx : Nat} {a : Option Addr} {n c : Nat} {U : Nat → Int} (h : Lk w lo bx a n c U) : Flat w a (n * 5) U := h.own.flat
/-- another list is marked -/
theorem Lk.gr {w w' : World} {lo bx lo' bx' n' c' : Nat} {a' : Option Addr} {a : Option Addr} {n c : Nat} {U U' : Nat → Int} (h : Lk w lo bx a n c U) (h' : Lk w lo' bx' a' n' c' U') (hg : w.grownBy w' (Value.slice a' n' c').ownBlock) (hs : bx < lo' ∨ bx' < lo) (hl : lo ≤ bx) : Lk w' lo bx a n c U := by
  have key : ∀ b, (Value.slice a' n' c').ownBlock = some b → lo' ≤ b ∧ b < bx' := fun b e => ⟨(h'.own.lt b e).1, h'.top b e⟩
  refine ⟨?_, h.top, hg.cell h.box (fun e => ?_), Nat.lt_of_lt_of_le h.lt hg.size⟩
  · cases e : (Value.slice a n c).ownBlock with
    | none => exact h.own.kept hg (.inl e)
    | some b => exact h.own.kept hg (.inr (fun q => by
        have k1 := key b (q ▸ e)
        have k2 := (h.own.lt b e).1
        have k3 := h.top b e
        omega))
  · have := key bx e.symm
    omega
/-- itself is marked -/
theorem Lk.me {w w' : World} {lo bx : Nat} {a : Option Addr} {n c : Nat} {U U' : Nat → Int} (h : Lk w lo bx a n c U) (hg : w.grownBy w' (Value.slice a n c).ownBlock) (ho : OwnL w' lo 59 5 (.slice a n c) n U') : Lk w' lo bx a n c U' :=
  ⟨ho, h.top, hg.cell h.box (fun e => by have := h.top bx e.symm; omega), Nat.lt_of_lt_of_le h.lt hg.size⟩
theorem BrR.gr {w wr w' : World} {a : Option Addr} {n c : Nat} {U : Nat → Int} {lo' bx' n' c' : Nat} {a' : Option Addr} {U' : Nat → Int} (h : BrR w a n c U wr) (h' : Lk wr lo' bx' a' n' c' U') (hg : wr.grownBy w' (Value.slice a' n' c').ownBlock) (hl : w.heap.size < lo') : BrR w a n c U w' := by
  have key : ∀ b, (Value.slice a' n' c').ownBlock = some b → lo' ≤ b := fun b e => (h'.own.lt b e).1
  refine ⟨h.bel.grown hg (Nat.le_of_lt h.big) (fun b e => by have := key b e; omega), Nat.lt_of_lt_of_le h.big hg.size, hg.cell h.box (fun e => ?_)⟩
  have := key _ e.symm
  simp at this
  omega
theorem Lk.of {w w' : World} {a : Option Addr} {n c : Nat} {R : Nat → Int} (h : Out w w' a n c R) (t : TypeId) : Lk (w'.alloc (.cells #[.slice a n c] t)) w.heap.size w'.heap.size a n c R :=
  ⟨h.own.below ((Below.refl _ _).alloc (Nat.le_refl _) _), fun b e => (h.own.lt b e).2, by go_simp, by simp⟩
theorem Lk.row {w w' : World} {b n : Nat} {U : Nat → Int} (h : Row w' b 59 (n * 5) U) (hb : w.heap.size ≤ b) (hn : n ≤ 1048576) (t : TypeId) : Lk (w'.alloc (.cells #[.slice (some ⟨b, 0, none⟩) n n] t)) w.heap.size w'.heap.size (some ⟨b, 0, none⟩) n n U :=
  ⟨(h.own hb (by unfold maxLen; omega)).below ((Below.refl _ _).alloc (Nat.le_refl _) _), fun x e => by simp [Value.ownBlock] at e; subst e; exact h.lt, by go_simp, by simp⟩
end Go.Proofs.Ytcbgcochpflblaa
