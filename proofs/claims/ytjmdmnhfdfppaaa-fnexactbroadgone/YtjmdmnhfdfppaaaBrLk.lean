/- A list in its own memory, beside others. -/
import Derived.Test.YtjmdmnhfdfppaaaBrMk
import Derived.Deep.DeepCutAuto
namespace Go.Proofs.Ytjmdmnhfdfppaaa
open Go.RowKit
set_option linter.unusedVariables false
set_option linter.unusedSimpArgs false
structure Lk (w : World) (lo bx : Nat) (a : Option Addr) (n c : Nat) (U : Nat → Int) : Prop where
  own : OwnL w lo 42 5 (.slice a n c) n U
  top : ∀ b, (Value.slice a n c).ownBlock = some b → b < bx
  box : w.cell? ⟨bx, 0, none⟩ = some (.slice a n c)
  lt : bx < w.heap.size
theorem Lk.on {w w' : World} {lo bx : Nat} {a : Option Addr} {n c : Nat} {U : Nat → Int} (h : Lk w lo bx a n c U) (hb : Below w.heap.size w w') : Lk w' lo bx a n c U :=
  ⟨h.own.below hb, h.top, (hb.cell (p := ⟨bx, 0, none⟩) h.lt).trans h.box, Nat.lt_of_lt_of_le h.lt hb.size⟩
theorem Lk.flat {w : World} {lo bx : Nat} {a : Option Addr} {n c : Nat} {U : Nat → Int} (h : Lk w lo bx a n c U) : Flat w a (n * 5) U := h.own.flat
/-- another list is marked -/
theorem Lk.gr {w w' : World} {lo bx lo' bx' n' c' : Nat} {a' : Option Addr} {a : Option Addr} {n c : Nat} {U U' : Nat → Int} (h : Lk w lo bx a n c U) (h' : Lk w lo' bx' a' n' c' U') (hg : w.grownBy w' (Value.slice a' n' c').ownBlock) (hs : bx < lo' ∨ bx' < lo) (hl : lo ≤ bx) : Lk w' lo bx a n c U := by
  have key : ∀ b, (Value.slice a' n' c').ownBlock = some b → lo' ≤ b ∧ b < bx' := fun b e => ⟨(h'.own.lt b e).1, h'.top b e⟩
  refine ⟨?_, h.top, hg.cell h.box (fun e => ?_), Nat.lt_of_lt_of_le h.lt hg.size⟩
  · cases e : (Value.slice a n c).ownBlock with
    | none => exact h.own.kept hg (.inl e)
    | some b => exact h.own.kept hg (.inr (fun q => by
        have k1 := key b (q ▸ e)
        have k2 := (h.own.lt b e).1
        have k3 := h.top b e
        omega))
  · have := key bx e.symm
    omega
/-- itself is marked -/
theorem Lk.me {w w' : World} {lo bx : Nat} {a : Option Addr} {n c : Nat} {U U' : Nat → Int} (h : Lk w lo bx a n c U) (hg : w.grownBy w' (Value.slice a n c).ownBlock) (ho : OwnL w' lo 42 5 (.slice a n c) n U') : Lk w' lo bx a n c U' :=
  ⟨ho, h.top, hg.cell h.box (fun e => by have := h.top bx e.symm; omega), Nat.lt_of_lt_of_le h.lt hg.size⟩
theorem BrR.gr {w wr w' : World} {a : Option Addr} {n c : Nat} {U : Nat → Int} {lo' bx' n' c' : Nat} {a' : Option Addr} {U' : Nat → Int} (h : BrR w a n c U wr) (h' : Lk wr lo' bx' a' n' c' U') (hg : wr.grownBy w' (Value.slice a' n' c').ownBlock) (hl : w.heap.size < lo') : BrR w a n c U w' := by
  have key : ∀ b, (Value.slice a' n' c').ownBlock = some b → lo' ≤ b := fun b e => (h'.own.lt b e).1
  refine ⟨h.bel.grown hg (Nat.le_of_lt h.big) (fun b e => by have := key b e; omega), Nat.lt_of_lt_of_le h.big hg.size, hg.cell h.box (fun e => ?_)⟩
  have := key _ e.symm
  simp at this
  omega
theorem Lk.of {w w' : World} {a : Option Addr} {n c : Nat} {R : Nat → Int} (h : Out w w' a n c R) (t : TypeId) : Lk (w'.alloc (.cells #[.slice a n c] t)) w.heap.size w'.heap.size a n c R :=
  ⟨h.own.below ((Below.refl _ _).alloc (Nat.le_refl _) _), fun b e => (h.own.lt b e).2, by go_simp, by simp⟩
theorem Lk.row {w w' : World} {b n : Nat} {U : Nat → Int} (h : Row w' b 42 (n * 5) U) (hb : w.heap.size ≤ b) (hn : n ≤ 1048576) (t : TypeId) : Lk (w'.alloc (.cells #[.slice (some ⟨b, 0, none⟩) n n] t)) w.heap.size w'.heap.size (some ⟨b, 0, none⟩) n n U :=
  ⟨(h.own hb (by unfold maxLen; omega)).below ((Below.refl _ _).alloc (Nat.le_refl _) _), fun x e => by simp [Value.ownBlock] at e; subst e; exact h.lt, by go_simp, by simp⟩
end Go.Proofs.Ytjmdmnhfdfppaaa
