/- Lists in their own memory, beside others, their boxes anywhere; a box that came in. -/
import Derived.Test.YtjmdmnhfdfppaaaBrMk
import Derived.Deep.DeepCutAuto
namespace Go.Proofs.Ytjmdmnhfdfppaaa
open Go.RowKit
set_option linter.unusedVariables false
set_option linter.unusedSimpArgs false
structure Lq (w : World) (lo hi bx : Nat) (a : Option Addr) (n c : Nat) (U : Nat → Int) : Prop where
  own : OwnL w lo 42 5 (.slice a n c) n U
  top : ∀ b, (Value.slice a n c).ownBlock = some b → b < hi ∧ b ≠ bx
  box : w.cell? ⟨bx, 0, none⟩ = some (.slice a n c)
  bxl : lo ≤ bx
  bxh : bx < hi
  lt : hi ≤ w.heap.size
theorem Lq.on {w w' : World} {lo hi bx : Nat} {a : Option Addr} {n c : Nat} {U : Nat → Int} (h : Lq w lo hi bx a n c U) (hb : Below w.heap.size w w') : Lq w' lo hi bx a n c U :=
  ⟨h.own.below hb, h.top, (hb.cell (p := ⟨bx, 0, none⟩) (Nat.lt_of_lt_of_le h.bxh h.lt)).trans h.box, h.bxl, h.bxh, Nat.le_trans h.lt hb.size⟩
theorem Lq.flat {w : World} {lo hi bx : Nat} {a : Option Addr} {n c : Nat} {U : Nat → Int} (h : Lq w lo hi bx a n c U) : Flat w a (n * 5) U := h.own.flat
theorem Lq.gr {w w' : World} {lo hi bx lo' hi' bx' n' c' : Nat} {a' : Option Addr} {a : Option Addr} {n c : Nat} {U U' : Nat → Int} (h : Lq w lo hi bx a n c U) (h' : Lq w lo' hi' bx' a' n' c' U') (hg : w.grownBy w' (Value.slice a' n' c').ownBlock) (hs : hi ≤ lo' ∨ hi' ≤ lo) : Lq w' lo hi bx a n c U := by
  have key : ∀ b, (Value.slice a' n' c').ownBlock = some b → lo' ≤ b ∧ b < hi' := fun b e => ⟨(h'.own.lt b e).1, (h'.top b e).1⟩
  have k4 := h.bxl
  have k5 := h.bxh
  refine ⟨?_, h.top, hg.cell h.box (fun e => ?_), h.bxl, h.bxh, Nat.le_trans h.lt hg.size⟩
  · cases e : (Value.slice a n c).ownBlock with
    | none => exact h.own.kept hg (.inl e)
    | some b => exact h.own.kept hg (.inr (fun q => by
        have k1 := key b (q ▸ e)
        have k2 := (h.own.lt b e).1
        have k3 := (h.top b e).1
        omega))
  · have := key bx e.symm
    omega
theorem Lq.me {w w' : World} {lo hi bx : Nat} {a : Option Addr} {n c : Nat} {U U' : Nat → Int} (h : Lq w lo hi bx a n c U) (hg : w.grownBy w' (Value.slice a n c).ownBlock) (ho : OwnL w' lo 42 5 (.slice a n c) n U') : Lq w' lo hi bx a n c U' :=
  ⟨ho, h.top, hg.cell h.box (fun e => (h.top bx e.symm).2 rfl), h.bxl, h.bxh, Nat.le_trans h.lt hg.size⟩
theorem Lq.new {wc y : World} {bx : Nat} {a : Option Addr} {n c : Nat} {R : Nat → Int} {v : Value} (ho : OwnL y wc.heap.size 42 5 (.slice a n c) n R) (hv : y.cell? ⟨bx, 0, none⟩ = some v) (hl : wc.heap.size ≤ bx) (hlt : bx < y.heap.size) (hne : ∀ b, (Value.slice a n c).ownBlock = some b → b ≠ bx) :
    Lq (y.setCell ⟨bx, 0, none⟩ (.slice a n c)) wc.heap.size y.heap.size bx a n c R := by
  refine ⟨ho.kept (grown_set _ _ _) ?_, fun b e => ⟨(ho.lt b e).2, hne b e⟩, cset_same hv, hl, hlt, by simp⟩
  cases e : (Value.slice a n c).ownBlock with
  | none => exact .inl rfl
  | some b => exact .inr (fun q => hne b e (by simpa using q))
structure ItR (w : World) (X : Nat → Int) (wr : World) : Prop where
  big : w.heap.size + 1 < wr.heap.size
  x0 : wr.cell? ⟨w.heap.size + 1, 0, none⟩ = some (.int .i64 (X 0))
  x1 : wr.cell? ⟨w.heap.size + 1, 1, none⟩ = some (.int .i64 (X 1))
  x2 : wr.cell? ⟨w.heap.size + 1, 2, none⟩ = some (.int .i64 (X 2))
  x3 : wr.cell? ⟨w.heap.size + 1, 3, none⟩ = some (.int .i64 (X 3))
  x4 : wr.cell? ⟨w.heap.size + 1, 4, none⟩ = some (.int .i64 (X 4))
theorem ItR.on {w wr w' : World} {X : Nat → Int} (h : ItR w X wr) (hb : Below wr.heap.size wr w') : ItR w X w' := by
  have big := h.big
  have k : ∀ o, w'.cell? ⟨w.heap.size + 1, o, none⟩ = wr.cell? ⟨w.heap.size + 1, o, none⟩ := fun o => hb.cell (p := ⟨w.heap.size + 1, o, none⟩) big
  exact ⟨Nat.lt_of_lt_of_le big hb.size, (k 0).trans h.x0, (k 1).trans h.x1, (k 2).trans h.x2, (k 3).trans h.x3, (k 4).trans h.x4⟩
theorem ItR.gr {w wr w' : World} {X : Nat → Int} {lo hi bx n c : Nat} {a : Option Addr} {U : Nat → Int} (h : ItR w X wr) (h' : Lq wr lo hi bx a n c U) (hg : wr.grownBy w' (Value.slice a n c).ownBlock) (hl : w.heap.size + 1 < lo) : ItR w X w' := by
  have k : ∀ o v, wr.cell? ⟨w.heap.size + 1, o, none⟩ = some v → w'.cell? ⟨w.heap.size + 1, o, none⟩ = some v := fun o v e => hg.cell e (fun q => by have := (h'.own.lt _ q.symm).1; simp at this; omega)
  exact ⟨Nat.lt_of_lt_of_le h.big hg.size, k _ _ h.x0, k _ _ h.x1, k _ _ h.x2, k _ _ h.x3, k _ _ h.x4⟩
theorem BrR.gq {w wr w' : World} {a : Option Addr} {n c : Nat} {U : Nat → Int} {lo hi bx n' c' : Nat} {a' : Option Addr} {U' : Nat → Int} (h : BrR w a n c U wr) (h' : Lq wr lo hi bx a' n' c' U') (hg : wr.grownBy w' (Value.slice a' n' c').ownBlock) (hl : w.heap.size < lo) : BrR w a n c U w' := by
  have key : ∀ b, (Value.slice a' n' c').ownBlock = some b → lo ≤ b := fun b e => (h'.own.lt b e).1
  refine ⟨h.bel.grown hg (Nat.le_of_lt h.big) (fun b e => by have := key b e; omega), Nat.lt_of_lt_of_le h.big hg.size, hg.cell h.box (fun e => ?_)⟩
  have := key _ e.symm
  simp at this
  omega
end Go.Proofs.Ytjmdmnhfdfppaaa
