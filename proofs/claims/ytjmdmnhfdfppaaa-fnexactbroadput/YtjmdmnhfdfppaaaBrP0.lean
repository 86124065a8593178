/- A box put: what is asked. -/
import Derived.Test.YtjmdmnhfdfppaaaBrGo
import Derived.Test.YtjmdmnhfdfppaaaBrMk
import Derived.Test.YtjmdmnhfdfppaaaTq
import Derived.Deep.RegionHeld3
import Derived.Deep.DeepCutAuto
namespace Go.Proofs.Ytjmdmnhfdfppaaa
open Go.RowKit
set_option linter.unusedVariables false
set_option linter.unusedSimpArgs false
/-- what lies where inside: the boxes that came in, the one, and the answer's -/
structure PB (w wr : World) (a : Option Addr) (n c : Nat) (X : Nat → Int) : Prop where
  bel : Below w.heap.size w wr
  big : w.heap.size + 1 + 1 < wr.heap.size
  box : wr.cell? ⟨w.heap.size, 0, none⟩ = some (.slice a n c)
  x0 : wr.cell? ⟨w.heap.size + 1, 0, none⟩ = some (.int .i64 (X 0))
  x1 : wr.cell? ⟨w.heap.size + 1, 1, none⟩ = some (.int .i64 (X 1))
  x2 : wr.cell? ⟨w.heap.size + 1, 2, none⟩ = some (.int .i64 (X 2))
  x3 : wr.cell? ⟨w.heap.size + 1, 3, none⟩ = some (.int .i64 (X 3))
  x4 : wr.cell? ⟨w.heap.size + 1, 4, none⟩ = some (.int .i64 (X 4))
  res : wr.cell? ⟨w.heap.size + 1 + 1, 0, none⟩ = some (.slice none 0 0)
  nfr : wr.frozen? ⟨w.heap.size + 1 + 1, 0, none⟩ = false
theorem PB.on {w wr w' : World} {a : Option Addr} {n c : Nat} {X : Nat → Int} (h : PB w wr a n c X) (hb : Below wr.heap.size wr w') : PB w w' a n c X := by
  have big := h.big
  have k : ∀ b o, b < wr.heap.size → w'.cell? ⟨b, o, none⟩ = wr.cell? ⟨b, o, none⟩ := fun b o l => hb.cell (p := ⟨b, o, none⟩) l
  exact ⟨h.bel.trans (hb.mono (by omega)), Nat.lt_of_lt_of_le big hb.size, (k _ _ (by omega)).trans h.box, (k _ _ (by omega)).trans h.x0, (k _ _ (by omega)).trans h.x1, (k _ _ (by omega)).trans h.x2, (k _ _ (by omega)).trans h.x3, (k _ _ (by omega)).trans h.x4, (k _ _ (by omega)).trans h.res, (hb.frozen (p := ⟨w.heap.size + 1 + 1, 0, none⟩) big).trans h.nfr⟩
def insU (k : Nat) (U X : Nat → Int) (d : Nat) : Nat → Int := cat ((k + 1) * 5) (cat (k * 5) U X) (fun q => U (q + d * 5))
theorem ins_set (k : Nat) (U X : Nat → Int) (q : Nat) : (if q = k * 5 + 4 then X 4 else if q = k * 5 + 3 then X 3 else if q = k * 5 + 2 then X 2 else if q = k * 5 + 1 then X 1 else if q = k * 5 then X 0 else U q) = insU k U X (k + 1) q := by
  unfold insU cat
  by_cases q1 : q < k * 5
  · rw [if_neg (by omega), if_neg (by omega), if_neg (by omega), if_neg (by omega), if_neg (by omega), if_pos (by omega), if_pos q1]
  · by_cases q2 : q < (k + 1) * 5
    · rw [if_pos q2, if_neg q1]
      rcases (show q - k * 5 = 0 ∨ q - k * 5 = 1 ∨ q - k * 5 = 2 ∨ q - k * 5 = 3 ∨ q - k * 5 = 4 by omega) with e | e | e | e | e
      all_goals rw [e]
      · rw [if_neg (by omega), if_neg (by omega), if_neg (by omega), if_neg (by omega), if_pos (by omega)]
      · rw [if_neg (by omega), if_neg (by omega), if_neg (by omega), if_pos (by omega)]
      · rw [if_neg (by omega), if_neg (by omega), if_pos (by omega)]
      · rw [if_neg (by omega), if_pos (by omega)]
      · rw [if_pos (by omega)]
    · rw [if_neg q2]
      show _ = U (q - (k + 1) * 5 + (k + 1) * 5)
      rw [show q - (k + 1) * 5 + (k + 1) * 5 = q by omega, if_neg (by omega), if_neg (by omega), if_neg (by omega), if_neg (by omega), if_neg (by omega)]
def PutIs (n : Nat) (U X : Nat → Int) (k N : Nat) (R : Nat → Int) (B : Bool) : Prop :=
  (broadB n U = false ∧ N = 0 ∧ B = false) ∨ (broadB n U = true ∧ itemB X = false ∧ N = n ∧ B = false ∧ R = U) ∨
  (broadB n U = true ∧ itemB X = true ∧ thereB n U (X 0) k = true ∧ N = n ∧ B = true ∧ R = insU k U X (k + 1)) ∨
  (broadB n U = true ∧ itemB X = true ∧ thereB n U (X 0) k = false ∧ n = 24 ∧ N = n ∧ B = false ∧ R = U) ∨
  (broadB n U = true ∧ itemB X = true ∧ thereB n U (X 0) k = false ∧ n < 24 ∧ N = n + 1 ∧ B = true ∧ R = insU k U X k)
theorem putIs_ex (n : Nat) (U X : Nat → Int) (k : Nat) : ∃ N R B, PutIs n U X k N R B ∧ N ≤ n + 1 ∧ N ≤ 1048576 := by
  cases hb : broadB n U with
  | false => exact ⟨0, U, false, .inl ⟨hb, rfl, rfl⟩, by omega, by omega⟩
  | true =>
    have h24 : n ≤ 24 := by unfold broadB at hb; simp only [Bool.and_eq_true, decide_eq_true_eq] at hb; exact hb.1
    cases hi : itemB X with
    | false => exact ⟨n, U, false, .inr (.inl ⟨hb, hi, rfl, rfl, rfl⟩), by omega, by omega⟩
    | true =>
      cases ht : thereB n U (X 0) k with
      | true => exact ⟨n, _, true, .inr (.inr (.inl ⟨hb, hi, ht, rfl, rfl, rfl⟩)), by omega, by omega⟩
      | false =>
        by_cases h : n = 24
        · exact ⟨n, U, false, .inr (.inr (.inr (.inl ⟨hb, hi, ht, h, rfl, rfl, rfl⟩))), by omega, by omega⟩
        · exact ⟨n + 1, _, true, .inr (.inr (.inr (.inr ⟨hb, hi, ht, by omega, rfl, rfl, rfl⟩))), by omega, by omega⟩
end Go.Proofs.Ytjmdmnhfdfppaaa
