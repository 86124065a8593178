/- Figures read: plain mathematics. -/
import Derived.Test.YteoegjginncffaaDoorFxD
import Derived.Lib.ParseIntB
import Derived.Lib.IndexMore
import Derived.Lib.Strings
namespace Go.Proofs.YteoegjginncffaaDoor
open Go.Lib
set_option linter.unusedVariables false
def Digs (l : List UInt8) : Prop := ∀ c ∈ l, 48 ≤ c.toNat ∧ c.toNat ≤ 57
def valF (acc : Nat) (l : List UInt8) : Nat := l.foldl (fun a c => a * 10 + (c.toNat - 48)) acc
theorem fig_nat {m : Nat} (h : m < 10) : (fig m).toNat = 48 + m := by
  show (48 + m) % 256 = 48 + m
  omega
theorem fig_dig {m : Nat} (h : m < 10) : 48 ≤ (fig m).toNat ∧ (fig m).toNat ≤ 57 := by rw [fig_nat h]; omega
theorem valF_snoc (acc : Nat) (l : List UInt8) (c : UInt8) : valF acc (l ++ [c]) = valF acc l * 10 + (c.toNat - 48) := by simp [valF]
theorem dec_val (m : Nat) : valF 0 (decDigits m) = m ∧ Digs (decDigits m) ∧ decDigits m ≠ [] := by
  induction m using Nat.strongRecOn with
  | _ m ih =>
    by_cases h : m < 10
    · rw [dec1 h]
      refine ⟨?_, ?_, by simp⟩
      · simp [valF, fig_nat h]
      · intro c hc; simp at hc; subst hc; exact fig_dig h
    · obtain ⟨i1, i2, i3⟩ := ih (m / 10) (by omega)
      rw [decS h]
      refine ⟨?_, ?_, by simp⟩
      · rw [valF_snoc, i1, fig_nat (by omega)]; omega
      · intro c hc
        rcases List.mem_append.1 hc with hc | hc
        · exact i2 c hc
        · simp at hc; subst hc; exact fig_dig (by omega)
theorem pad_val {m : Nat} (h : m < 1000) : valF 0 (pad3 m) = m ∧ Digs (pad3 m) := by
  refine ⟨?_, ?_⟩
  · simp only [valF, pad3, List.foldl_cons, List.foldl_nil]
    rw [fig_nat (by omega), fig_nat (by omega), fig_nat (by omega)]; omega
  · intro c hc
    simp only [pad3, List.mem_cons, List.not_mem_nil, or_false] at hc
    rcases hc with rfl | rfl | rfl
    · exact fig_dig (by omega)
    · exact fig_dig (by omega)
    · exact fig_dig (by omega)
theorem valF_ge (acc : Nat) (l : List UInt8) : acc ≤ valF acc l := by
  induction l generalizing acc with
  | nil => exact Nat.le_refl _
  | cons c l ih => exact Nat.le_trans (by omega) (ih (acc * 10 + (c.toNat - 48)))
theorem parseM {M : Nat} (hM : M ≤ 4294967295) : ∀ (l : List UInt8) (acc : Nat), Digs l → valF acc l ≤ M → parseUintM M acc l = .ok (valF acc l)
  | [], acc, _, _ => rfl
  | c :: l, acc, hd, hv => by
    have hc := hd c (List.mem_cons_self ..)
    have hv' : valF (acc * 10 + (c.toNat - 48)) l ≤ M := hv
    have hg := valF_ge (acc * 10 + (c.toNat - 48)) l
    unfold parseUintM
    rw [if_pos hc, if_neg (by omega), if_neg (by omega)]
    exact parseM hM l _ (fun x hx => hd x (List.mem_cons_of_mem _ hx)) hv'
theorem parse_ok {l : List UInt8} (hd : Digs l) (h0 : l ≠ []) (hv : valF 0 l < 2147483648) : parseIntB 32 l = .ok (valF 0 l : Int) := by
  match l, h0 with
  | c :: r, _ =>
    have hc := hd c (List.mem_cons_self ..)
    unfold parseIntB
    simp only
    rw [if_neg (by omega)]
    have hp : parseUintB 32 (c :: r) = .ok (valF 0 (c :: r)) := by
      unfold parseUintB
      rw [if_neg (by simp)]
      exact parseM (by decide) _ _ hd (by omega)
    rw [hp]
    simp only
    rw [if_neg (by omega), if_neg (by omega), if_neg (by omega)]
theorem index_dot : ∀ (l r : List UInt8), Digs l → index (l ++ 46 :: r) [46] = (l.length : Int)
  | [], r, _ => by simp [index]
  | c :: l, r, hd => by
    have hc := hd c (List.mem_cons_self ..)
    have ih := index_dot l r (fun x hx => hd x (List.mem_cons_of_mem _ hx))
    have hne : (46 == c) = false := by
      rw [beq_eq_false_iff_ne]; rintro rfl; revert hc; decide
    simp only [List.cons_append, index]
    rw [ih]
    simp only [List.isPrefixOf, hne, Bool.false_and]
    rw [if_neg (by simp), if_neg (by first | (simp; done) | (simp; omega))]
    simp
theorem cut_dot (l r : List UInt8) (hd : Digs l) : cut (l ++ 46 :: r) [46] = (l, r, true) := by
  unfold cut
  rw [index_dot l r hd, if_pos (by omega)]
  simp
end Go.Proofs.YteoegjginncffaaDoor
