/- A tree that is grown: what its table is like. -/
import Derived.Test.YtcbgcochpflblaaBrLf
namespace Go.Proofs.Ytcbgcochpflblaa
open Go.RowKit
set_option linter.unusedVariables false
set_option linter.unusedSimpArgs false
/-- the table of nodes -/
def tab (D : Nat → Int) : Tab4 := ⟨fun k => if D (k * 8 + 4) = 1 then some (D (k * 8 + 5)).toNat else none, fun k => (D (k * 8 + 6)).toNat, fun k => (D (k * 8 + 7)).toNat⟩
/-- the box of place i lies in four numbers -/
def InA (U : Nat → Int) (a b c d : Int) (i : Nat) : Prop := a ≤ U (i * 5 + 1) ∧ b ≤ U (i * 5 + 2) ∧ U (i * 5 + 3) ≤ c ∧ U (i * 5 + 4) ≤ d
structure Good (N : Nat) (U : Nat → Int) (m : Nat) (D : Nat → Int) : Prop where
  bd : ∀ k, k < m → B2 (D (k * 8)) ∧ B2 (D (k * 8 + 1)) ∧ B2 (D (k * 8 + 2)) ∧ B2 (D (k * 8 + 3))
  leaf : ∀ k, k < m → D (k * 8 + 4) = 1 → 0 ≤ D (k * 8 + 5) ∧ D (k * 8 + 5) < (N : Int) ∧ InA U (D (k * 8)) (D (k * 8 + 1)) (D (k * 8 + 2)) (D (k * 8 + 3)) (D (k * 8 + 5)).toNat
  node : ∀ k, k < m → ¬ D (k * 8 + 4) = 1 → 0 ≤ D (k * 8 + 6) ∧ D (k * 8 + 6) < (k : Int) ∧ 0 ≤ D (k * 8 + 7) ∧ D (k * 8 + 7) < (k : Int) ∧
    (∀ j, j = (D (k * 8 + 6)).toNat ∨ j = (D (k * 8 + 7)).toNat → D (k * 8) ≤ D (j * 8) ∧ D (k * 8 + 1) ≤ D (j * 8 + 1) ∧ D (j * 8 + 2) ≤ D (k * 8 + 2) ∧ D (j * 8 + 3) ≤ D (k * 8 + 3))
theorem Good.zero (N : Nat) (U D : Nat → Int) : Good N U 0 D := ⟨fun _ h => absurd h (Nat.not_lt_zero _), fun _ h => absurd h (Nat.not_lt_zero _), fun _ h => absurd h (Nat.not_lt_zero _)⟩
theorem Good.down {N : Nat} {U : Nat → Int} {m : Nat} {D : Nat → Int} (h : Good N U m D) : Down m (tab D) := by
  intro k hk e
  have hn : ¬ D (k * 8 + 4) = 1 := by
    intro q
    simp only [tab, if_pos q] at e
    cases e
  obtain ⟨a, b, c, d, _⟩ := h.node k hk hn
  simp only [tab]
  omega
theorem Good.congr {N : Nat} {U : Nat → Int} {m : Nat} {D E : Nat → Int} (h : Good N U m D) (e : ∀ q, q < m * 8 → D q = E q) : Good N U m E := by
  refine ⟨fun k hk => ?_, fun k hk => ?_, fun k hk => ?_⟩
  · rw [← e (k * 8) (by omega), ← e (k * 8 + 1) (by omega), ← e (k * 8 + 2) (by omega), ← e (k * 8 + 3) (by omega)]
    exact h.bd k hk
  · rw [← e (k * 8) (by omega), ← e (k * 8 + 1) (by omega), ← e (k * 8 + 2) (by omega), ← e (k * 8 + 3) (by omega), ← e (k * 8 + 4) (by omega), ← e (k * 8 + 5) (by omega)]
    exact h.leaf k hk
  · rw [← e (k * 8) (by omega), ← e (k * 8 + 1) (by omega), ← e (k * 8 + 2) (by omega), ← e (k * 8 + 3) (by omega), ← e (k * 8 + 4) (by omega), ← e (k * 8 + 6) (by omega), ← e (k * 8 + 7) (by omega)]
    intro hn
    obtain ⟨a, b, c, d, f⟩ := h.node k hk hn
    refine ⟨a, b, c, d, fun j hj => ?_⟩
    have hjk : j < k := by omega
    rw [← e (j * 8) (by omega), ← e (j * 8 + 1) (by omega), ← e (j * 8 + 2) (by omega), ← e (j * 8 + 3) (by omega)]
    exact f j hj
theorem Same4.of {m : Nat} {D E : Nat → Int} (e : ∀ q, q < m * 8 → D q = E q) : Same4 m (tab D) (tab E) :=
  ⟨fun k hk => by simp only [tab]; rw [e (k * 8 + 4) (by omega), e (k * 8 + 5) (by omega)], fun k hk => by simp only [tab]; rw [e (k * 8 + 6) (by omega)], fun k hk => by simp only [tab]; rw [e (k * 8 + 7) (by omega)]⟩
/-- one node more -/
def more (D V : Nat → Int) (m : Nat) : Nat → Int := fun q => if q < m * 8 then D q else V (q - m * 8)
theorem more_old {D V : Nat → Int} {m q : Nat} (h : q < m * 8) : more D V m q = D q := if_pos h
theorem more_new {D V : Nat → Int} {m : Nat} (j : Nat) : more D V m (m * 8 + j) = V j := by unfold more; rw [if_neg (by omega)]; congr 1; omega
theorem more_new0 {D V : Nat → Int} {m : Nat} : more D V m (m * 8) = V 0 := more_new 0
theorem Good.more {N : Nat} {U : Nat → Int} {m : Nat} {D V : Nat → Int} (h : Good N U m D) (hb : B2 (V 0) ∧ B2 (V 1) ∧ B2 (V 2) ∧ B2 (V 3))
    (hl : V 4 = 1 → 0 ≤ V 5 ∧ V 5 < (N : Int) ∧ InA U (V 0) (V 1) (V 2) (V 3) (V 5).toNat)
    (hn : ¬ V 4 = 1 → 0 ≤ V 6 ∧ V 6 < (m : Int) ∧ 0 ≤ V 7 ∧ V 7 < (m : Int) ∧ (∀ j, j = (V 6).toNat ∨ j = (V 7).toNat → V 0 ≤ D (j * 8) ∧ V 1 ≤ D (j * 8 + 1) ∧ D (j * 8 + 2) ≤ V 2 ∧ D (j * 8 + 3) ≤ V 3)) :
    Good N U (m + 1) (more D V m) := by
  have hc := h.congr (E := Go.Proofs.Ytcbgcochpflblaa.more D V m) fun q hq => (more_old hq).symm
  refine ⟨fun k hk => ?_, fun k hk => ?_, fun k hk => ?_⟩
  · rcases Nat.lt_succ_iff_lt_or_eq.1 hk with q | rfl
    · exact hc.bd k q
    · rw [more_new0, more_new, more_new, more_new]; exact hb
  · rcases Nat.lt_succ_iff_lt_or_eq.1 hk with q | rfl
    · exact hc.leaf k q
    · rw [more_new0, more_new, more_new, more_new, more_new, more_new]; exact hl
  · rcases Nat.lt_succ_iff_lt_or_eq.1 hk with q | rfl
    · exact hc.node k q
    · rw [more_new0, more_new, more_new, more_new, more_new, more_new, more_new]
      intro q
      obtain ⟨a, b, c, d, f⟩ := hn q
      refine ⟨a, b, c, d, fun j hj => ?_⟩
      have hjm : j < k := by omega
      rw [more_old (by omega), more_old (by omega), more_old (by omega), more_old (by omega)]
      exact f j hj
/-- what is under a node lies in it -/
theorem Good.cov {N : Nat} {U : Nat → Int} {m : Nat} {D : Nat → Int} (h : Good N U m D) {k : Nat} {c : List Nat} (hc : Cov (tab D) k c) (hk : k < m) : ∀ i ∈ c, InA U (D (k * 8)) (D (k * 8 + 1)) (D (k * 8 + 2)) (D (k * 8 + 3)) i ∧ i < N := by
  induction hc with
  | @leaf k i e =>
    intro j hj
    simp only [tab] at e
    split at e
    · rename_i hl
      obtain ⟨a, b, f⟩ := h.leaf k hk hl
      obtain rfl := Option.some.inj e
      rw [List.mem_singleton] at hj
      subst hj
      exact ⟨f, by omega⟩
    · cases e
  | @node k a b e ha hb iha ihb =>
    have hn : ¬ D (k * 8 + 4) = 1 := by
      intro q
      simp only [tab, if_pos q] at e
      cases e
    obtain ⟨h1, h2, h3, h4, f⟩ := h.node k hk hn
    intro i hi
    have key : ∀ j, j = (D (k * 8 + 6)).toNat ∨ j = (D (k * 8 + 7)).toNat → InA U (D (j * 8)) (D (j * 8 + 1)) (D (j * 8 + 2)) (D (j * 8 + 3)) i → InA U (D (k * 8)) (D (k * 8 + 1)) (D (k * 8 + 2)) (D (k * 8 + 3)) i := by
      intro j hj ⟨q1, q2, q3, q4⟩
      obtain ⟨f1, f2, f3, f4⟩ := f j hj
      exact ⟨by omega, by omega, by omega, by omega⟩
    rcases List.mem_append.1 hi with hi | hi
    · obtain ⟨q, r⟩ := iha (by simp only [tab]; omega) i hi
      exact ⟨key _ (.inl rfl) q, r⟩
    · obtain ⟨q, r⟩ := ihb (by simp only [tab]; omega) i hi
      exact ⟨key _ (.inr rfl) q, r⟩
theorem Cov.more {N : Nat} {U : Nat → Int} {m : Nat} {D V : Nat → Int} (h : Good N U m D) {k : Nat} {c : List Nat} (hc : Cov (tab D) k c) (hk : k < m) : Cov (tab (more D V m)) k c :=
  hc.same (Same4.of fun q hq => (more_old hq).symm) h.down hk
/-- the places of a row -/
def plc (V : Nat → Int) (n : Nat) : List Nat := (List.range n).map fun i => (V i).toNat
theorem Sw.plc {n : Nat} {V U : Nat → Int} (h : Sw n V U) : (plc U n).Perm (plc V n) := by
  have := (h.perm).map Int.toNat
  simpa [Go.Proofs.Ytcbgcochpflblaa.plc, List.map_map, Function.comp_def] using this
theorem plc_split (V : Nat → Int) (a b : Nat) : plc V (a + b) = plc V a ++ plc (fun i => V (a + i)) b := by
  unfold plc
  rw [List.range_add, List.map_append, List.map_map]
  rfl
end Go.Proofs.Ytcbgcochpflblaa
