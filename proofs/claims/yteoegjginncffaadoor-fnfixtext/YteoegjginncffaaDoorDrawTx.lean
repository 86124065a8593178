/- The contracts of the draws of texts. -/
import Derived.Test.YteoegjginncffaaDoorDrawNum
import Derived.Test.YteoegjginncffaaDoorTq
import Derived.Deep.RegionHeld3
import Derived.Deep.DeepCutAuto
namespace Go.Proofs.YteoegjginncffaaDoor
open Go.RowKit
set_option linter.unusedVariables false
set_option linter.unusedSimpArgs false
theorem RB.drewT {w0 w : World} {rb p : Nat} (h : RB w0 w rb p) : RB w0 w.drew rb p := by
  obtain ⟨q, a, b, c⟩ := h; exact ⟨q, a, b, ⟨c.os, c.tape, c.output, c.size, c.block⟩⟩
/-- each cell of a list is a short text -/
def AllSh (k : Nat) : List Value → Prop
  | [] => True
  | c :: r => (∃ s : ByteArray, c = .string s ∧ s.size ≤ k) ∧ AllSh k r
theorem AllSh.get {k : Nat} : ∀ {l : List Value}, AllSh k l → ∀ i, i < l.length → ∃ s : ByteArray, l[i]? = some (.string s) ∧ s.size ≤ k
  | c :: r, h, 0, _ => by obtain ⟨z, rfl, h1⟩ := h.1; exact ⟨z, rfl, h1⟩
  | c :: r, h, i + 1, hi' => by simpa using AllSh.get h.2 i (by simpa using hi')
theorem AllSh.cons {k : Nat} {s : ByteArray} {r : List Value} (h1 : s.size ≤ k) (h : AllSh k r) : AllSh k (.string s :: r) := ⟨⟨s, rfl, h1⟩, h⟩
theorem AllSh.nil {k : Nat} : AllSh k [] := trivial
theorem RB.transT {a b c : World} {rb p p' : Nat} (h : RB a b rb p) (k : RB b c rb p') : RB a c rb p' := by
  obtain ⟨q, _, _, x⟩ := h
  obtain ⟨q', y, z, u⟩ := k
  exact ⟨q', y, z, x.trans u⟩
theorem RB.selfT {w0 w : World} {rb p : Nat} (h : RB w0 w rb p) : RB w w rb p := by
  obtain ⟨q, a, b, c⟩ := h; exact ⟨q, a, b, But.refl _ _⟩
set_option maxHeartbeats 1000000 in
theorem of_rb (k : Nat) (w0 : World) (rb p lb len cap : Nat) (v : World) (hr : RB w0 v rb p) (hp : p ≤ 999000) (h0 : 1 ≤ len) (h1 : len ≤ 100) (hlb : lb < v.heap.size) (hne : lb ≠ rb)
    (hcell : ∀ i : Nat, i < len → ∃ s : ByteArray, v.cell? ⟨lb, i, none⟩ = some (.string s) ∧ s.size ≤ k) :
    Calls Tryd.prog 31 #[.pointer (some ⟨rb, 0, none⟩), .slice (some ⟨lb, 0, none⟩) len cap] v fun e w' => ∃ s : ByteArray, e = .returned (.string s) ∧ s.size ≤ k ∧ RB w0 w' rb (p + 1) := by
  have hr1 := hr.selfT
  go_enter Tryd.func31, Tryd.ntmps31
  go_wp2_with (go_at_call 24; refine (pick_rb v rb p _ _ hr1 hp (by omega) (by omega)).mono ?_; rintro e w1 ⟨x, rfl, v0, v1, hr2⟩; obtain ⟨j, rfl⟩ := Int.eq_ofNat_of_zero_le v0; obtain ⟨s, hs, hk⟩ := hcell j (by omega); have hcj := (hr2.cells.1 lb j hlb hne).trans hs)
  go_ret
  exact ⟨s, rfl, hk, hr.transT hr2⟩
theorem seven (n : Nat) (w : World) (cs : Array Value) (t : TypeId) (k : Nat) (h : AllSh k cs.toList) (hn : cs.size = n) : ∀ i, i < n → ∃ s : ByteArray, (w.alloc (.cells cs t)).drew.cell? ⟨w.heap.size, i, none⟩ = some (.string s) ∧ s.size ≤ k := by
  intro i hi
  subst hn
  obtain ⟨s, hs, hk⟩ := h.get i (by simpa using hi)
  exact ⟨s, by rw [World.cell?_drew, World.cell?_alloc_mark w cs t (0, 0) i]; simpa using hs, hk⟩
set_option maxHeartbeats 1000000 in
theorem l11Cut_rb (s : ByteArray) (w0 : World) (rb p : Nat) (w : World) (hr : RB w0 w rb p) (hp : p ≤ 990000) (hs : s.size ≤ 100) :
    Calls Tryd.prog 20 #[.pointer (some ⟨rb, 0, none⟩), .string s] w fun e w' => ∃ s' : ByteArray, e = .returned (.string s') ∧ s'.size ≤ 1000 ∧ RB w0 w' rb (p + 3) := by
  go_enter Tryd.func20, Tryd.ntmps20
  go_wp2_with fail
  refine (pick_rb w0 rb p ((s.size : Int) + 1) _ hr (by omega) (by omega) (by omega)).mono ?_
  rintro e w1 ⟨v1, rfl, v10, v11, hr1⟩
  obtain ⟨j, rfl⟩ := Int.eq_ofNat_of_zero_le v10
  have hj : j ≤ s.size := by omega
  clear v10 v11
  go_wp2_with fail
  refine (pick_rb w0 rb (p + 1) 5 _ hr1 (by omega) (by omega) (by omega)).mono ?_
  rintro e w2 ⟨v2, rfl, v20, v21, hr2⟩
  have hj' : (j : Int) ≤ (s.size : Int) := by omega
  by_cases h0 : v2 = 0
  · subst h0
    clear hr hr1 v20 v21
    go_upto_region 4 with fail
    refine wp_region_held_drew (S := fun w' => True) (by kernel_rfl) trivial (fun hHeld => ?_)
    refine tq 0 hHeld ?_
    refine tq 1 hHeld ?_
    refine tq 3 hHeld ?_
    refine tq 7 hHeld ?_
    refine tq 8 hHeld ?_
    refine tq 2 hHeld ?_
    refine tq 9 hHeld ?_
    refine tc 4 fun K hK => ?_
    go_simp
    refine tr hK (fun hHeld => ?_) trivial
    clear hK K
    refine tc 5 fun K hK => ?_
    go_simp
    go_at_call 31
    have hlt := hr2.lt
    refine (of_rb 1 w0 rb (p + 1 + 1) w2.heap.size 7 7 _ (hr2.alloc _).drewT (by omega) (by omega) (by omega) (by simp) (by omega) (seven 7 w2 _ _ 1 (by repeat (first | exact AllSh.nil | refine AllSh.cons (by decide) ?_)) rfl)).mono ?_
    rintro e w4 ⟨s4, rfl, hs4, hr4⟩
    (try go_wp2_with fail)
    refine tr hK (fun hHeld => ?_) trivial
    clear hK K
    have z1 : (s.extract 0 j).size ≤ 100 := by rw [ByteArray.size_extract]; omega
    have z2 : (s.extract j s.size).size ≤ 100 := by rw [ByteArray.size_extract]; omega
    obtain ⟨x1, hx1⟩ : ∃ x, s.extract 0 j = x := ⟨_, rfl⟩
    obtain ⟨x2, hx2⟩ : ∃ x, s.extract j s.size = x := ⟨_, rfl⟩
    rw [hx1] at z1 ⊢
    rw [hx2] at z2 ⊢
    have l1 : ¬ (9223372036854775807 < x1.size + s4.size) := by omega
    have l2 : ¬ (9223372036854775807 < x1.size + s4.size + x2.size) := by omega
    refine tq 6 hHeld ?_
    refine tq 10 hHeld ?_
    refine tq 11 hHeld ?_
    refine wpAnyH_done (by kernel_rfl) ?_ _
    go_wp2_with fail
    go_ret
    exact ⟨_, rfl, by rw [ByteArray.size_append, ByteArray.size_append]; omega, hr4⟩
  · have h0' : (v2 == 0) = false := by rw [beq_eq_false_iff_ne]; exact h0
    by_cases h1 : v2 = 1
    · subst h1
      clear h0 h0'
      go_wp2
      go_ret
      exact ⟨_, rfl, by rw [ByteArray.size_extract]; omega, RB.mono hr2 (by omega)⟩
    · have h1' : (v2 == 1) = false := by rw [beq_eq_false_iff_ne]; exact h1
      clear h0 h1
      go_wp2
      go_ret
      exact ⟨_, rfl, by omega, RB.mono hr2 (by omega)⟩
end Go.Proofs.YteoegjginncffaaDoor
