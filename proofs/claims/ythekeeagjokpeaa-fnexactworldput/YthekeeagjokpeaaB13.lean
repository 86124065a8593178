/- Slices of things that are numbers alone, as they come in. Lists of bodies, as they come in. Worlds, as they come in. A box that came in by value is four integers. A body that came in by value is twelve integers. -/
import Derived.Test.YthekeeagjokpeaaB1
import Derived.Deep.Slices
import Derived.ChangeSame
import Derived.ChangeArms
import Derived.Test.YthekeeagjokpeaaRows
import Derived.ProofKit
import Derived.OpenShut
import Derived.Lib.SmallJoins
import Derived.Deep.Strs
namespace Go.Proofs.Ythekeeagjokpeaa
open Go.RowKit Go.ChangeShapes Go.WideShapes Go.Deep
set_option linter.unusedVariables false
set_option linter.unusedSimpArgs false
/-- what is read at the type is k numbers -/
def IntsOf (P : Program) (e : TypeId) (k : Nat) : Prop :=
  ∀ (H : Type) (enc : TypeId × Value → H) (w : World) (base : Nat) (spare : Nat → Bool) (held : Bool) (fuel : Nat) (cs : List Value) (x : DataW H × List MemPlace),
    DataW.trod enc P w base spare held fuel e cs = some x → cs.length = k ∧ ∀ j, j < k → ∃ v : Int, cs[j]? = some (.int .i64 v) ∧ (Lit.int .i64 v).wf = true
theorem IntsOf.int {P : Program} {e : TypeId} (h : P.underlying e = some (.int .i64)) : IntsOf P e 1 := by
  intro H enc w base spare held fuel cs x hx
  obtain ⟨v, h1, _, h3⟩ := DataW.trod_int h hx
  subst h1
  refine ⟨rfl, fun j hj => ?_⟩
  obtain rfl : j = 0 := by omega
  exact ⟨v, rfl, h3⟩
theorem IntsOf.struct {P : Program} {t : TypeId} {k : Nat} {fs : Array Field} (cs_ : List Nat) (ht : P.underlying t = some (.struct fs)) (hk : P.cellsOf t = k)
    (hf : ∀ (i : Nat) (f : Field) (c : Nat), fs[i]? = some f → cs_[i]? = some c → P.cellsOf f.type = c ∧ IntsOf P f.type c)
    (cover : (List.range k).all (fun j => (List.range fs.size).any fun i => match fs[i]?, cs_[i]? with | some f, some c => decide (f.offset ≤ j ∧ j < f.offset + c) | _, _ => false) = true) : IntsOf P t k := by
  intro H enc w base spare held fuel cs x hx
  obtain ⟨xs, n, _, _, hl, hlen, hg⟩ := DataW.trod_struct ht hx
  rw [hk] at hl
  refine ⟨hl, fun j hj => ?_⟩
  rw [List.all_eq_true] at cover
  have c1 := cover j (List.mem_range.2 hj)
  rw [List.any_eq_true] at c1
  obtain ⟨i, hi, hm⟩ := c1
  have hi' := List.mem_range.1 hi
  cases hfi : fs[i]? with
  | none => simp [hfi] at hm
  | some f =>
    cases hci : cs_[i]? with
    | none => simp [hfi, hci] at hm
    | some c =>
      simp only [hfi, hci, decide_eq_true_eq] at hm
      obtain ⟨hc, hI⟩ := hf i f c hfi hci
      have g := hg i f hfi
      rw [hc] at g
      have hxi : i < xs.length := by rw [hlen]; exact hi'
      rw [List.getElem?_eq_getElem hxi] at g
      obtain ⟨_, q⟩ := hI H enc w base spare held _ _ _ g
      obtain ⟨v, hv, hw⟩ := q (j - f.offset) (by omega)
      refine ⟨v, ?_, hw⟩
      rw [List.getElem?_take, if_pos (by omega), List.getElem?_drop, show f.offset + (j - f.offset) = j by omega] at hv
      exact hv
theorem open_flat {P : Program} {t e : TypeId} {k : Nat} (hk0 : 0 < k) (ht : P.underlying t = some (.slice e)) (hk : P.cellsOf e = k) (hE : IntsOf P e k)
    {H : Type} {enc : TypeId × Value → H} {w : World} {base : Nat} {spare : Nat → Bool} {held : Bool} {fuel : Nat} {v : Value} {x : DataW H × List MemPlace}
    (h : DataW.trod enc P w base spare held fuel t [v] = some x) :
    ∃ (a : Option Addr) (n c : Nat) (U : Nat → Int), v = .slice a n c ∧ (n : Int) ≤ 9223372036854775807 ∧ Flat w a (n * k) U ∧ ∀ q, q < n * k → (Lit.int .i64 (U q)).wf = true := by
  rcases open_slice ht h with ⟨hc, _⟩ | ⟨a, len, cap, m, fu, D, Pl, hc, hb, hl, hm, hmm, _, hall⟩
  · simp only [List.cons.injEq, and_true] at hc
    subst hc
    exact ⟨none, 0, 0, fun _ => 0, rfl, by omega, by rw [Nat.zero_mul]; exact Flat.nil, fun q hq => by omega⟩
  · simp only [List.cons.injEq, and_true] at hc
    subst hc
    have hlm : len ≤ m := by rw [hmm]; split <;> omega
    have one : ∀ q, q < len * k → ∃ z : Int, w.cell? (a.add q) = some (.int .i64 z) ∧ (Lit.int .i64 z).wf = true := by
      intro q hq
      have hi : q / k < len := Nat.div_lt_of_lt_mul (by rw [Nat.mul_comm]; exact hq)
      obtain ⟨cs', h1, h2⟩ := hall (q / k) (by omega)
      obtain ⟨_, hlen, hcell⟩ := World.cells?_some h1
      obtain ⟨_, hv⟩ := hE H enc w base spare held _ _ _ h2
      obtain ⟨z, hz, hw⟩ := hv (q % k) (Nat.mod_lt _ hk0)
      have := hcell (q % k) (by rw [hk]; exact Nat.mod_lt _ hk0)
      rw [hz, hk, add_add, Nat.mul_comm, Nat.div_add_mod] at this
      exact ⟨z, this, hw⟩
    obtain ⟨U, hU⟩ := choose_lt one
    refine ⟨some a, len, cap, U, rfl, by unfold maxLen at hm; omega, ?_, fun q hq => (hU q hq).2⟩
    intro h0
    obtain ⟨b, o, spot⟩ := a
    have g0 := (hU 0 h0).1
    have hspot : spot = none := by simpa [Addr.add] using World.cell?_spot g0
    subst hspot
    have hbl := World.block_lt_of_cell? w _ g0
    simp only [Addr.add, if_true] at hbl
    refine ⟨b, o, rfl, hbl, fun q hq => ?_⟩
    have := (hU q hq).1
    by_cases hq0 : q = 0
    · subst hq0; simpa [Addr.add] using this
    · simpa [Addr.add, hq0] using this
end Go.Proofs.Ythekeeagjokpeaa
namespace Go.Proofs.Ythekeeagjokpeaa
open Go.RowKit Go.ChangeShapes Go.WideShapes Go.Deep
set_option linter.unusedVariables false
set_option linter.unusedSimpArgs false
theorem cellsI : Try.prog.cellsOf 3 = 1 := by kernel_rfl
theorem cellsV : Try.prog.cellsOf 29 = 2 := by kernel_rfl
theorem cellsSh : Try.prog.cellsOf 27 = 3 := by kernel_rfl
theorem cellsBd : Try.prog.cellsOf 31 = 12 := by kernel_rfl
theorem cellsSlB : Try.prog.cellsOf 22 = 1 := by kernel_rfl
theorem intsI : IntsOf Try.prog 3 1 := IntsOf.int Try.underlying3
theorem intsV : IntsOf Try.prog 29 2 := IntsOf.struct [1, 1] Try.underlying29 (by kernel_rfl) (fun i f c h1 h2 => match i, h1, h2 with
  | 0, h1, h2 => by cases h1; cases h2; exact ⟨cellsI, intsI⟩
  | 1, h1, h2 => by cases h1; cases h2; exact ⟨cellsI, intsI⟩
  | _ + 2, h1, h2 => by simp at h2) (by decide)
theorem intsSh : IntsOf Try.prog 27 3 := IntsOf.struct [1, 1, 1] Try.underlying27 (by kernel_rfl) (fun i f c h1 h2 => match i, h1, h2 with
  | 0, h1, h2 => by cases h1; cases h2; exact ⟨cellsI, intsI⟩
  | 1, h1, h2 => by cases h1; cases h2; exact ⟨cellsI, intsI⟩
  | 2, h1, h2 => by cases h1; cases h2; exact ⟨cellsI, intsI⟩
  | _ + 3, h1, h2 => by simp at h2) (by decide)
theorem intsBd : IntsOf Try.prog 31 12 := IntsOf.struct [1, 3, 2, 2, 1, 1, 1, 1] Try.underlying31 (by kernel_rfl) (fun i f c h1 h2 => match i, h1, h2 with
  | 0, h1, h2 => by cases h1; cases h2; exact ⟨cellsI, intsI⟩
  | 1, h1, h2 => by cases h1; cases h2; exact ⟨cellsSh, intsSh⟩
  | 2, h1, h2 => by cases h1; cases h2; exact ⟨cellsV, intsV⟩
  | 3, h1, h2 => by cases h1; cases h2; exact ⟨cellsV, intsV⟩
  | 4, h1, h2 => by cases h1; cases h2; exact ⟨cellsI, intsI⟩
  | 5, h1, h2 => by cases h1; cases h2; exact ⟨cellsI, intsI⟩
  | 6, h1, h2 => by cases h1; cases h2; exact ⟨cellsI, intsI⟩
  | 7, h1, h2 => by cases h1; cases h2; exact ⟨cellsI, intsI⟩
  | _ + 8, h1, h2 => by simp at h2) (by decide)
set_option maxRecDepth 100000 in
theorem open_bodies {H : Type} {enc : TypeId × Value → H} {W : World} {base b0 : Nat} {spare : Nat → Bool} {held : Bool} {v : Value} {d : DataW H} {p : List MemPlace}
    (hv : Value.okWide Try.prog W .any b0 22 v) (h : DataW.Trod enc Try.prog W base spare held 22 v d p) :
    ∃ (a : Option Addr) (n c : Nat) (U : Nat → Int), v = .slice a n c ∧ (n : Int) ≤ 9223372036854775807 ∧ Flat W a (n * 12) U ∧ ∀ q, q < n * 12 → (Lit.int .i64 (U q)).wf = true := by
  obtain ⟨a0, len, cap, rfl⟩ := okWide_slice Try.underlying22 hv
  obtain ⟨fuel, hf⟩ := h
  exact open_flat (by decide) Try.underlying22 cellsBd intsBd hf
end Go.Proofs.Ythekeeagjokpeaa
namespace Go.Proofs.Ythekeeagjokpeaa
open Go.RowKit Go.ChangeShapes Go.WideShapes Go.Deep
set_option linter.unusedVariables false
set_option linter.unusedSimpArgs false
theorem cellsPr : Try.prog.cellsOf 78 = 2 := by kernel_rfl
theorem cellsSlP : Try.prog.cellsOf 23 = 1 := by kernel_rfl
theorem cellsWd : Try.prog.cellsOf 25 = 4 := by kernel_rfl
theorem intsPr : IntsOf Try.prog 78 2 := IntsOf.struct [1, 1] Try.underlying78 (by kernel_rfl) (fun i f c h1 h2 => match i, h1, h2 with
  | 0, h1, h2 => by cases h1; cases h2; exact ⟨cellsI, intsI⟩
  | 1, h1, h2 => by cases h1; cases h2; exact ⟨cellsI, intsI⟩
  | _ + 2, h1, h2 => by simp at h2) (by decide)
theorem array4 {α : Type} {cs : Array α} (h : cs.size = 4) : ∃ c0 c1 c2 c3, cs = #[c0, c1, c2, c3] := by
  obtain ⟨l⟩ := cs
  match l, h with
  | [c0, c1, c2, c3], _ => exact ⟨c0, c1, c2, c3, rfl⟩
set_option maxRecDepth 100000 in
theorem open_world {H : Type} {enc : TypeId × Value → H} {W : World} {base b0 : Nat} {spare : Nat → Bool} {held : Bool} {v : Value} {d : DataW H} {p : List MemPlace}
    (hv : Value.okWide Try.prog W .any b0 25 v) (h : DataW.Trod enc Try.prog W base spare held 25 v d p) :
    ∃ (T P : Int) (a : Option Addr) (n c : Nat) (U : Nat → Int) (a' : Option Addr) (m c' : Nat) (Q : Nat → Int), v = .agg #[.int .i64 T, .int .i64 P, .slice a n c, .slice a' m c'] ∧ (n : Int) ≤ 9223372036854775807 ∧ (m : Int) ≤ 9223372036854775807 ∧ Flat W a (n * 12) U ∧ Flat W a' (m * 2) Q := by
  obtain ⟨cs, rfl, hsz⟩ := okWide_struct Try.underlying25 hv
  obtain ⟨c0, c1, c2, c3, rfl⟩ := array4 (hsz.trans cellsWd)
  obtain ⟨fuel, hf0⟩ := h
  obtain ⟨xs, n, _, hx, hl, hlen, hf⟩ := DataW.trod_struct Try.underlying25 hf0
  match xs, hlen with
  | [y0, y1, y2, y3], _ =>
    have k0 : DataW.trod enc Try.prog W base spare held n 3 [c0] = some y0 := by simpa [Value.cells, cellsI] using hf 0 _ rfl
    have k1 : DataW.trod enc Try.prog W base spare held n 3 [c1] = some y1 := by simpa [Value.cells, cellsI] using hf 1 _ rfl
    have k2 : DataW.trod enc Try.prog W base spare held n 22 [c2] = some y2 := by simpa [Value.cells, cellsSlB] using hf 2 _ rfl
    have k3 : DataW.trod enc Try.prog W base spare held n 23 [c3] = some y3 := by simpa [Value.cells, cellsSlP] using hf 3 _ rfl
    obtain ⟨T, e0, _, w0⟩ := DataW.trod_int Try.underlying3 k0
    obtain ⟨P, e1, _, w1⟩ := DataW.trod_int Try.underlying3 k1
    obtain ⟨a, n1, c, U, rfl, hn, hF, _⟩ := open_flat (by decide) Try.underlying22 cellsBd intsBd k2
    obtain ⟨a', m, c', Q, rfl, hm, hF', _⟩ := open_flat (by decide) Try.underlying23 cellsPr intsPr k3
    simp only [List.cons.injEq, and_true] at e0 e1
    subst e0 e1
    exact ⟨T, P, a, n1, c, U, a', m, c', Q, rfl, hn, hm, hF, hF'⟩
end Go.Proofs.Ythekeeagjokpeaa
namespace Go.Proofs.Ythekeeagjokpeaa
open Go.ChangeShapes Go.WideShapes Go.ChangeAt Go.RowKit Go.Joins
set_option linter.unusedVariables false
set_option linter.unusedSimpArgs false
theorem cellsVec : Try.prog.cellsOf 29 = 2 := by kernel_rfl
theorem cellsInt : Try.prog.cellsOf 3 = 1 := by kernel_rfl
end Go.Proofs.Ythekeeagjokpeaa
namespace Go.Proofs.Ythekeeagjokpeaa
open Go.ChangeShapes Go.WideShapes Go.ChangeAt Go.RowKit Go.Joins
set_option linter.unusedVariables false
set_option linter.unusedSimpArgs false
theorem cellsBody : Try.prog.cellsOf 31 = 12 := by kernel_rfl
theorem cellsShape : Try.prog.cellsOf 27 = 3 := by kernel_rfl
theorem array12 {α : Type} {cs : Array α} (h : cs.size = 12) : ∃ c0 c1 c2 c3 c4 c5 c6 c7 c8 c9 c10 c11, cs = #[c0, c1, c2, c3, c4, c5, c6, c7, c8, c9, c10, c11] := by
  obtain ⟨l⟩ := cs
  match l, h with
  | [c0, c1, c2, c3, c4, c5, c6, c7, c8, c9, c10, c11], _ => exact ⟨c0, c1, c2, c3, c4, c5, c6, c7, c8, c9, c10, c11, rfl⟩
set_option maxRecDepth 100000 in
theorem open_body12 {H : Type} {enc : TypeId × Value → H} {W : World} {base b0 : Nat} {spare : Nat → Bool} {held : Bool} {v : Value} {d : DataW H} {p : List MemPlace}
    (hv : Value.okWide Try.prog W .any b0 31 v) (h : DataW.Trod enc Try.prog W base spare held 31 v d p) :
    ∃ V : Nat → Int, v = .agg #[.int .i64 (V 0), .int .i64 (V 1), .int .i64 (V 2), .int .i64 (V 3), .int .i64 (V 4), .int .i64 (V 5), .int .i64 (V 6), .int .i64 (V 7), .int .i64 (V 8), .int .i64 (V 9), .int .i64 (V 10), .int .i64 (V 11)] := by
  obtain ⟨cs, rfl, hsz⟩ := okWide_struct Try.underlying31 hv
  obtain ⟨c0, c1, c2, c3, c4, c5, c6, c7, c8, c9, c10, c11, rfl⟩ := array12 (hsz.trans cellsBody)
  obtain ⟨fuel, hf0⟩ := h
  obtain ⟨xs, n, _, hx, hl, hlen, hf⟩ := DataW.trod_struct Try.underlying31 hf0
  match xs, hlen with
  | [y0, y1, y2, y3, y4, y5, y6, y7], _ =>
    have k0 : DataW.trod enc Try.prog W base spare held n 3 [c0] = some y0 := by simpa [Value.cells, cellsInt] using hf 0 _ rfl
    have k1 : DataW.trod enc Try.prog W base spare held n 27 [c1, c2, c3] = some y1 := by simpa [Value.cells, cellsShape] using hf 1 _ rfl
    have k2 : DataW.trod enc Try.prog W base spare held n 29 [c4, c5] = some y2 := by simpa [Value.cells, cellsVec] using hf 2 _ rfl
    have k3 : DataW.trod enc Try.prog W base spare held n 29 [c6, c7] = some y3 := by simpa [Value.cells, cellsVec] using hf 3 _ rfl
    have k4 : DataW.trod enc Try.prog W base spare held n 3 [c8] = some y4 := by simpa [Value.cells, cellsInt] using hf 4 _ rfl
    have k5 : DataW.trod enc Try.prog W base spare held n 3 [c9] = some y5 := by simpa [Value.cells, cellsInt] using hf 5 _ rfl
    have k6 : DataW.trod enc Try.prog W base spare held n 3 [c10] = some y6 := by simpa [Value.cells, cellsInt] using hf 6 _ rfl
    have k7 : DataW.trod enc Try.prog W base spare held n 3 [c11] = some y7 := by simpa [Value.cells, cellsInt] using hf 7 _ rfl
    obtain ⟨s0, s1, s2, n1, _, _, a1, a2, a3⟩ := Go.Deep.trod_struct3 Try.underlying27 k1
    obtain ⟨s4, s5, n2, _, _, a4, a5⟩ := trod_struct2 Try.underlying29 k2
    obtain ⟨s6, s7, n3, _, _, a6, a7⟩ := trod_struct2 Try.underlying29 k3
    have q0 := k0
    have q1 : DataW.trod enc Try.prog W base spare held n1 3 [c1] = some s0 := by simpa [cellsInt] using a1
    have q2 : DataW.trod enc Try.prog W base spare held n1 3 [c2] = some s1 := by simpa [cellsInt] using a2
    have q3 : DataW.trod enc Try.prog W base spare held n1 3 [c3] = some s2 := by simpa [cellsInt] using a3
    have q4 : DataW.trod enc Try.prog W base spare held n2 3 [c4] = some s4 := by simpa [cellsInt] using a4
    have q5 : DataW.trod enc Try.prog W base spare held n2 3 [c5] = some s5 := by simpa [cellsInt] using a5
    have q6 : DataW.trod enc Try.prog W base spare held n3 3 [c6] = some s6 := by simpa [cellsInt] using a6
    have q7 : DataW.trod enc Try.prog W base spare held n3 3 [c7] = some s7 := by simpa [cellsInt] using a7
    have q8 := k4
    have q9 := k5
    have q10 := k6
    have q11 := k7
    obtain ⟨x0, e0, _, w0⟩ := DataW.trod_int Try.underlying3 q0
    obtain ⟨x1, e1, _, w1⟩ := DataW.trod_int Try.underlying3 q1
    obtain ⟨x2, e2, _, w2⟩ := DataW.trod_int Try.underlying3 q2
    obtain ⟨x3, e3, _, w3⟩ := DataW.trod_int Try.underlying3 q3
    obtain ⟨x4, e4, _, w4⟩ := DataW.trod_int Try.underlying3 q4
    obtain ⟨x5, e5, _, w5⟩ := DataW.trod_int Try.underlying3 q5
    obtain ⟨x6, e6, _, w6⟩ := DataW.trod_int Try.underlying3 q6
    obtain ⟨x7, e7, _, w7⟩ := DataW.trod_int Try.underlying3 q7
    obtain ⟨x8, e8, _, w8⟩ := DataW.trod_int Try.underlying3 q8
    obtain ⟨x9, e9, _, w9⟩ := DataW.trod_int Try.underlying3 q9
    obtain ⟨x10, e10, _, w10⟩ := DataW.trod_int Try.underlying3 q10
    obtain ⟨x11, e11, _, w11⟩ := DataW.trod_int Try.underlying3 q11
    simp only [List.cons.injEq, and_true] at e0 e1 e2 e3 e4 e5 e6 e7 e8 e9 e10 e11
    subst e0 e1 e2 e3 e4 e5 e6 e7 e8 e9 e10 e11
    exact ⟨fun j => match j with | 0 => x0 | 1 => x1 | 2 => x2 | 3 => x3 | 4 => x4 | 5 => x5 | 6 => x6 | 7 => x7 | 8 => x8 | 9 => x9 | 10 => x10 | _ => x11, rfl⟩
end Go.Proofs.Ythekeeagjokpeaa
