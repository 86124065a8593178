/- A tree's nodes in memory of their own. -/
import Derived.Test.YtcbgcochpflblaaBrSA
import Derived.Test.YtcbgcochpflblaaB16
import Derived.Test.YtcbgcochpflblaaAp
import Derived.Deep.AppendLies
namespace Go.Proofs.Ytcbgcochpflblaa
open Go.RowKit
set_option linter.unusedVariables false
set_option linter.unusedSimpArgs false
def nd8 (D : Nat → Int) (q : Nat) : List Value := [.int .i64 (D (q * 8)), .int .i64 (D (q * 8 + 1)), .int .i64 (D (q * 8 + 2)), .int .i64 (D (q * 8 + 3)), .bool (decide (D (q * 8 + 4) = 1)), .int .i64 (D (q * 8 + 5)), .int .i64 (D (q * 8 + 6)), .int .i64 (D (q * 8 + 7))]
def nds (D : Nat → Int) : Nat → List Value
  | 0 => []
  | m + 1 => nds D m ++ nd8 D m
theorem nds_len (D : Nat → Int) : ∀ m, (nds D m).length = m * 8
  | 0 => rfl
  | m + 1 => by rw [nds, List.length_append, nds_len D m]; show m * 8 + 8 = _; omega
theorem nds_get (D : Nat → Int) : ∀ (m q i : Nat), q < m → i < 8 → (nds D m)[q * 8 + i]? = (nd8 D q)[i]?
  | 0, q, i, h, _ => absurd h (Nat.not_lt_zero _)
  | m + 1, q, i, h, hi => by
    rw [nds]
    by_cases e : q = m
    · subst e
      rw [List.getElem?_append_right (by rw [nds_len]; omega), nds_len, Nat.add_sub_cancel_left]
    · rw [List.getElem?_append_left (by rw [nds_len]; omega)]
      exact nds_get D m q i (by omega) hi
theorem nds_congr {D E : Nat → Int} : ∀ m, (∀ q, q < m * 8 → D q = E q) → nds D m = nds E m
  | 0, _ => rfl
  | m + 1, h => by
    rw [nds, nds, nds_congr m (fun q hq => h q (by omega))]
    unfold nd8
    rw [h (m * 8) (by omega), h (m * 8 + 1) (by omega), h (m * 8 + 2) (by omega), h (m * 8 + 3) (by omega), h (m * 8 + 4) (by omega), h (m * 8 + 5) (by omega), h (m * 8 + 6) (by omega), h (m * 8 + 7) (by omega)]
def NL (w : World) (base : Nat) (v : Value) (D : Nat → Int) (m : Nat) : Prop := w.ownsRow base 86 8 v m (nds D m)
theorem NL.nil (w : World) (base : Nat) (D : Nat → Int) : NL w base (.slice none 0 0) D 0 := World.ownsRow_nil w base _ _
theorem NL.lt {w : World} {base m : Nat} {v : Value} {D : Nat → Int} (h : NL w base v D m) : ∀ b, v.ownBlock = some b → base ≤ b ∧ b < w.heap.size := World.ownsRow.lt h
theorem NL.keep {w w' : World} {base m : Nat} {v : Value} {D : Nat → Int} (h : NL w base v D m) (hs : ∀ g, v.ownBlock = some g → w'.heap[g]? = w.heap[g]?) : NL w' base v D m := by
  refine ⟨h.1, ?_⟩
  rcases h.2 with q | ⟨g, cap, cur, hv, hb, hg, rest⟩
  · exact .inl q
  · exact .inr ⟨g, cap, cur, hv, hb, (hs g (by rw [hv]; rfl)).trans hg, rest⟩
theorem NL.congr {w : World} {base m : Nat} {v : Value} {D E : Nat → Int} (h : NL w base v D m) (e : ∀ q, q < m * 8 → D q = E q) : NL w base v E m := by
  unfold NL; rw [← nds_congr m e]; exact h
theorem NL.is {w : World} {base m : Nat} {v : Value} {D : Nat → Int} (h : NL w base v D m) : (m = 0 ∧ v = .slice none 0 0) ∨ ∃ g c, v = .slice (some ⟨g, 0, none⟩) m c := by
  rcases h.2 with ⟨hv, e⟩ | ⟨g, cap, cur, hv, _⟩
  · exact .inl ⟨e, hv⟩
  · exact .inr ⟨_, _, hv⟩
theorem NL.cells {w : World} {base g m c : Nat} {D : Nat → Int} (h : NL w base (.slice (some ⟨g, 0, none⟩) m c) D m) {q : Nat} (hq : q < m) :
    w.cell? ⟨g, q * 8, none⟩ = some (.int .i64 (D (q * 8))) ∧ w.cell? ⟨g, q * 8 + 1, none⟩ = some (.int .i64 (D (q * 8 + 1))) ∧ w.cell? ⟨g, q * 8 + 2, none⟩ = some (.int .i64 (D (q * 8 + 2))) ∧ w.cell? ⟨g, q * 8 + 3, none⟩ = some (.int .i64 (D (q * 8 + 3))) ∧ w.cell? ⟨g, q * 8 + 4, none⟩ = some (.bool (decide (D (q * 8 + 4) = 1))) ∧ w.cell? ⟨g, q * 8 + 5, none⟩ = some (.int .i64 (D (q * 8 + 5))) ∧ w.cell? ⟨g, q * 8 + 6, none⟩ = some (.int .i64 (D (q * 8 + 6))) ∧ w.cell? ⟨g, q * 8 + 7, none⟩ = some (.int .i64 (D (q * 8 + 7))) := by
  have k := fun i (hi : i < 8) => (World.ownsRow.cellAt h (q * 8 + i) (by omega)).trans (nds_get D m q i hq hi)
  exact ⟨k 0 (by omega), k 1 (by omega), k 2 (by omega), k 3 (by omega), k 4 (by omega), k 5 (by omega), k 6 (by omega), k 7 (by omega)⟩
abbrev zcNode : Value := .agg #[.int .i64 0, .int .i64 0, .int .i64 0, .int .i64 0, .bool false, .int .i64 0, .int .i64 0, .int .i64 0]
theorem infoNode : (Try.prog.info? 86).map (fun i => (i.zero, i.size, i.bytes)) = some (some zcNode, 8, 64) := by kernel_rfl
theorem step_napp {ops : Array Oper} {o : Oper} {a : Act} {K : Act → World → Prop} {Q : Exit → Act → World → Prop} {E : Prop} {w : World} (hgd : o.guard = none) (s x : Operand) (t : TypeId)
    (ho : o.op = .call { callee := .builtin .append, args := #[s, x], argTypes := #[t, t] })
    (ht : Try.prog.underlying t = some (.slice 86))
    (base : Nat) (v : Value) (D : Nat → Int) (m : Nat) (hs : a.eval s = v) (h : NL w base v D m) (b : Nat) (hx : a.eval x = .slice (some ⟨b, 0, none⟩) 1 1)
    (hn : ∀ i, i < 8 → w.cell? ⟨b, i, none⟩ = (nd8 D m)[i]?) (hm : m ≤ 1000) (hbase : base ≤ w.heap.size)
    (hK : ∀ g' c' w', NL w' base (.slice (some ⟨g', 0, none⟩) (m + 1) c') D (m + 1) → w.grownBy w' v.ownBlock → K (a.put o.dst (.slice (some ⟨g', 0, none⟩) (m + 1) c')) w') :
    if Region.wanted o (yielded ops a.tmps) = true then Oper.wp Try.prog o a w K Q else E := by
  obtain ⟨i, hi, hzz⟩ := Option.map_eq_some_iff.1 infoNode
  simp only [Prod.mk.injEq] at hzz
  obtain ⟨hz, hsz, hb8⟩ := hzz
  refine step_append_lies w hgd s x t ho base 86 i zcNode 8 64 ht hi hz hsz hb8 rfl (by decide) v m (nds D m) hs h ⟨b, 0, none⟩ 1 1 (nd8 D m) hx rfl ?_ ?_ (by decide) (by unfold maxLen; omega) (by omega) hbase _ rfl ?_
  · intro q u hu
    have hq : q < 8 := by
      have := (List.getElem?_eq_some_iff.1 hu).1
      exact this
    have hadd : (⟨b, 0, none⟩ : Addr).add q = ⟨b, q, none⟩ := by unfold Addr.add; split <;> simp_all
    rw [hadd, hn q hq]; exact hu
  · intro u hu; simp only [nd8, List.mem_cons, List.not_mem_nil, or_false] at hu; rcases hu with rfl | rfl | rfl | rfl | rfl | rfl | rfl | rfl <;> rfl
  · intro g' cap' w' r1 r2 r3 r4
    exact hK g' cap' w' r1 r2
/-- the tree in its block -/
structure TW (w : World) (base tb : Nat) (ai : Option Addr) (N ci : Nat) (v : Value) (m : Nat) (D : Nat → Int) : Prop where
  c0 : w.cell? ⟨tb, 0, none⟩ = some (.slice ai N ci)
  c1 : w.cell? ⟨tb, 1, none⟩ = some v
  f1 : w.frozen? ⟨tb, 1, none⟩ = false
  nl : NL w base v D m
theorem TW.keep {w w' : World} {base tb m N ci : Nat} {ai : Option Addr} {v : Value} {D : Nat → Int} (h : TW w base tb ai N ci v m D) (ht : w'.heap[tb]? = w.heap[tb]?) (hs : ∀ k, base ≤ k → k < w.heap.size → w'.heap[k]? = w.heap[k]?) : TW w' base tb ai N ci v m D :=
  ⟨(World.cell?_of_block (a := ⟨tb, 0, none⟩) ht).trans h.c0, (World.cell?_of_block (a := ⟨tb, 1, none⟩) ht).trans h.c1, (World.frozen?_of_block (a := ⟨tb, 1, none⟩) ht).trans h.f1, h.nl.keep fun g hg => hs g (h.nl.lt g hg).1 (h.nl.lt g hg).2⟩
theorem TW.below {w w' : World} {base tb m N ci : Nat} {ai : Option Addr} {v : Value} {D : Nat → Int} (h : TW w base tb ai N ci v m D) (hb : Below w.heap.size w w') : TW w' base tb ai N ci v m D :=
  h.keep (hb.block _ (cell_lt h.c0)) fun k _ hk => hb.block k hk
theorem TW.congr {w : World} {base tb m N ci : Nat} {ai : Option Addr} {v : Value} {D E : Nat → Int} (h : TW w base tb ai N ci v m D) (e : ∀ q, q < m * 8 → D q = E q) : TW w base tb ai N ci v m E := ⟨h.c0, h.c1, h.f1, h.nl.congr e⟩
/-- what growing the tree may turn: the tree's block, a row of places, blocks of its own -/
structure Gro (lb off n tb base : Nat) (w w' : World) : Prop where
  os : w'.os = w.os
  tape : w'.tape = w.tape
  output : w'.output = w.output
  size : w.heap.size ≤ w'.heap.size
  block : ∀ k, k < base → k ≠ tb → k ≠ lb → w'.heap[k]? = w.heap[k]?
  out : ∀ k, (k < off ∨ off + n ≤ k) → w'.cell? ⟨lb, k, none⟩ = w.cell? ⟨lb, k, none⟩
  frz : ∀ k, w'.frozen? ⟨lb, k, none⟩ = w.frozen? ⟨lb, k, none⟩
theorem Gro.refl (lb off n tb base : Nat) (w : World) : Gro lb off n tb base w w := ⟨rfl, rfl, rfl, Nat.le_refl _, fun _ _ _ _ => rfl, fun _ _ => rfl, fun _ => rfl⟩
theorem Gro.trans {lb off n off2 n2 tb base : Nat} {a b c : World} (h : Gro lb off n tb base a b) (k : Gro lb off2 n2 tb base b c) (h1 : off ≤ off2) (h2 : off2 + n2 ≤ off + n) : Gro lb off n tb base a c :=
  ⟨k.os.trans h.os, k.tape.trans h.tape, k.output.trans h.output, Nat.le_trans h.size k.size, fun i a1 a2 a3 => (k.block i a1 a2 a3).trans (h.block i a1 a2 a3), fun i hi => (k.out i (by omega)).trans (h.out i hi), fun i => (k.frz i).trans (h.frz i)⟩
theorem Gro.wide {lb off n off2 n2 tb base : Nat} {a b : World} (h : Gro lb off2 n2 tb base a b) (h1 : off ≤ off2) (h2 : off2 + n2 ≤ off + n) : Gro lb off n tb base a b :=
  ⟨h.os, h.tape, h.output, h.size, h.block, fun i hi => h.out i (by omega), h.frz⟩
theorem Gro.below {lb off n tb base : Nat} {a b : World} (h : Below a.heap.size a b) (hlb : lb < a.heap.size) (hb : base ≤ a.heap.size) : Gro lb off n tb base a b :=
  ⟨h.os, h.tape, h.output, h.size, fun k h1 _ _ => h.block k (by omega), fun i _ => h.cell (p := ⟨lb, i, none⟩) hlb, fun i => h.frozen (p := ⟨lb, i, none⟩) hlb⟩
theorem Gro.trn {lb off n tb base : Nat} {a b : World} (h : Trn lb off n a b) (hb : base ≤ a.heap.size) : Gro lb off n tb base a b :=
  ⟨h.but.os, h.but.tape, h.but.output, h.but.size, fun k h1 _ h3 => h.but.block k (by omega) h3, h.out, h.frz⟩
theorem Gro.row {lb off n off2 n2 tb base : Nat} {a b : World} {V : Nat → Int} (h : Gro lb off n tb base a b) (hR : Rwo a lb off2 n2 V) (hd : off2 + n2 ≤ off ∨ off + n ≤ off2) : Rwo b lb off2 n2 V :=
  ⟨fun i hi => (h.out _ (by omega)).trans (hR.cell i hi), fun i hi => (h.frz _).trans (hR.free i hi)⟩
/-- the items lie elsewhere -/
def Els (ai : Option Addr) (tb lb base : Nat) : Prop := ∀ b o, ai = some ⟨b, o, none⟩ → b < base ∧ b ≠ tb ∧ b ≠ lb
theorem Flat.gro {w w' : World} {lb off n tb base m : Nat} {ai : Option Addr} {U : Nat → Int} (h : Flat w ai m U) (hE : Els ai tb lb base) (hG : Gro lb off n tb base w w') : Flat w' ai m U := by
  intro hm
  obtain ⟨b, o, e, hb, hc⟩ := h hm
  obtain ⟨e1, e2, e3⟩ := hE b o e
  exact ⟨b, o, e, Nat.lt_of_lt_of_le hb hG.size, fun q hq => (World.cell?_of_block (a := ⟨b, o + q, none⟩) (hG.block b e1 e2 e3)).trans (hc q hq)⟩
end Go.Proofs.Ytcbgcochpflblaa
