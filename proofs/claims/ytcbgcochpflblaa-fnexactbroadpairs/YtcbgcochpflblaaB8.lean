/- Rows of numbers of one's own, appended to. A tree's nodes in memory of their own. A tree's leaves, and a node more. -/
import Derived.Test.YtcbgcochpflblaaB5
import Derived.Deep.AppendLies
import Derived.Deep.Upon
import Derived.Maps.AppendAt
import Derived.Test.YtcbgcochpflblaaB7
import Derived.Deep.RegionHeld3
import Derived.Deep.DeepCutAuto
namespace Go.Proofs.Ytcbgcochpflblaa
open Go.RowKit
set_option linter.unusedVariables false
set_option linter.unusedSimpArgs false
def numL (m : Nat) (U : Nat → Int) : List Value := (List.range m).map fun q => Value.int .i64 (U q)
theorem numL_len (m : Nat) (U : Nat → Int) : (numL m U).length = m := by simp [numL]
theorem numL_get {m : Nat} {U : Nat → Int} {q : Nat} (h : q < m) : (numL m U)[q]? = some (.int .i64 (U q)) := by simp [numL, h]
/-- the one behind the other -/
def cat (p : Nat) (U X : Nat → Int) : Nat → Int := fun q => if q < p then U q else X (q - p)
theorem numL_cat (p r : Nat) (U X : Nat → Int) : numL p U ++ numL r X = numL (p + r) (cat p U X) := by
  apply List.ext_getElem?
  intro q
  by_cases h : q < p
  · rw [List.getElem?_append_left (by rw [numL_len]; exact h), numL_get h, numL_get (by omega)]; simp [cat, h]
  · rw [List.getElem?_append_right (by rw [numL_len]; omega), numL_len]
    by_cases h2 : q < p + r
    · rw [numL_get (by omega), numL_get h2]; simp [cat, h]
    · rw [List.getElem?_eq_none (by rw [numL_len]; omega), List.getElem?_eq_none (by rw [numL_len]; omega)]
/-- a row of n things of k numbers, its block not below base, and nobody else's -/
def OwnL (w : World) (base t k : Nat) (v : Value) (n : Nat) (U : Nat → Int) : Prop := w.ownsRow base t k v n (numL (n * k) U)
theorem OwnL.nil (w : World) (base t k : Nat) (U : Nat → Int) : OwnL w base t k (.slice none 0 0) 0 U := by
  unfold OwnL; rw [Nat.zero_mul]; exact World.ownsRow_nil w base t k
theorem OwnL.flat {w : World} {base t k n : Nat} {a : Option Addr} {c : Nat} {U : Nat → Int} (h : OwnL w base t k (.slice a n c) n U) : Flat w a (n * k) U := by
  intro h0
  rcases h.2 with ⟨hv, hn⟩ | ⟨g, cap, cur, hv, hb, hg, hle, hm, hs, ht⟩
  · subst hn; omega
  · simp only [Value.slice.injEq] at hv
    obtain ⟨rfl, _, rfl⟩ := hv
    have hlt : g < w.heap.size := (Array.getElem?_eq_some_iff.1 hg).1
    refine ⟨g, 0, rfl, hlt, fun q hq => ?_⟩
    have := World.ownsRow.cells h (g := g) rfl q _ (numL_get hq)
    rw [Addr.add_lit] at this
    exact this
theorem OwnL.congr {w : World} {base t k n : Nat} {v : Value} {U V : Nat → Int} (h : OwnL w base t k v n U) (e : ∀ q, q < n * k → U q = V q) : OwnL w base t k v n V := by
  unfold OwnL at *
  rw [show numL (n * k) V = numL (n * k) U from List.map_congr_left fun q hq => by rw [e q (List.mem_range.1 hq)]]
  exact h
theorem OwnL.kept {w w' : World} {base t k n : Nat} {v : Value} {U : Nat → Int} {row : Option Nat} (h : OwnL w base t k v n U) (hg : w.grownBy w' row) (hne : v.ownBlock = none ∨ v.ownBlock ≠ row) : OwnL w' base t k v n U := World.ownsRow.kept h hg hne
theorem below_grown {B : Nat} {w w' : World} (h : Below B w w') : B = w.heap.size → w.grownBy w' none := fun e => ⟨h.os, h.tape, h.output, h.size, fun k hk _ => h.block k (e ▸ hk)⟩
theorem OwnL.below {w w' : World} {base t k n : Nat} {v : Value} {U : Nat → Int} (h : OwnL w base t k v n U) (hb : Below w.heap.size w w') : OwnL w' base t k v n U := by
  have hg := below_grown hb rfl
  cases e : v.ownBlock with
  | none => exact World.ownsRow.kept h hg (.inl e)
  | some b => exact World.ownsRow.kept h hg (.inr (by rw [e]; simp))
theorem OwnL.lt {w : World} {base t k n : Nat} {v : Value} {U : Nat → Int} (h : OwnL w base t k v n U) : ∀ b, v.ownBlock = some b → base ≤ b ∧ b < w.heap.size := World.ownsRow.lt h
theorem OwnL.is {w : World} {base t k n : Nat} {v : Value} {U : Nat → Int} (h : OwnL w base t k v n U) : ∃ a c, v = .slice a n c := by
  rcases h.2 with ⟨hv, hn⟩ | ⟨g, cap, cur, hv, _⟩
  · exact ⟨none, 0, by rw [hv, hn]⟩
  · exact ⟨_, _, hv⟩
theorem OwnL.le {w : World} {base t k n : Nat} {a : Option Addr} {c : Nat} {U : Nat → Int} (h : OwnL w base t k (.slice a n c) n U) : n ≤ c := by
  rcases h.2 with ⟨hv, hn⟩ | ⟨g, cap, cur, hv, _, _, hle, _⟩
  · simp only [Value.slice.injEq] at hv; omega
  · simp only [Value.slice.injEq] at hv; omega
theorem Row.own {w : World} {b t n k base : Nat} {U : Nat → Int} (h : Row w b t (n * k) U) (hb : base ≤ b) (hn : n ≤ maxLen) : OwnL w base t k (.slice (some ⟨b, 0, none⟩) n n) n U := by
  obtain ⟨c, hc, hs, hv⟩ := h
  refine ⟨by rw [numL_len], .inr ⟨b, n, c, rfl, hb, hc, Nat.le_refl _, hn, hs, ?_⟩⟩
  apply List.ext_getElem?
  intro q
  by_cases hq : q < n * k
  · rw [List.getElem?_take, if_pos hq, numL_get hq, ← hv q hq]; simp
  · rw [List.getElem?_eq_none (by simp; omega), List.getElem?_eq_none (by rw [numL_len]; omega)]
theorem OwnL.base {w : World} {base t k n : Nat} {v : Value} {U : Nat → Int} {B : Nat} (h : OwnL w base t k v n U) (hB : B ≤ base) : OwnL w B t k v n U := by
  refine ⟨h.1, ?_⟩
  rcases h.2 with q | ⟨g, cap, cur, hv, hb, rest⟩
  · exact .inl q
  · exact .inr ⟨g, cap, cur, hv, by omega, rest⟩
/-- APPEND -/
theorem run_app {P : Program} (base t ty e k bytes : Nat) (z : Value) (ht : P.underlying t = some (.slice e)) (hinfo : (P.info? e).map (fun i => (i.zero, i.size, i.bytes)) = some (some z, k, bytes)) (hzs : z.cells.size = k) (hk : 0 < k)
    (w : World) (v : Value) (n : Nat) (U : Nat → Int) (h : OwnL w base e k v n U) (a : Option Addr) (m c : Nat) (X : Nat → Int) (hx : Flat w a (m * k) X)
    (h63 : n + m ≤ maxLen) (hbytes : (n + m) * bytes ≤ 140737488355328) (hbase : base ≤ w.heap.size) :
    ∃ a' c' w', (Builtin.append_ #[t, t] ty #[v, .slice a m c]).run P w = .ok (.slice a' (n + m) c') w' ∧ OwnL w' base e k (.slice a' (n + m) c') (n + m) (cat (n * k) U X) ∧ w.grownBy w' v.ownBlock := by
  obtain ⟨i, hi, hzz⟩ := Option.map_eq_some_iff.1 hinfo
  simp only [Prod.mk.injEq] at hzz
  obtain ⟨hz, hs, hb⟩ := hzz
  by_cases h0 : m = 0
  · subst h0
    obtain ⟨a0, c0, rfl⟩ := h.is
    have hle := h.le
    have hnone : Src P i.size t (.slice a 0 c) 0 [] w := by
      cases a with
      | none => exact Src.ofNil w ht c
      | some ad => exact Src.ofSlice w ht ad 0 c [] (by simp) (fun j u hu => by simp at hu) (fun _ hu => by cases hu)
    refine ⟨a0, c0, w, run_append_nothing w t t ty e i ht hi a0 n c0 hle _ hnone, h.congr fun q hq => by simp [cat, hq], ?_⟩
    exact ⟨rfl, rfl, rfl, Nat.le_refl _, fun _ _ _ => rfl⟩
  · obtain ⟨b, o, rfl, hbl, hc⟩ := hx (Nat.mul_pos (by omega) hk)
    obtain ⟨g, cap, w', hr, h2, h3, _⟩ := run_append_lies (P := P) w t ty base e i z k bytes ht hi hz hs hb hzs hk v n (numL (n * k) U) h ⟨b, o, none⟩ m c (numL (m * k) X) (numL_len _ _)
      (fun j u hu => by
        have hj : j < m * k := by have := (List.getElem?_eq_some_iff.1 hu).1; rwa [numL_len] at this
        rw [numL_get hj] at hu
        rw [Addr.add_lit, hc j hj]; exact hu)
      (fun u hu => by obtain ⟨q, _, rfl⟩ := List.mem_map.1 hu; rfl) (by omega) h63 hbytes hbase _ rfl
    refine ⟨_, _, w', hr, ?_, h3⟩
    unfold OwnL
    rw [Nat.add_mul, ← numL_cat]
    exact h2
section
variable {P : Program} {ops : Array Oper} {o : Oper} {a : Act} {Q : Exit → Act → World → Prop} {w : World}
theorem wp_app {K : Act → World → Prop} (s x : Operand) (t : TypeId) (ho : o.op = .call { callee := .builtin .append, args := #[s, x], argTypes := #[t, t] })
    (base e k bytes : Nat) (z : Value) (ht : P.underlying t = some (.slice e)) (hinfo : (P.info? e).map (fun i => (i.zero, i.size, i.bytes)) = some (some z, k, bytes)) (hzs : z.cells.size = k) (hk : 0 < k)
    (v : Value) (n : Nat) (U : Nat → Int) (hs : a.eval s = v) (h : OwnL w base e k v n U) (ad : Option Addr) (m c : Nat) (X : Nat → Int) (hxx : a.eval x = .slice ad m c) (hx : Flat w ad (m * k) X)
    (h63 : n + m ≤ maxLen) (hbytes : (n + m) * bytes ≤ 140737488355328) (hbase : base ≤ w.heap.size)
    (hK : ∀ a' c' w', OwnL w' base e k (.slice a' (n + m) c') (n + m) (cat (n * k) U X) → w.grownBy w' v.ownBlock → K (a.put o.dst (.slice a' (n + m) c')) w') : o.wp P a w K Q := by
  obtain ⟨a', c', w', hr, h2, h3⟩ := run_app (P := P) base t o.type e k bytes z ht hinfo hzs hk w v n U h ad m c X hx h63 hbytes hbase
  unfold Oper.wp execOp
  simp only [ho, resolve, invoke, builtin, Sem.run_bind, Sem.run_pure, Result.andThen_ok, List.map_toArray, List.map_cons, List.map_nil, hs, hxx, hr]
  exact hK _ _ _ h2 h3
theorem wpList_app {rest : List Oper} (hgd : o.guard = none) (s x : Operand) (t : TypeId) (ho : o.op = .call { callee := .builtin .append, args := #[s, x], argTypes := #[t, t] })
    (base e k bytes : Nat) (z : Value) (ht : P.underlying t = some (.slice e)) (hinfo : (P.info? e).map (fun i => (i.zero, i.size, i.bytes)) = some (some z, k, bytes)) (hzs : z.cells.size = k) (hk : 0 < k)
    (v : Value) (n : Nat) (U : Nat → Int) (hs : a.eval s = v) (h : OwnL w base e k v n U) (ad : Option Addr) (m c : Nat) (X : Nat → Int) (hxx : a.eval x = .slice ad m c) (hx : Flat w ad (m * k) X)
    (h63 : n + m ≤ maxLen) (hbytes : (n + m) * bytes ≤ 140737488355328) (hbase : base ≤ w.heap.size)
    (hK : ∀ a' c' w', OwnL w' base e k (.slice a' (n + m) c') (n + m) (cat (n * k) U X) → w.grownBy w' v.ownBlock → wpList P ops Q rest (a.put o.dst (.slice a' (n + m) c')) w') : wpList P ops Q (o :: rest) a w :=
  wpList_plain hgd fun _ hK' => wp_app s x t ho base e k bytes z ht hinfo hzs hk v n U hs h ad m c X hxx hx h63 hbytes hbase fun a' c' w' h2 h3 => hK' _ _ (hK a' c' w' h2 h3)
theorem step_app {K : Act → World → Prop} {E : Prop} (hgd : o.guard = none) (s x : Operand) (t : TypeId) (ho : o.op = .call { callee := .builtin .append, args := #[s, x], argTypes := #[t, t] })
    (base e k bytes : Nat) (z : Value) (ht : P.underlying t = some (.slice e)) (hinfo : (P.info? e).map (fun i => (i.zero, i.size, i.bytes)) = some (some z, k, bytes)) (hzs : z.cells.size = k) (hk : 0 < k)
    (v : Value) (n : Nat) (U : Nat → Int) (hs : a.eval s = v) (h : OwnL w base e k v n U) (ad : Option Addr) (m c : Nat) (X : Nat → Int) (hxx : a.eval x = .slice ad m c) (hx : Flat w ad (m * k) X)
    (h63 : n + m ≤ maxLen) (hbytes : (n + m) * bytes ≤ 140737488355328) (hbase : base ≤ w.heap.size)
    (hK : ∀ a' c' w', OwnL w' base e k (.slice a' (n + m) c') (n + m) (cat (n * k) U X) → w.grownBy w' v.ownBlock → K (a.put o.dst (.slice a' (n + m) c')) w') :
    if Region.wanted o (yielded ops a.tmps) = true then Oper.wp P o a w K Q else E := by
  have hw : Region.wanted o (yielded ops a.tmps) = true := by simp [Region.wanted, hgd]
  rw [if_pos hw]
  exact wp_app s x t ho base e k bytes z ht hinfo hzs hk v n U hs h ad m c X hxx hx h63 hbytes hbase hK
end
end Go.Proofs.Ytcbgcochpflblaa
namespace Go.Proofs.Ytcbgcochpflblaa
open Go.RowKit
set_option linter.unusedVariables false
set_option linter.unusedSimpArgs false
def nd8 (D : Nat → Int) (q : Nat) : List Value := [.int .i64 (D (q * 8)), .int .i64 (D (q * 8 + 1)), .int .i64 (D (q * 8 + 2)), .int .i64 (D (q * 8 + 3)), .bool (decide (D (q * 8 + 4) = 1)), .int .i64 (D (q * 8 + 5)), .int .i64 (D (q * 8 + 6)), .int .i64 (D (q * 8 + 7))]
def nds (D : Nat → Int) : Nat → List Value
  | 0 => []
  | m + 1 => nds D m ++ nd8 D m
theorem nds_len (D : Nat → Int) : ∀ m, (nds D m).length = m * 8
  | 0 => rfl
  | m + 1 => by rw [nds, List.length_append, nds_len D m]; show m * 8 + 8 = _; omega
theorem nds_get (D : Nat → Int) : ∀ (m q i : Nat), q < m → i < 8 → (nds D m)[q * 8 + i]? = (nd8 D q)[i]?
  | 0, q, i, h, _ => absurd h (Nat.not_lt_zero _)
  | m + 1, q, i, h, hi => by
    rw [nds]
    by_cases e : q = m
    · subst e
      rw [List.getElem?_append_right (by rw [nds_len]; omega), nds_len, Nat.add_sub_cancel_left]
    · rw [List.getElem?_append_left (by rw [nds_len]; omega)]
      exact nds_get D m q i (by omega) hi
theorem nds_congr {D E : Nat → Int} : ∀ m, (∀ q, q < m * 8 → D q = E q) → nds D m = nds E m
  | 0, _ => rfl
  | m + 1, h => by
    rw [nds, nds, nds_congr m (fun q hq => h q (by omega))]
    unfold nd8
    rw [h (m * 8) (by omega), h (m * 8 + 1) (by omega), h (m * 8 + 2) (by omega), h (m * 8 + 3) (by omega), h (m * 8 + 4) (by omega), h (m * 8 + 5) (by omega), h (m * 8 + 6) (by omega), h (m * 8 + 7) (by omega)]
def NL (w : World) (base : Nat) (v : Value) (D : Nat → Int) (m : Nat) : Prop := w.ownsRow base 86 8 v m (nds D m)
theorem NL.nil (w : World) (base : Nat) (D : Nat → Int) : NL w base (.slice none 0 0) D 0 := World.ownsRow_nil w base _ _
theorem NL.lt {w : World} {base m : Nat} {v : Value} {D : Nat → Int} (h : NL w base v D m) : ∀ b, v.ownBlock = some b → base ≤ b ∧ b < w.heap.size := World.ownsRow.lt h
theorem NL.keep {w w' : World} {base m : Nat} {v : Value} {D : Nat → Int} (h : NL w base v D m) (hs : ∀ g, v.ownBlock = some g → w'.heap[g]? = w.heap[g]?) : NL w' base v D m := by
  refine ⟨h.1, ?_⟩
  rcases h.2 with q | ⟨g, cap, cur, hv, hb, hg, rest⟩
  · exact .inl q
  · exact .inr ⟨g, cap, cur, hv, hb, (hs g (by rw [hv]; rfl)).trans hg, rest⟩
theorem NL.congr {w : World} {base m : Nat} {v : Value} {D E : Nat → Int} (h : NL w base v D m) (e : ∀ q, q < m * 8 → D q = E q) : NL w base v E m := by
  unfold NL; rw [← nds_congr m e]; exact h
theorem NL.is {w : World} {base m : Nat} {v : Value} {D : Nat → Int} (h : NL w base v D m) : (m = 0 ∧ v = .slice none 0 0) ∨ ∃ g c, v = .slice (some ⟨g, 0, none⟩) m c := by
  rcases h.2 with ⟨hv, e⟩ | ⟨g, cap, cur, hv, _⟩
  · exact .inl ⟨e, hv⟩
  · exact .inr ⟨_, _, hv⟩
theorem NL.cells {w : World} {base g m c : Nat} {D : Nat → Int} (h : NL w base (.slice (some ⟨g, 0, none⟩) m c) D m) {q : Nat} (hq : q < m) :
    w.cell? ⟨g, q * 8, none⟩ = some (.int .i64 (D (q * 8))) ∧ w.cell? ⟨g, q * 8 + 1, none⟩ = some (.int .i64 (D (q * 8 + 1))) ∧ w.cell? ⟨g, q * 8 + 2, none⟩ = some (.int .i64 (D (q * 8 + 2))) ∧ w.cell? ⟨g, q * 8 + 3, none⟩ = some (.int .i64 (D (q * 8 + 3))) ∧ w.cell? ⟨g, q * 8 + 4, none⟩ = some (.bool (decide (D (q * 8 + 4) = 1))) ∧ w.cell? ⟨g, q * 8 + 5, none⟩ = some (.int .i64 (D (q * 8 + 5))) ∧ w.cell? ⟨g, q * 8 + 6, none⟩ = some (.int .i64 (D (q * 8 + 6))) ∧ w.cell? ⟨g, q * 8 + 7, none⟩ = some (.int .i64 (D (q * 8 + 7))) := by
  have k := fun i (hi : i < 8) => (World.ownsRow.cellAt h (q * 8 + i) (by omega)).trans (nds_get D m q i hq hi)
  exact ⟨k 0 (by omega), k 1 (by omega), k 2 (by omega), k 3 (by omega), k 4 (by omega), k 5 (by omega), k 6 (by omega), k 7 (by omega)⟩
abbrev zcNode : Value := .agg #[.int .i64 0, .int .i64 0, .int .i64 0, .int .i64 0, .bool false, .int .i64 0, .int .i64 0, .int .i64 0]
theorem infoNode : (Try.prog.info? 86).map (fun i => (i.zero, i.size, i.bytes)) = some (some zcNode, 8, 64) := by kernel_rfl
theorem step_napp {ops : Array Oper} {o : Oper} {a : Act} {K : Act → World → Prop} {Q : Exit → Act → World → Prop} {E : Prop} {w : World} (hgd : o.guard = none) (s x : Operand) (t : TypeId)
    (ho : o.op = .call { callee := .builtin .append, args := #[s, x], argTypes := #[t, t] })
    (ht : Try.prog.underlying t = some (.slice 86))
    (base : Nat) (v : Value) (D : Nat → Int) (m : Nat) (hs : a.eval s = v) (h : NL w base v D m) (b : Nat) (hx : a.eval x = .slice (some ⟨b, 0, none⟩) 1 1)
    (hn : ∀ i, i < 8 → w.cell? ⟨b, i, none⟩ = (nd8 D m)[i]?) (hm : m ≤ 1000) (hbase : base ≤ w.heap.size)
    (hK : ∀ g' c' w', NL w' base (.slice (some ⟨g', 0, none⟩) (m + 1) c') D (m + 1) → w.grownBy w' v.ownBlock → K (a.put o.dst (.slice (some ⟨g', 0, none⟩) (m + 1) c')) w') :
    if Region.wanted o (yielded ops a.tmps) = true then Oper.wp Try.prog o a w K Q else E := by
  obtain ⟨i, hi, hzz⟩ := Option.map_eq_some_iff.1 infoNode
  simp only [Prod.mk.injEq] at hzz
  obtain ⟨hz, hsz, hb8⟩ := hzz
  refine step_append_lies w hgd s x t ho base 86 i zcNode 8 64 ht hi hz hsz hb8 rfl (by decide) v m (nds D m) hs h ⟨b, 0, none⟩ 1 1 (nd8 D m) hx rfl ?_ ?_ (by decide) (by unfold maxLen; omega) (by omega) hbase _ rfl ?_
  · intro q u hu
    have hq : q < 8 := by
      have := (List.getElem?_eq_some_iff.1 hu).1
      exact this
    have hadd : (⟨b, 0, none⟩ : Addr).add q = ⟨b, q, none⟩ := by unfold Addr.add; split <;> simp_all
    rw [hadd, hn q hq]; exact hu
  · intro u hu; simp only [nd8, List.mem_cons, List.not_mem_nil, or_false] at hu; rcases hu with rfl | rfl | rfl | rfl | rfl | rfl | rfl | rfl <;> rfl
  · intro g' cap' w' r1 r2 r3 r4
    exact hK g' cap' w' r1 r2
/-- the tree in its block -/
structure TW (w : World) (base tb : Nat) (ai : Option Addr) (N ci : Nat) (v : Value) (m : Nat) (D : Nat → Int) : Prop where
  c0 : w.cell? ⟨tb, 0, none⟩ = some (.slice ai N ci)
  c1 : w.cell? ⟨tb, 1, none⟩ = some v
  f1 : w.frozen? ⟨tb, 1, none⟩ = false
  nl : NL w base v D m
theorem TW.keep {w w' : World} {base tb m N ci : Nat} {ai : Option Addr} {v : Value} {D : Nat → Int} (h : TW w base tb ai N ci v m D) (ht : w'.heap[tb]? = w.heap[tb]?) (hs : ∀ k, base ≤ k → k < w.heap.size → w'.heap[k]? = w.heap[k]?) : TW w' base tb ai N ci v m D :=
  ⟨(World.cell?_of_block (a := ⟨tb, 0, none⟩) ht).trans h.c0, (World.cell?_of_block (a := ⟨tb, 1, none⟩) ht).trans h.c1, (World.frozen?_of_block (a := ⟨tb, 1, none⟩) ht).trans h.f1, h.nl.keep fun g hg => hs g (h.nl.lt g hg).1 (h.nl.lt g hg).2⟩
theorem TW.below {w w' : World} {base tb m N ci : Nat} {ai : Option Addr} {v : Value} {D : Nat → Int} (h : TW w base tb ai N ci v m D) (hb : Below w.heap.size w w') : TW w' base tb ai N ci v m D :=
  h.keep (hb.block _ (cell_lt h.c0)) fun k _ hk => hb.block k hk
theorem TW.congr {w : World} {base tb m N ci : Nat} {ai : Option Addr} {v : Value} {D E : Nat → Int} (h : TW w base tb ai N ci v m D) (e : ∀ q, q < m * 8 → D q = E q) : TW w base tb ai N ci v m E := ⟨h.c0, h.c1, h.f1, h.nl.congr e⟩
/-- what growing the tree may turn: the tree's block, a row of places, blocks of its own -/
structure Gro (lb off n tb base : Nat) (w w' : World) : Prop where
  os : w'.os = w.os
  tape : w'.tape = w.tape
  output : w'.output = w.output
  size : w.heap.size ≤ w'.heap.size
  block : ∀ k, k < base → k ≠ tb → k ≠ lb → w'.heap[k]? = w.heap[k]?
  out : ∀ k, (k < off ∨ off + n ≤ k) → w'.cell? ⟨lb, k, none⟩ = w.cell? ⟨lb, k, none⟩
  frz : ∀ k, w'.frozen? ⟨lb, k, none⟩ = w.frozen? ⟨lb, k, none⟩
theorem Gro.refl (lb off n tb base : Nat) (w : World) : Gro lb off n tb base w w := ⟨rfl, rfl, rfl, Nat.le_refl _, fun _ _ _ _ => rfl, fun _ _ => rfl, fun _ => rfl⟩
theorem Gro.trans {lb off n off2 n2 tb base : Nat} {a b c : World} (h : Gro lb off n tb base a b) (k : Gro lb off2 n2 tb base b c) (h1 : off ≤ off2) (h2 : off2 + n2 ≤ off + n) : Gro lb off n tb base a c :=
  ⟨k.os.trans h.os, k.tape.trans h.tape, k.output.trans h.output, Nat.le_trans h.size k.size, fun i a1 a2 a3 => (k.block i a1 a2 a3).trans (h.block i a1 a2 a3), fun i hi => (k.out i (by omega)).trans (h.out i hi), fun i => (k.frz i).trans (h.frz i)⟩
theorem Gro.wide {lb off n off2 n2 tb base : Nat} {a b : World} (h : Gro lb off2 n2 tb base a b) (h1 : off ≤ off2) (h2 : off2 + n2 ≤ off + n) : Gro lb off n tb base a b :=
  ⟨h.os, h.tape, h.output, h.size, h.block, fun i hi => h.out i (by omega), h.frz⟩
theorem Gro.below {lb off n tb base : Nat} {a b : World} (h : Below a.heap.size a b) (hlb : lb < a.heap.size) (hb : base ≤ a.heap.size) : Gro lb off n tb base a b :=
  ⟨h.os, h.tape, h.output, h.size, fun k h1 _ _ => h.block k (by omega), fun i _ => h.cell (p := ⟨lb, i, none⟩) hlb, fun i => h.frozen (p := ⟨lb, i, none⟩) hlb⟩
theorem Gro.trn {lb off n tb base : Nat} {a b : World} (h : Trn lb off n a b) (hb : base ≤ a.heap.size) : Gro lb off n tb base a b :=
  ⟨h.but.os, h.but.tape, h.but.output, h.but.size, fun k h1 _ h3 => h.but.block k (by omega) h3, h.out, h.frz⟩
theorem Gro.row {lb off n off2 n2 tb base : Nat} {a b : World} {V : Nat → Int} (h : Gro lb off n tb base a b) (hR : Rwo a lb off2 n2 V) (hd : off2 + n2 ≤ off ∨ off + n ≤ off2) : Rwo b lb off2 n2 V :=
  ⟨fun i hi => (h.out _ (by omega)).trans (hR.cell i hi), fun i hi => (h.frz _).trans (hR.free i hi)⟩
/-- the items lie elsewhere -/
def Els (ai : Option Addr) (tb lb base : Nat) : Prop := ∀ b o, ai = some ⟨b, o, none⟩ → b < base ∧ b ≠ tb ∧ b ≠ lb
theorem Flat.gro {w w' : World} {lb off n tb base m : Nat} {ai : Option Addr} {U : Nat → Int} (h : Flat w ai m U) (hE : Els ai tb lb base) (hG : Gro lb off n tb base w w') : Flat w' ai m U := by
  intro hm
  obtain ⟨b, o, e, hb, hc⟩ := h hm
  obtain ⟨e1, e2, e3⟩ := hE b o e
  exact ⟨b, o, e, Nat.lt_of_lt_of_le hb hG.size, fun q hq => (World.cell?_of_block (a := ⟨b, o + q, none⟩) (hG.block b e1 e2 e3)).trans (hc q hq)⟩
end Go.Proofs.Ytcbgcochpflblaa
namespace Go.Proofs.Ytcbgcochpflblaa
open Go.RowKit
set_option linter.unusedVariables false
set_option linter.unusedSimpArgs false
abbrev ndW (V : Nat → Int) (l : Bool) : Value := .agg #[.int .i64 (V 0), .int .i64 (V 1), .int .i64 (V 2), .int .i64 (V 3), .bool l, .int .i64 (V 5), .int .i64 (V 6), .int .i64 (V 7)]
/-- a leaf's numbers -/
def leafV (U : Nat → Int) (p : Nat) : Nat → Int := fun j => match j with
  | 0 => U (p * 5 + 1) - 256
  | 1 => U (p * 5 + 2) - 256
  | 2 => U (p * 5 + 3) + 256
  | 3 => U (p * 5 + 4) + 256
  | 4 => 1
  | 5 => (p : Int)
  | _ => 0
def B2 (a : Int) : Prop := -2000000000 ≤ a ∧ a ≤ 2000000000
set_option maxRecDepth 20000 in
set_option maxHeartbeats 1000000 in
theorem leafOf_any (tb : Nat) (b o N ci : Nat) (U : Nat → Int) (p : Nat) (w : World) (hp : p < N) (hc : ∀ q, q < N * 5 → w.cell? ⟨b, o + q, none⟩ = some (.int .i64 (U q))) (c0 : w.cell? ⟨tb, 0, none⟩ = some (.slice (some ⟨b, o, none⟩) N ci)) (hU : ∀ q, q < N * 5 → B2 (U q)) :
    Calls Try.prog 42 #[.pointer (some ⟨tb, 0, none⟩), .int .i64 (p : Int)] w fun e w' => e = .returned (ndW (leafV U p) true) ∧ Below w.heap.size w w' := by
  have hset := cset_map
  obtain ⟨k0, k1, k2, k3, k4⟩ := box_cells hc hp
  obtain ⟨u1, u1'⟩ := hU (p * 5 + 1) (by omega)
  obtain ⟨u2, u2'⟩ := hU (p * 5 + 2) (by omega)
  obtain ⟨u3, u3'⟩ := hU (p * 5 + 3) (by omega)
  obtain ⟨u4, u4'⟩ := hU (p * 5 + 4) (by omega)
  have l0 := cell_lt c0
  have lb := cell_lt k1
  simp only at l0 lb
  have hpi : (p : Int) < (N : Int) := by omega
  go_enter Try.func42, Try.ntmps42
  go_upto_region 2 with fail
  go_cut [6] (fun v wc => ∃ x, v = .pointer (some ⟨x, 0, none⟩) ∧ w.heap.size < x ∧ Below w.heap.size w wc ∧ Sp4 wc x (U (p * 5 + 1)) (U (p * 5 + 2)) (U (p * 5 + 3)) (U (p * 5 + 4)) ∧ wc.cell? ⟨w.heap.size + 1, 0, none⟩ = some (.int .i64 256) ∧ wc.cell? ⟨w.heap.size + 1, 1, none⟩ = some (.int .i64 256) ∧ (wc.cell? ⟨w.heap.size, 0, none⟩ = some (.int .i64 0) ∧ wc.cell? ⟨w.heap.size, 1, none⟩ = some (.int .i64 0) ∧ wc.cell? ⟨w.heap.size, 2, none⟩ = some (.int .i64 0) ∧ wc.cell? ⟨w.heap.size, 3, none⟩ = some (.int .i64 0) ∧ wc.cell? ⟨w.heap.size, 4, none⟩ = some (.bool false) ∧ wc.cell? ⟨w.heap.size, 5, none⟩ = some (.int .i64 0) ∧ wc.cell? ⟨w.heap.size, 6, none⟩ = some (.int .i64 0) ∧ wc.cell? ⟨w.heap.size, 7, none⟩ = some (.int .i64 0)) ∧ (∀ j, wc.frozen? ⟨w.heap.size, j, none⟩ = false))
  case first =>
    go_wp2_with (go_at_call 35; refine (spanOf_any _ _ _ _ _).mono ?_; rintro e w1 ⟨rfl, hb1⟩; obtain ⟨hc1, hf1⟩ := bcell hb1; have hz1 := hb1.size; (try simp only [World.size_drew, World.size_alloc, World.size_setCell] at hc1 hf1 hz1); have hc2 := fun o => hc1 w.heap.size o (by omega); have hc3 := fun o => hc1 (w.heap.size + 1) o (by omega); have hf2 := fun o => hf1 w.heap.size o (by omega); have hz2 : w.heap.size < w1.heap.size := (by omega); have hz3 : w.heap.size + 1 < w1.heap.size := (by omega); clear hc1 hf1)
    go_meet
    exact ⟨_, rfl, by omega, bel_a, ⟨by go_simp, by go_simp, by go_simp, by go_simp⟩, by go_simp, by go_simp, ⟨by go_simp, by go_simp, by go_simp, by go_simp, by go_simp, by go_simp, by go_simp, by go_simp⟩, fun j => by go_simp⟩
  case rest =>
  obtain ⟨x, rfl, hx, hB, ⟨s0, s1, s2, s3⟩, r0, r1, ⟨z0, z1, z2, z3, z4, z5, z6, z7⟩, hfz⟩ := hcut
  have hwl : w.heap.size < wc.heap.size := by have := cell_lt r0; simp only at this; omega
  have FF : ∀ w', But w.heap.size wc w' → w'.cell? ⟨x, 0, none⟩ = some (.int .i64 (U (p * 5 + 1))) ∧ w'.cell? ⟨x, 1, none⟩ = some (.int .i64 (U (p * 5 + 2))) ∧ w'.cell? ⟨x, 2, none⟩ = some (.int .i64 (U (p * 5 + 3))) ∧ w'.cell? ⟨x, 3, none⟩ = some (.int .i64 (U (p * 5 + 4))) ∧ w'.cell? ⟨w.heap.size + 1, 0, none⟩ = some (.int .i64 256) ∧ w'.cell? ⟨w.heap.size + 1, 1, none⟩ = some (.int .i64 256) :=
    fun w' s => ⟨keepB s s0 (by show x ≠ w.heap.size; omega), keepB s s1 (by show x ≠ w.heap.size; omega), keepB s s2 (by show x ≠ w.heap.size; omega), keepB s s3 (by show x ≠ w.heap.size; omega), keepB s r0 (by show w.heap.size + 1 ≠ w.heap.size; omega), keepB s r1 (by show w.heap.size + 1 ≠ w.heap.size; omega)⟩
  go_upto_region 3 with fail
  refine wp_region_held_drew (S := fun w' => But w.heap.size wc w') (by kernel_rfl) ((But.refl _ _).drew) (fun hHeld => ?_)
  refine tq 0 hHeld ?_
  refine tq 1 hHeld ?_ (hv := by (intro w' s; obtain ⟨q1, q2, q3, q4, q5, q6⟩ := FF w' s; go_simp; (try with_reducible rfl)))
  refine tq 2 hHeld ?_ (hv := by (intro w' s; obtain ⟨q1, q2, q3, q4, q5, q6⟩ := FF w' s; go_simp; (try with_reducible rfl)))
  refine tq 4 hHeld ?_
  refine tq 5 hHeld ?_ (hv := by (intro w' s; obtain ⟨q1, q2, q3, q4, q5, q6⟩ := FF w' s; go_simp; (try with_reducible rfl)))
  refine tq 6 hHeld ?_ (hv := by (intro w' s; obtain ⟨q1, q2, q3, q4, q5, q6⟩ := FF w' s; go_simp; (try with_reducible rfl)))
  refine tq 9 hHeld ?_
  refine tc 3 fun K hK => ?_
  (go_simp; (go_at_call 52; refine (less_any _ _ _ _ _ (by omega) (by omega) (by omega) (by omega)).mono ?_; rintro e w2 ⟨rfl, hb2⟩; obtain ⟨hc2, hf2⟩ := bcell hb2; have hz2 := hb2.size; (try simp only [World.size_drew, World.size_alloc, World.size_setCell] at hc2 hf2 hz2); (try have hd2 := fun o => hc2 w.heap.size o (by omega)); (try have he2 := fun o => hf2 w.heap.size o (by omega)); clear hc2 hf2); (try go_wp2_with fail); refine tr hK (fun hHeld => ?_) (hHeld.trans (But.of_below hb2)); clear hK K)
  refine tc 7 fun K hK => ?_
  (go_simp; (go_at_call 53; refine (plus_any _ _ _ _ _ (by omega) (by omega) (by omega) (by omega)).mono ?_; rintro e w3 ⟨rfl, hb3⟩; obtain ⟨hc3, hf3⟩ := bcell hb3; have hz3 := hb3.size; (try simp only [World.size_drew, World.size_alloc, World.size_setCell] at hc3 hf3 hz3); (try have hd3 := fun o => hc3 w.heap.size o (by omega)); (try have he3 := fun o => hf3 w.heap.size o (by omega)); clear hc3 hf3); (try go_wp2_with fail); refine tr hK (fun hHeld => ?_) (hHeld.trans (But.of_below hb3)); clear hK K)
  refine tq 8 hHeld ?_
  refine tq 10 hHeld ?_
  refine tc 11 fun K hK => ?_
  (go_simp; refine tr hK (fun hHeld => ?_) ((((((((hHeld.setCell rfl _).setCell rfl _).setCell rfl _).setCell rfl _).setCell rfl _).setCell rfl _).setCell rfl _).setCell rfl _); clear hK K)
  refine wpAnyH_done (by kernel_rfl) ?_ _
  go_wp2_with fail
  exact bodyPost_ret (v := ndW (leafV U p) true) (by simp [results, Try.results42, go_sem, leafV, *]) rfl ⟨rfl, hB.trans (hHeld.below (Nat.le_refl _) (Nat.le_of_lt hwl))⟩
theorem nd8_new (D V : Nat → Int) (m : Nat) : nd8 (fun q => if q < m * 8 then D q else V (q - m * 8)) m = [.int .i64 (V 0), .int .i64 (V 1), .int .i64 (V 2), .int .i64 (V 3), .bool (decide (V 4 = 1)), .int .i64 (V 5), .int .i64 (V 6), .int .i64 (V 7)] := by
  have h : ∀ j, (if m * 8 + j < m * 8 then D (m * 8 + j) else V (m * 8 + j - m * 8)) = V j := fun j => by rw [if_neg (by omega)]; congr 1; omega
  have h0 := h 0
  simp only [Nat.add_zero] at h0
  unfold nd8
  simp only [h, h0]
theorem TW.put {w : World} {base tb N ci g m c : Nat} {ai : Option Addr} {v : Value} {D : Nat → Int} (e0 : w.cell? ⟨tb, 0, none⟩ = some (.slice ai N ci)) (e1 : w.cell? ⟨tb, 1, none⟩ = some v) (f : w.frozen? ⟨tb, 1, none⟩ = false) (ho : NL w base (.slice (some ⟨g, 0, none⟩) m c) D m) (htb : tb < base) :
    TW (w.setCell ⟨tb, 1, none⟩ (.slice (some ⟨g, 0, none⟩) m c)) base tb ai N ci (.slice (some ⟨g, 0, none⟩) m c) m D :=
  ⟨by rw [cset_other (by intro q; injection q with q1 q2; omega)]; exact e0, by rw [cset_map, e1]; rfl, by rw [World.frozen?_setCell]; exact f, ho.keep fun k hk => Below.heap_setCell _ _ _ _ (by have := (ho.lt k hk).1; show k ≠ tb; omega)⟩
set_option maxRecDepth 20000 in
set_option maxHeartbeats 1000000 in
theorem add_any (base tb : Nat) (ai : Option Addr) (N ci : Nat) (v : Value) (m : Nat) (D V : Nat → Int) (l : Bool) (w : World) (h : TW w base tb ai N ci v m D) (hl : l = decide (V 4 = 1)) (hm : m ≤ 1000) (hbase : base ≤ w.heap.size) (htb : tb < base) :
    Calls Try.prog 41 #[.pointer (some ⟨tb, 0, none⟩), ndW V l] w fun e w' => e = .returned (.int .i64 (m : Int)) ∧ ∃ v', TW w' base tb ai N ci v' (m + 1) (fun q => if q < m * 8 then D q else V (q - m * 8)) ∧ (∀ k, k < base → k ≠ tb → w'.heap[k]? = w.heap[k]?) ∧ w'.os = w.os ∧ w'.tape = w.tape ∧ w'.output = w.output ∧ w.heap.size ≤ w'.heap.size := by
  have hset := cset_map
  have c1 := h.c1
  have f1 := h.f1
  have l1 := cell_lt c1
  simp only at l1
  go_enter Try.func41, Try.ntmps41
  subst hl
  have h9 := h.below (w' := w.alloc (.cells #[.int .i64 (V 0), .int .i64 (V 1), .int .i64 (V 2), .int .i64 (V 3), .bool (decide (V 4 = 1)), .int .i64 (V 5), .int .i64 (V 6), .int .i64 (V 7)] 86)) ((Below.refl _ _).alloc (Nat.le_refl _) _)
  have hw1 : IntKind.i64.wrap (((m + 1 : Nat) : Int) - 1) = (m : Int) := by rw [i64w (by omega)]; omega
  have hw2 : IntKind.i64.wrap ((m : Int) + 1 - 1) = (m : Int) := by rw [i64w (by omega)]; omega
  have hw3 : ((m : Int) + 1 - 1) = (m : Int) := by omega
  go_upto_region 1 with fail
  have hE : Below w.heap.size w (w.alloc (.cells #[.int .i64 (V 0), .int .i64 (V 1), .int .i64 (V 2), .int .i64 (V 3), .bool (decide (V 4 = 1)), .int .i64 (V 5), .int .i64 (V 6), .int .i64 (V 7)] 86)) := (Below.refl _ _).alloc (Nat.le_refl _) _
  have n0 : (w.alloc (.cells #[.int .i64 (V 0), .int .i64 (V 1), .int .i64 (V 2), .int .i64 (V 3), .bool (decide (V 4 = 1)), .int .i64 (V 5), .int .i64 (V 6), .int .i64 (V 7)] 86)).cell? ⟨w.heap.size, 0, none⟩ = some (.int .i64 (V 0)) := by go_simp
  have n1 : (w.alloc (.cells #[.int .i64 (V 0), .int .i64 (V 1), .int .i64 (V 2), .int .i64 (V 3), .bool (decide (V 4 = 1)), .int .i64 (V 5), .int .i64 (V 6), .int .i64 (V 7)] 86)).cell? ⟨w.heap.size, 1, none⟩ = some (.int .i64 (V 1)) := by go_simp
  have n2 : (w.alloc (.cells #[.int .i64 (V 0), .int .i64 (V 1), .int .i64 (V 2), .int .i64 (V 3), .bool (decide (V 4 = 1)), .int .i64 (V 5), .int .i64 (V 6), .int .i64 (V 7)] 86)).cell? ⟨w.heap.size, 2, none⟩ = some (.int .i64 (V 2)) := by go_simp
  have n3 : (w.alloc (.cells #[.int .i64 (V 0), .int .i64 (V 1), .int .i64 (V 2), .int .i64 (V 3), .bool (decide (V 4 = 1)), .int .i64 (V 5), .int .i64 (V 6), .int .i64 (V 7)] 86)).cell? ⟨w.heap.size, 3, none⟩ = some (.int .i64 (V 3)) := by go_simp
  have n4 : (w.alloc (.cells #[.int .i64 (V 0), .int .i64 (V 1), .int .i64 (V 2), .int .i64 (V 3), .bool (decide (V 4 = 1)), .int .i64 (V 5), .int .i64 (V 6), .int .i64 (V 7)] 86)).cell? ⟨w.heap.size, 4, none⟩ = some (.bool (decide (V 4 = 1))) := by go_simp
  have n5 : (w.alloc (.cells #[.int .i64 (V 0), .int .i64 (V 1), .int .i64 (V 2), .int .i64 (V 3), .bool (decide (V 4 = 1)), .int .i64 (V 5), .int .i64 (V 6), .int .i64 (V 7)] 86)).cell? ⟨w.heap.size, 5, none⟩ = some (.int .i64 (V 5)) := by go_simp
  have n6 : (w.alloc (.cells #[.int .i64 (V 0), .int .i64 (V 1), .int .i64 (V 2), .int .i64 (V 3), .bool (decide (V 4 = 1)), .int .i64 (V 5), .int .i64 (V 6), .int .i64 (V 7)] 86)).cell? ⟨w.heap.size, 6, none⟩ = some (.int .i64 (V 6)) := by go_simp
  have n7 : (w.alloc (.cells #[.int .i64 (V 0), .int .i64 (V 1), .int .i64 (V 2), .int .i64 (V 3), .bool (decide (V 4 = 1)), .int .i64 (V 5), .int .i64 (V 6), .int .i64 (V 7)] 86)).cell? ⟨w.heap.size, 7, none⟩ = some (.int .i64 (V 7)) := by go_simp
  have hz : (w.alloc (.cells #[.int .i64 (V 0), .int .i64 (V 1), .int .i64 (V 2), .int .i64 (V 3), .bool (decide (V 4 = 1)), .int .i64 (V 5), .int .i64 (V 6), .int .i64 (V 7)] 86)).heap.size = w.heap.size + 1 := by simp
  generalize w.alloc (.cells #[.int .i64 (V 0), .int .i64 (V 1), .int .i64 (V 2), .int .i64 (V 3), .bool (decide (V 4 = 1)), .int .i64 (V 5), .int .i64 (V 6), .int .i64 (V 7)] 86) = w9 at h9 hE n0 n1 n2 n3 n4 n5 n6 n7 hz ⊢
  have c9 := h9.c1
  have hx9 : tb < w9.heap.size := by omega
  have hy9 : w.heap.size < w9.heap.size := by omega
  obtain ⟨bx, hbx⟩ : ∃ x, w.heap.size = x := ⟨_, rfl⟩
  rw [hbx] at hz hy9 n0 n1 n2 n3 n4 n5 n6 n7
  simp only [hbx]
  have hb9 : base ≤ w9.heap.size := by omega
  clear c1 f1 hz hbx
  refine wp_region_held_drew (S := fun _ => True) (by kernel_rfl) trivial (fun hHeld => ?_)
  refine tq 0 hHeld ?_
  refine tq 1 hHeld ?_
  refine tq 2 hHeld ?_
  refine tq 3 hHeld ?_
  refine wpAnyH_ready (rs := [4, 5]) (by kernel_rfl) (by simp) ?_
  refine AllReadyH.cons rfl (fun K hK => ?_) (AllReadyH.cons rfl (fun K hK => ?_) AllReadyH.nil)
  · (go_simp; refine tr hK (fun hHeld => ?_) trivial; clear hK K)
    refine tc 5 fun K hK => ?_
    (go_simp; refine tr hK (fun hHeld => ?_) trivial; clear hK K)
    refine tc 6 fun K hK => ?_
    (go_simp; refine tr hK (fun hHeld => ?_) trivial; clear hK K)
    refine tc 7 fun K hK => ?_
    (refine step_napp (by rfl) _ _ _ (by rfl) Try.underlying42 base v (fun q => if q < m * 8 then D q else V (q - m * 8)) m (by rfl) ((h9.below (by exact bel_a)).congr (fun q hq => (if_pos hq).symm)).nl w9.heap.size (by first | rfl | (simp [*]; done) | (go_simp; done)) (by rw [nd8_new]; intro i hi; rcases (show i = 0 ∨ i = 1 ∨ i = 2 ∨ i = 3 ∨ i = 4 ∨ i = 5 ∨ i = 6 ∨ i = 7 by omega) with rfl | rfl | rfl | rfl | rfl | rfl | rfl | rfl <;> go_simp) (by omega) (by first | omega | (simp; done) | (simp; omega)) ?_
     intro g7 c7 w7 ho7 hg7
     have e7 : ∀ k, k < base → w7.heap[k]? = w9.heap[k]? := fun k hk => (hg7.block k (by first | omega | (simp; done) | (simp; omega)) (fun e => by have := (h9.nl.lt k e.symm).1; omega)).trans ((bel_a : Below w9.heap.size w9 _).block k (by omega))
     have m7 : w7.os = w9.os ∧ w7.tape = w9.tape ∧ w7.output = w9.output ∧ w9.heap.size ≤ w7.heap.size := ⟨hg7.os, hg7.tape, hg7.output, Nat.le_trans (by first | omega | (simp; done) | (simp; omega)) hg7.size⟩
     have z7 := (World.cell?_of_block (a := ⟨tb, 0, none⟩) (e7 tb htb)).trans h9.c0
     have y7 := (World.cell?_of_block (a := ⟨tb, 1, none⟩) (e7 tb htb)).trans h9.c1
     have x7 := (World.frozen?_of_block (a := ⟨tb, 1, none⟩) (e7 tb htb)).trans h9.f1
     refine tr hK (fun hHeld => ?_) trivial
     clear hK K)
    refine tq 8 hHeld ?_
    refine tq 9 hHeld ?_
    refine tc 10 fun K hK => ?_
    (go_simp; refine tr hK (fun hHeld => ?_) trivial; clear hK K)
    refine wpAnyH_done (by kernel_rfl) ?_ _
    have hT := TW.put z7 y7 x7 ho7 htb
    have hT1 := hT.c1
    go_wp2_with fail
    go_ret
    exact ⟨rfl, _, hT.below (by exact bel_a), fun k h1 h2 => (Below.heap_setCell w7 ⟨tb, 1, none⟩ _ k h2).trans ((e7 k h1).trans (hE.block k (by omega))), m7.1.trans hE.os, m7.2.1.trans hE.tape, m7.2.2.1.trans hE.output, Nat.le_trans hE.size (Nat.le_trans m7.2.2.2 (by simp))⟩
  · (go_simp; refine tr hK (fun hHeld => ?_) trivial; clear hK K)
    refine wpAnyH_ready (rs := [4, 6]) (by kernel_rfl) (by simp) ?_
    refine AllReadyH.cons rfl (fun K hK => ?_) (AllReadyH.cons rfl (fun K hK => ?_) AllReadyH.nil)
    · (go_simp; refine tr hK (fun hHeld => ?_) trivial; clear hK K)
      refine tc 6 fun K hK => ?_
      (go_simp; refine tr hK (fun hHeld => ?_) trivial; clear hK K)
      refine tc 7 fun K hK => ?_
      (refine step_napp (by rfl) _ _ _ (by rfl) Try.underlying42 base v (fun q => if q < m * 8 then D q else V (q - m * 8)) m (by rfl) ((h9.below (by exact bel_a)).congr (fun q hq => (if_pos hq).symm)).nl w9.heap.size (by first | rfl | (simp [*]; done) | (go_simp; done)) (by rw [nd8_new]; intro i hi; rcases (show i = 0 ∨ i = 1 ∨ i = 2 ∨ i = 3 ∨ i = 4 ∨ i = 5 ∨ i = 6 ∨ i = 7 by omega) with rfl | rfl | rfl | rfl | rfl | rfl | rfl | rfl <;> go_simp) (by omega) (by first | omega | (simp; done) | (simp; omega)) ?_
       intro g7 c7 w7 ho7 hg7
       have e7 : ∀ k, k < base → w7.heap[k]? = w9.heap[k]? := fun k hk => (hg7.block k (by first | omega | (simp; done) | (simp; omega)) (fun e => by have := (h9.nl.lt k e.symm).1; omega)).trans ((bel_a : Below w9.heap.size w9 _).block k (by omega))
       have m7 : w7.os = w9.os ∧ w7.tape = w9.tape ∧ w7.output = w9.output ∧ w9.heap.size ≤ w7.heap.size := ⟨hg7.os, hg7.tape, hg7.output, Nat.le_trans (by first | omega | (simp; done) | (simp; omega)) hg7.size⟩
       have z7 := (World.cell?_of_block (a := ⟨tb, 0, none⟩) (e7 tb htb)).trans h9.c0
       have y7 := (World.cell?_of_block (a := ⟨tb, 1, none⟩) (e7 tb htb)).trans h9.c1
       have x7 := (World.frozen?_of_block (a := ⟨tb, 1, none⟩) (e7 tb htb)).trans h9.f1
       refine tr hK (fun hHeld => ?_) trivial
       clear hK K)
      refine tq 8 hHeld ?_
      refine tq 9 hHeld ?_
      refine tc 10 fun K hK => ?_
      (go_simp; refine tr hK (fun hHeld => ?_) trivial; clear hK K)
      refine wpAnyH_done (by kernel_rfl) ?_ _
      have hT := TW.put z7 y7 x7 ho7 htb
      have hT1 := hT.c1
      go_wp2_with fail
      go_ret
      exact ⟨rfl, _, hT.below (by exact bel_a), fun k h1 h2 => (Below.heap_setCell w7 ⟨tb, 1, none⟩ _ k h2).trans ((e7 k h1).trans (hE.block k (by omega))), m7.1.trans hE.os, m7.2.1.trans hE.tape, m7.2.2.1.trans hE.output, Nat.le_trans hE.size (Nat.le_trans m7.2.2.2 (by simp))⟩
    · (go_simp; refine tr hK (fun hHeld => ?_) trivial; clear hK K)
      refine tc 4 fun K hK => ?_
      (go_simp; refine tr hK (fun hHeld => ?_) trivial; clear hK K)
      refine tc 7 fun K hK => ?_
      (refine step_napp (by rfl) _ _ _ (by rfl) Try.underlying42 base v (fun q => if q < m * 8 then D q else V (q - m * 8)) m (by rfl) ((h9.below (by exact bel_a)).congr (fun q hq => (if_pos hq).symm)).nl w9.heap.size (by first | rfl | (simp [*]; done) | (go_simp; done)) (by rw [nd8_new]; intro i hi; rcases (show i = 0 ∨ i = 1 ∨ i = 2 ∨ i = 3 ∨ i = 4 ∨ i = 5 ∨ i = 6 ∨ i = 7 by omega) with rfl | rfl | rfl | rfl | rfl | rfl | rfl | rfl <;> go_simp) (by omega) (by first | omega | (simp; done) | (simp; omega)) ?_
       intro g7 c7 w7 ho7 hg7
       have e7 : ∀ k, k < base → w7.heap[k]? = w9.heap[k]? := fun k hk => (hg7.block k (by first | omega | (simp; done) | (simp; omega)) (fun e => by have := (h9.nl.lt k e.symm).1; omega)).trans ((bel_a : Below w9.heap.size w9 _).block k (by omega))
       have m7 : w7.os = w9.os ∧ w7.tape = w9.tape ∧ w7.output = w9.output ∧ w9.heap.size ≤ w7.heap.size := ⟨hg7.os, hg7.tape, hg7.output, Nat.le_trans (by first | omega | (simp; done) | (simp; omega)) hg7.size⟩
       have z7 := (World.cell?_of_block (a := ⟨tb, 0, none⟩) (e7 tb htb)).trans h9.c0
       have y7 := (World.cell?_of_block (a := ⟨tb, 1, none⟩) (e7 tb htb)).trans h9.c1
       have x7 := (World.frozen?_of_block (a := ⟨tb, 1, none⟩) (e7 tb htb)).trans h9.f1
       refine tr hK (fun hHeld => ?_) trivial
       clear hK K)
      refine tq 8 hHeld ?_
      refine tq 9 hHeld ?_
      refine tc 10 fun K hK => ?_
      (go_simp; refine tr hK (fun hHeld => ?_) trivial; clear hK K)
      refine wpAnyH_done (by kernel_rfl) ?_ _
      have hT := TW.put z7 y7 x7 ho7 htb
      have hT1 := hT.c1
      go_wp2_with fail
      go_ret
      exact ⟨rfl, _, hT.below (by exact bel_a), fun k h1 h2 => (Below.heap_setCell w7 ⟨tb, 1, none⟩ _ k h2).trans ((e7 k h1).trans (hE.block k (by omega))), m7.1.trans hE.os, m7.2.1.trans hE.tape, m7.2.2.1.trans hE.output, Nat.le_trans hE.size (Nat.le_trans m7.2.2.2 (by simp))⟩
end Go.Proofs.Ytcbgcochpflblaa
