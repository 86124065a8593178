/- All that meet, two by two, as a list: what the range over the tree's iterator keeps. -/
import Derived.Test.YtcbgcochpflblaaBrPr
import Derived.Test.YtcbgcochpflblaaB31
import Derived.Test.YtcbgcochpflblaaB19
import Derived.Deep.AppendLies
import Derived.Deep.RegionHeld3
import Derived.Deep.DeepCutAuto
namespace Go.Proofs.Ytcbgcochpflblaa
open Go.RowKit
set_option linter.unusedVariables false
set_option linter.unusedSimpArgs false
/-- the numbers of the two -/
def bpV (U : Nat → Int) : List (Nat × Nat) → List Int
  | [] => []
  | p :: l => U (p.1 * 5) :: U (p.2 * 5) :: bpV U l
theorem bpV_len (U : Nat → Int) : ∀ l : List (Nat × Nat), (bpV U l).length = l.length * 2
  | [] => rfl
  | p :: l => by rw [bpV, List.length_cons, List.length_cons, bpV_len U l, List.length_cons]; omega
theorem bpV_app (U : Nat → Int) : ∀ l r : List (Nat × Nat), bpV U (l ++ r) = bpV U l ++ bpV U r
  | [], _ => rfl
  | p :: l, r => by rw [List.cons_append, bpV, bpV_app U l r, bpV]; rfl
theorem bpOf_len (i : Nat) (l : List Nat) : (bpOf i l).length ≤ l.length := by unfold bpOf; rw [List.length_map]; exact List.length_filter_le _ _
theorem bpL_len (N : Nat) (U : Nat → Int) : ∀ m, (bpL N U m).length ≤ m * N
  | 0 => Nat.zero_le _
  | m + 1 => by
    have h1 := bpL_len N U m
    have h2 := bpOf_len m (bpIn N U m)
    have h3 : (bpIn N U m).length ≤ (List.range N).length := List.length_filter_le _ _
    rw [List.length_range] at h3
    rw [bpL, List.length_append, Nat.succ_mul]
    omega
abbrev zcPr2 : Value := .agg #[.int .i64 0, .int .i64 0]
theorem infoPr2 : (Try.prog.info? 48).map (fun i => (i.zero, i.size, i.bytes)) = some (some zcPr2, 2, 16) := by kernel_rfl
/-- APPEND of one thing: its block is the old one, or new -/
theorem wpList_appx {P : Program} {ops : Array Oper} {o : Oper} {a : Act} {Q : Exit → Act → World → Prop} {w : World} {rest : List Oper} (hgd : o.guard = none) (s x : Operand) (t : TypeId) (ho : o.op = .call { callee := .builtin .append, args := #[s, x], argTypes := #[t, t] })
    (base e k bytes : Nat) (z : Value) (ht : P.underlying t = some (.slice e)) (hinfo : (P.info? e).map (fun i => (i.zero, i.size, i.bytes)) = some (some z, k, bytes)) (hzs : z.cells.size = k) (hk : 0 < k)
    (v : Value) (n : Nat) (U : Nat → Int) (hs : a.eval s = v) (h : OwnL w base e k v n U) (b : Nat) (X : Nat → Int) (hxx : a.eval x = .slice (some ⟨b, 0, none⟩) 1 1) (hx : ∀ j, j < k → w.cell? ⟨b, j, none⟩ = some (.int .i64 (X j)))
    (h63 : n + 1 ≤ maxLen) (hbytes : (n + 1) * bytes ≤ 140737488355328) (hbase : base ≤ w.heap.size)
    (hK : ∀ g c' w', OwnL w' base e k (.slice (some ⟨g, 0, none⟩) (n + 1) c') (n + 1) (cat (n * k) U X) → w.grownBy w' v.ownBlock → (v.ownBlock = some g ∨ g = w.heap.size) → wpList P ops Q rest (a.put o.dst (.slice (some ⟨g, 0, none⟩) (n + 1) c')) w') : wpList P ops Q (o :: rest) a w := by
  obtain ⟨i, hi, hzz⟩ := Option.map_eq_some_iff.1 hinfo
  simp only [Prod.mk.injEq] at hzz
  obtain ⟨hz, hsz, hb8⟩ := hzz
  refine wpList_plain hgd fun K' hK' => wp_append_lies w s x t ho base e i z k bytes ht hi hz hsz hb8 hzs hk v n (numL (n * k) U) hs h ⟨b, 0, none⟩ 1 1 (numL (1 * k) X) hxx (numL_len _ _) ?_ ?_ (by decide) h63 hbytes hbase _ rfl ?_
  · intro j u hu
    have hj : j < 1 * k := by have := (List.getElem?_eq_some_iff.1 hu).1; rwa [numL_len] at this
    rw [numL_get hj] at hu
    rw [Addr.add_lit, Nat.zero_add, hx j (by omega)]; exact hu
  · intro u hu
    obtain ⟨q, _, rfl⟩ := List.mem_map.1 hu; rfl
  · intro g cap w' r1 r2 r3 r4
    refine hK' _ _ (hK g cap w' ?_ r2 r3)
    unfold OwnL
    rw [Nat.add_mul, ← numL_cat]
    exact r1
/-- a list in a variable beside an iterator's blocks -/
structure Vs (w A : World) (H : Nat → Prop) (B lb t k : Nat) (v : Value) (m : Nat) (l : List Int) : Prop where
  bel : Below w.heap.size w A
  box : A.cell? ⟨lb, 0, none⟩ = some v
  nf : A.frozen? ⟨lb, 0, none⟩ = false
  own : OwnL A B t k v m (ofL l)
  lo : w.heap.size ≤ lb
  hi : lb < B
  len : l.length = m * k
  out : ∀ b, v.ownBlock = some b → ¬ H b
section
variable {w A A' : World} {H H' : Nat → Prop} {B lb t k m : Nat} {v : Value} {l : List Int}
theorem Vs.lt (h : Vs w A H B lb t k v m l) : lb < A.heap.size := cell_lt (a := ⟨lb, 0, none⟩) h.box
theorem Vs.isCells (h : Vs w A H B lb t k v m l) : ∀ b o, v.ownBlock = some b → A.heap[b]? = some o → o.isCells = true := by
  intro b o hb ho
  rcases h.own.2 with ⟨hv, _⟩ | ⟨g, cap, cur, hv, _, hg, _⟩
  · subst hv; cases hb
  · subst hv
    simp only [Value.ownBlock, Option.some.injEq] at hb
    subst hb
    rw [hg] at ho; cases ho; rfl
theorem Vs.kxs (h : Vs w A H B lb t k v m l) (K : Kxs B H A A') (g : Gr A H H') (hB : w.heap.size ≤ B) : Vs w A' H' B lb t k v m l := by
  refine ⟨h.bel.trans (K.below.mono hB), (K.below.cell (p := ⟨lb, 0, none⟩) h.hi).trans h.box, (K.below.frozen (p := ⟨lb, 0, none⟩) h.hi).trans h.nf, ⟨h.own.1, ?_⟩, h.lo, h.hi, h.len, fun b hb hh => (g b hh).elim (h.out b hb) (fun e => by have := (h.own.lt b hb).2; omega)⟩
  rcases h.own.2 with q | ⟨gg, cap, cur, hv, hb, hg, rest⟩
  · exact .inl q
  · exact .inr ⟨gg, cap, cur, hv, hb, K.cells _ _ hg rfl (h.out gg (by rw [hv]; rfl)), rest⟩
theorem Vs.sm {B' : Nat} (h : Vs w A H B lb t k v m l) (K : Sm B' A A') (hB : w.heap.size ≤ B') : Vs w A' H B lb t k v m l := by
  refine ⟨h.bel.trans (K.below.mono hB), K.cell h.box, K.frozen h.box h.nf, ⟨h.own.1, ?_⟩, h.lo, h.hi, h.len, h.out⟩
  rcases h.own.2 with q | ⟨gg, cap, cur, hv, hb, hg, rest⟩
  · exact .inl q
  · exact .inr ⟨gg, cap, cur, hv, hb, K.cells _ _ hg rfl, rest⟩
theorem Vs.on (h : Vs w A H B lb t k v m l) (K : Below A.heap.size A A') : Vs w A' H B lb t k v m l :=
  ⟨h.bel.trans (K.mono h.bel.size), (K.cell (p := ⟨lb, 0, none⟩) h.lt).trans h.box, (K.frozen (p := ⟨lb, 0, none⟩) h.lt).trans h.nf, h.own.below K, h.lo, h.hi, h.len, h.out⟩
theorem Vs.push (h : Vs w A H B lb t k v m l) {Y w7 : World} (hE : Below A.heap.size A Y) (hw : w.heap.size ≤ B) (hH : ∀ b, H b → b < A.heap.size) {g c' : Nat} {x : List Int} (hx : x.length = k) (ho : OwnL w7 B t k (.slice (some ⟨g, 0, none⟩) (m + 1) c') (m + 1) (cat (m * k) (ofL l) (ofL x))) (hg : Y.grownBy w7 v.ownBlock) (hgg : v.ownBlock = some g ∨ g = Y.heap.size) :
    (w7.cell? ⟨lb, 0, none⟩ = some v ∧ w7.frozen? ⟨lb, 0, none⟩ = false) ∧ Vs w (w7.setCell ⟨lb, 0, none⟩ (.slice (some ⟨g, 0, none⟩) (m + 1) c')) H B lb t k (.slice (some ⟨g, 0, none⟩) (m + 1) c') (m + 1) (l ++ x) ∧ Fr (fun b => b = lb ∨ v.ownBlock = some b) A (w7.setCell ⟨lb, 0, none⟩ (.slice (some ⟨g, 0, none⟩) (m + 1) c')) := by
  have h7 := h.on hE
  have hlo : ∀ b, v.ownBlock = some b → B ≤ b := fun b e => (h7.own.lt b e).1
  have hF7 : Fr (fun b => v.ownBlock = some b) Y w7 := Fr.grown hg (fun b e => e) h7.isCells
  have hi := h.hi
  have nlb : ¬ (v.ownBlock = some lb) := fun e => by have := hlo _ e; omega
  have c := (hF7.cell (p := ⟨lb, 0, none⟩) h7.lt nlb).trans h7.box
  have f := (hF7.frozen (p := ⟨lb, 0, none⟩) h7.lt nlb).trans h7.nf
  have hF : Fr (fun b => b = lb ∨ v.ownBlock = some b) A (w7.setCell ⟨lb, 0, none⟩ (.slice (some ⟨g, 0, none⟩) (m + 1) c')) := ((Fr.of_below hE).trans (hF7.mono (fun _ _ e => .inr e))).trans (Fr.setCell (p := ⟨lb, 0, none⟩) (.inl rfl) _)
  have hlo' := h.lo
  refine ⟨⟨c, f⟩, ⟨h.bel.trans (hF.below h.bel.size (fun b e => e.elim (fun e => by omega) (fun e => by have := hlo _ e; omega))), ?_, ?_, ⟨?_, ?_⟩, h.lo, h.hi, by rw [List.length_append, h.len, hx, Nat.succ_mul], ?_⟩, hF⟩
  · rw [cset_map, c]; rfl
  · rw [World.frozen?_setCell]; exact f
  · rw [numL_len]
  · have ho' : OwnL w7 B t k (.slice (some ⟨g, 0, none⟩) (m + 1) c') (m + 1) (ofL (l ++ x)) := ho.congr fun q hq => by rw [← cat_ofL, h.len]
    rcases ho'.2 with q | ⟨gg, cap, cur, hv, hb, hg', rest⟩
    · exact .inl q
    · exact .inr ⟨gg, cap, cur, hv, hb, (Below.heap_setCell w7 ⟨lb, 0, none⟩ _ gg (by show ¬ gg = lb; omega)).trans hg', rest⟩
  · intro b hb hh
    simp only [Value.ownBlock, Option.some.injEq] at hb
    subst hb
    rcases hgg with e | e
    · exact h.out g e hh
    · have := hH g hh
      have := hE.size
      omega
end
theorem But.trans' {w A A' : World} {lb B m k t : Nat} {v : Value} (h : But lb w A) {U : Nat → Int} (ho : OwnL A B t k v m U) (hB : w.heap.size ≤ B) (K : Fr (fun b => b = lb ∨ v.ownBlock = some b) A A') : But lb w A' :=
  ⟨K.os.trans h.os, K.tape.trans h.tape, K.output.trans h.output, Nat.le_trans h.size K.size, fun q hk hn => (K.block q (by have := h.size; omega) (fun e => e.elim (fun e => hn e) (fun e => by have := (ho.lt q e).1; omega))).trans (h.block q hk hn)⟩
theorem But.up {w A A' : World} {lb B : Nat} (h : But lb w A) (K : Below B A A') (hB : w.heap.size ≤ B) : But lb w A' :=
  ⟨K.os.trans h.os, K.tape.trans h.tape, K.output.trans h.output, Nat.le_trans h.size K.size, fun k hk hn => (K.block k (by omega)).trans (h.block k hk hn)⟩
theorem PrC.but {tb N ci base lb : Nat} {ai : Option Addr} {U : Nat → Int} {v : Value} {A A' : World} (h : PrC tb N ci base ai U v A) (hb : But lb A A') (ht : tb ≠ lb) (hl : lb < base) (hai : ∀ b o, ai = some ⟨b, o, none⟩ → 0 < N * 5 → b ≠ lb) : PrC tb N ci base ai U v A' := by
  obtain ⟨h1, h2, h3, h4⟩ := h
  refine ⟨fun h0 => ?_, (hb.cell (p := ⟨tb, 0, none⟩) (cell_lt h2) ht).trans h2, (hb.cell (p := ⟨tb, 1, none⟩) (cell_lt h3) ht).trans h3, ?_⟩
  · obtain ⟨b, o, e, hbl, hc⟩ := h1 h0
    exact ⟨b, o, e, Nat.lt_of_lt_of_le hbl hb.size, fun j hj => (hb.cell (p := ⟨b, o + j, none⟩) hbl (hai b o e h0)).trans (hc j hj)⟩
  · rcases h4 with q | ⟨q, m, D, hN, hr⟩
    · exact .inl q
    · exact .inr ⟨q, m, D, hN.keep (fun g hg => hb.block g (hN.lt g hg).2 (by have := (hN.lt g hg).1; omega)), hr⟩
end Go.Proofs.Ytcbgcochpflblaa
