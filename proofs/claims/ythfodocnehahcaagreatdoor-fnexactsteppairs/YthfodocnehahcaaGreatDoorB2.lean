/- Bodies in columns: n rows; what may change, and what stays. A step of a drawn region, said shortly. Two operations of a drawn region that may come either way round: one reads, one lays a block. A body that is added to columns: twelve appends. Bodies as they were given, each in a row. All rows of some columns, told one by one. The contracts of the specification's ways. The contracts of boxes. The contracts of spans. The contracts of the shapes: what is ok. The contracts of the specification's boxes. The contracts of the specification's BoxMeets and BoxHas. The contracts of the specification's VecMul, VecLen and VecUnit. The contracts of places and figures. -/
import Derived.Test.YthfodocnehahcaaGreatDoorB1
import Derived.Laws.OwnMore
import Derived.Deep.RegionHeld3
import Derived.Deep.DeepCutAuto
import Derived.LoopNIn
import Derived.LoopIn
import Derived.OwnWalkIn
import Derived.RangeFuncBound
import Derived.Shelf.Abstract
import Derived.Deep.QuietTactic
import Derived.BigQuiet
import Derived.Deep.RegionWith
namespace Go.Proofs.YthfodocnehahcaaGreatDoor
open Go.RowKit
set_option linter.unusedVariables false
set_option linter.unusedSimpArgs false
theorem _root_.Go.RowKit.Below.ofDr {B : Nat} {w w' : World} (h : Below B w.drew w') : Below B w w' := ⟨h.os, h.tape, h.output, h.size, h.block⟩
/-- all blocks that were there are as they were but those of X, and nothing that is no cells has changed -/
structure Fr (X : Nat → Prop) (w w' : World) : Prop where
  os : w'.os = w.os
  tape : w'.tape = w.tape
  output : w'.output = w.output
  size : w.heap.size ≤ w'.heap.size
  block : ∀ k, k < w.heap.size → ¬ X k → w'.heap[k]? = w.heap[k]?
  kind : ∀ (k : Nat) (o : Obj), w.heap[k]? = some o → o.isCells = false → w'.heap[k]? = some o
theorem Fr.refl (X : Nat → Prop) (w : World) : Fr X w w := ⟨rfl, rfl, rfl, Nat.le_refl _, fun _ _ _ => rfl, fun _ _ h _ => h⟩
theorem Fr.trans' {X Y : Nat → Prop} {a b c : World} (h : Fr X a b) (k : Fr Y b c) (hXY : ∀ i, i < a.heap.size → Y i → X i) : Fr X a c :=
  ⟨k.os.trans h.os, k.tape.trans h.tape, k.output.trans h.output, Nat.le_trans h.size k.size, fun i hi hn => (k.block i (Nat.lt_of_lt_of_le hi h.size) (fun y => hn (hXY i hi y))).trans (h.block i hi hn), fun i o hi ho => k.kind i o (h.kind i o hi ho) ho⟩
theorem Fr.trans {X : Nat → Prop} {a b c : World} (h : Fr X a b) (k : Fr X b c) : Fr X a c := h.trans' k fun _ _ x => x
theorem Fr.of_below {X : Nat → Prop} {w w' : World} (h : Below w.heap.size w w') : Fr X w w' := ⟨h.os, h.tape, h.output, h.size, fun k hk _ => h.block k hk, fun k o hk _ => (h.block k (Array.getElem?_eq_some_iff.1 hk).1).trans hk⟩
theorem Fr.below {X : Nat → Prop} {B : Nat} {w w' : World} (h : Fr X w w') (hB : B ≤ w.heap.size) (hX : ∀ k, X k → B ≤ k) : Below B w w' := ⟨h.os, h.tape, h.output, h.size, fun k hk => h.block k (by omega) (fun x => by have := hX k x; omega)⟩
theorem Fr.others {X : Nat → Prop} {w w' : World} (h : Fr X w w') : KeepsOthers w w' := ⟨h.size, h.kind⟩
theorem Fr.keeps {X : Nat → Prop} {w w' : World} (h : Fr X w w') (B : Nat) : KeepsFrom B w w' := h.others.from B
theorem Fr.cell {X : Nat → Prop} {w w' : World} (h : Fr X w w') {p : Addr} (hp : p.block < w.heap.size) (hn : ¬ X p.block) : w'.cell? p = w.cell? p := World.cell?_of_block (w := w) (h.block p.block hp hn)
theorem Fr.frozen {X : Nat → Prop} {w w' : World} (h : Fr X w w') {p : Addr} (hp : p.block < w.heap.size) (hn : ¬ X p.block) : w'.frozen? p = w.frozen? p := World.frozen?_of_block (w := w) (h.block p.block hp hn)
theorem Fr.mono {X Y : Nat → Prop} {w w' : World} (h : Fr X w w') (hXY : ∀ k, k < w.heap.size → X k → Y k) : Fr Y w w' := ⟨h.os, h.tape, h.output, h.size, fun k hk hn => h.block k hk (fun x => hn (hXY k hk x)), h.kind⟩
theorem Fr.setCell {X : Nat → Prop} {w : World} {p : Addr} (hp : X p.block) (v : Value) : Fr X w (w.setCell p v) :=
  ⟨rfl, rfl, rfl, by simp [World.setCell], fun k _ hn => Below.heap_setCell _ _ _ _ (fun e => hn (by subst e; exact hp)), (KeepsOthers.setCell w p v).same⟩
theorem Fr.grown {X : Nat → Prop} {w w' : World} {row : Option Nat} (hg : w.grownBy w' row) (hX : ∀ b, row = some b → X b) (hc : ∀ b o, row = some b → w.heap[b]? = some o → o.isCells = true) : Fr X w w' :=
  ⟨hg.os, hg.tape, hg.output, hg.size, fun k hk hn => hg.block k hk (fun e => hn (hX k e.symm)), fun k o hk ho => (hg.block k (Array.getElem?_eq_some_iff.1 hk).1 (fun e => by have := hc k o e.symm hk; rw [ho] at this; cases this)).trans hk⟩
theorem Fr.drew {X : Nat → Prop} {w w' : World} (h : Fr X w w') : Fr X w w'.drew := h.trans (Fr.of_below (Below.drew (Below.refl _ _)))
theorem Fr.ofDrew {X : Nat → Prop} {w w' : World} (h : Fr X w.drew w') : Fr X w w' := ⟨h.os, h.tape, h.output, h.size, h.block, h.kind⟩
/-- rows of one's own -/
theorem OwnL.isCells {w : World} {base t k n : Nat} {v : Value} {U : Nat → Int} (h : OwnL w base t k v n U) : ∀ b o, v.ownBlock = some b → w.heap[b]? = some o → o.isCells = true := by
  intro b o hb ho
  rcases h.2 with ⟨hv, _⟩ | ⟨g, cap, cur, hv, _, hg, _⟩
  · subst hv; cases hb
  · subst hv
    simp only [Value.ownBlock, Option.some.injEq] at hb
    subst hb
    rw [hg] at ho
    cases ho
    rfl
theorem OwnL.sm {w w' : World} {B base t k n : Nat} {v : Value} {U : Nat → Int} (h : OwnL w base t k v n U) (hs : Sm B w w') : OwnL w' base t k v n U := by
  refine ⟨h.1, ?_⟩
  rcases h.2 with q | ⟨g, cap, cur, hv, hb, hg, rest⟩
  · exact .inl q
  · exact .inr ⟨g, cap, cur, hv, hb, hs.cells _ _ hg rfl, rest⟩
theorem OwnL.frame {X : Nat → Prop} {w w' : World} {base t k n : Nat} {v : Value} {U : Nat → Int} (h : OwnL w base t k v n U) (hs : Fr X w w') (hX : ∀ b, v.ownBlock = some b → ¬ X b) : OwnL w' base t k v n U := by
  refine ⟨h.1, ?_⟩
  rcases h.2 with q | ⟨g, cap, cur, hv, hb, hg, rest⟩
  · exact .inl q
  · exact .inr ⟨g, cap, cur, hv, hb, (hs.block _ (Array.getElem?_eq_some_iff.1 hg).1 (hX g (by rw [hv]; rfl))).trans hg, rest⟩
theorem OwnL.some {w : World} {base t k n : Nat} {v : Value} {U : Nat → Int} (h : OwnL w base t k v n U) (hn : 0 < n) : ∃ g c, v = .slice (Option.some ⟨g, 0, none⟩) n c := by
  rcases h.2 with ⟨_, e⟩ | ⟨g, cap, cur, hv, _⟩
  · omega
  · exact ⟨g, cap, hv⟩
theorem OwnL.at1 {w : World} {base t n g c : Nat} {U : Nat → Int} (h : OwnL w base t 1 (.slice (Option.some ⟨g, 0, none⟩) n c) n U) {j : Nat} (hj : j < n) : w.cell? ⟨g, j, none⟩ = Option.some (.int .i64 (U j)) := by
  have := World.ownsRow.cellAt h j (by omega)
  rw [this, numL_get (by omega)]
theorem OwnL.fro {w : World} {base t k n g c : Nat} {U : Nat → Int} (h : OwnL w base t k (.slice (Option.some ⟨g, 0, none⟩) n c) n U) (j : Nat) : w.frozen? ⟨g, j, none⟩ = false := World.ownsRow.frozenAt h j
theorem OwnL.put {w : World} {base t n g c : Nat} {U : Nat → Int} (h : OwnL w base t 1 (.slice (Option.some ⟨g, 0, none⟩) n c) n U) {j : Nat} (hj : j < n) (y : Int) : OwnL (w.setCell ⟨g, j, none⟩ (.int .i64 y)) base t 1 (.slice (Option.some ⟨g, 0, none⟩) n c) n (fun q => if q = j then y else U q) := by
  have h1 := (World.ownsRow.stored h j (.int .i64 y)).1
  unfold OwnL
  rw [show numL (n * 1) (fun q => if q = j then y else U q) = (numL (n * 1) U).set j (.int .i64 y) from ?_]
  · exact h1
  · apply List.ext_getElem?
    intro q
    rw [List.getElem?_set, numL_len]
    by_cases hq : q < n * 1
    · rw [numL_get hq]
      by_cases e : j = q
      · subst e; simp; omega
      · rw [if_neg e, numL_get hq]; simp [Ne.symm e]
    · rw [List.getElem?_eq_none (by rw [numL_len]; omega)]
      by_cases e : j = q
      · omega
      · rw [if_neg e, List.getElem?_eq_none (by rw [numL_len]; omega)]
/-- one number more -/
def snoc (n : Nat) (U : Nat → Int) (y : Int) : Nat → Int := fun q => if q = n then y else U q
theorem step_app1 {P : Program} {w : World} {ops : Array Oper} {o : Oper} {a : Act} {K : Act → World → Prop} {Q : Exit → Act → World → Prop} {E : Prop} (hgd : o.guard = none) (s x : Operand) (t : TypeId)
    (ho : o.op = .call { callee := .builtin .append, args := #[s, x], argTypes := #[t, t] })
    (base e : Nat) (z : Value) (ht : P.underlying t = some (.slice e)) (hinfo : (P.info? e).map (fun i => (i.zero, i.size, i.bytes)) = some (some z, 1, 8)) (hzs : z.cells.size = 1)
    (v : Value) (n : Nat) (U : Nat → Int) (hs : a.eval s = v) (h : OwnL w base e 1 v n U) (B c : Nat) (y : Int) (hx : a.eval x = .slice (some ⟨B, 0, none⟩) 1 c) (hv : w.cell? ⟨B, 0, none⟩ = some (.int .i64 y))
    (hn : n ≤ 1048576) (hbase : base ≤ w.heap.size) (H : Nat) (hH : w.heap.size = H)
    (hK : ∀ g cap w', OwnL w' base e 1 (.slice (some ⟨g, 0, none⟩) (n + 1) cap) (n + 1) (snoc n U y) → w.grownBy w' v.ownBlock → (v.ownBlock = some g ∨ g = H) → g < w'.heap.size → K (a.put o.dst (.slice (some ⟨g, 0, none⟩) (n + 1) cap)) w') :
    if Region.wanted o (yielded ops a.tmps) = true then Oper.wp P o a w K Q else E := by
  obtain ⟨i, hi, hzz⟩ := Option.map_eq_some_iff.1 hinfo
  simp only [Prod.mk.injEq] at hzz
  obtain ⟨hz, hsz, hby⟩ := hzz
  refine step_append_lies w hgd s x t ho base e i z 1 8 ht hi hz hsz hby hzs (by omega) v n (numL (n * 1) U) hs h ⟨B, 0, none⟩ 1 c [.int .i64 y] hx (by simp) ?_ (by intro u hu; simp at hu; subst hu; rfl) (by omega) (by unfold maxLen; omega) (by omega) hbase H hH ?_
  · intro j u hu
    cases j with
    | zero => simp at hu; subst hu; simpa [Addr.add] using hv
    | succ n => simp at hu
  · intro g cap w' h2 h3 h4 h5
    refine hK g cap w' ?_ h3 h4 h5
    unfold OwnL
    rw [show numL ((n + 1) * 1) (snoc n U y) = numL (n * 1) U ++ [.int .i64 y] from ?_]
    · exact h2
    · apply List.ext_getElem?
      intro q
      rcases Nat.lt_trichotomy q n with l | l | l
      · rw [List.getElem?_append_left (by rw [numL_len]; omega), numL_get (by omega), numL_get (by omega), snoc, if_neg (by omega)]
      · subst l; rw [List.getElem?_append_right (by rw [numL_len]; omega), numL_len, numL_get (by omega)]; simp [snoc]
      · rw [List.getElem?_append_right (by rw [numL_len]; omega), numL_len, List.getElem?_eq_none (by rw [numL_len]; omega), List.getElem?_eq_none (by simp; omega)]
/-- columns of n rows at cb: number i of row k is C i k -/
structure Cs (w : World) (cb n : Nat) (C : Nat → Nat → Int) (S : Nat → Value) : Prop where
  hd : ∀ i, i < 12 → w.cell? ⟨cb, i, none⟩ = some (S i)
  nf : ∀ i, i < 12 → w.frozen? ⟨cb, i, none⟩ = false
  own : ∀ i, i < 12 → OwnL w cb 57 1 (S i) n (C i)
  ncb : ∀ i, i < 12 → ∀ b, (S i).ownBlock = some b → b ≠ cb
  dis : ∀ i j, i < 12 → j < 12 → i ≠ j → ∀ b, (S i).ownBlock = some b → (S j).ownBlock ≠ some b
/-- the columns' own blocks -/
def Xc (S : Nat → Value) : Nat → Prop := fun k => ∃ i, i < 12 ∧ (S i).ownBlock = some k
theorem Cs.lt {w : World} {cb n : Nat} {C : Nat → Nat → Int} {S : Nat → Value} (h : Cs w cb n C S) : cb < w.heap.size := cell_lt (a := ⟨cb, 0, none⟩) (h.hd 0 (by omega))
theorem Cs.xlt {w : World} {cb n : Nat} {C : Nat → Nat → Int} {S : Nat → Value} (h : Cs w cb n C S) {b : Nat} (hb : Xc S b) : cb < b ∧ b < w.heap.size := by
  obtain ⟨i, hi, e⟩ := hb
  have := (h.own i hi).lt b e
  have := h.ncb i hi b e
  omega
theorem Cs.below {w w' : World} {cb n : Nat} {C : Nat → Nat → Int} {S : Nat → Value} (h : Cs w cb n C S) (hb : Below w.heap.size w w') : Cs w' cb n C S :=
  ⟨fun i hi => (hb.cell (p := ⟨cb, i, none⟩) h.lt).trans (h.hd i hi), fun i hi => (hb.frozen (p := ⟨cb, i, none⟩) h.lt).trans (h.nf i hi), fun i hi => (h.own i hi).below hb, h.ncb, h.dis⟩
theorem Cs.sm {w w' : World} {B cb n : Nat} {C : Nat → Nat → Int} {S : Nat → Value} (h : Cs w cb n C S) (hs : Sm B w w') : Cs w' cb n C S :=
  ⟨fun i hi => hs.cell (h.hd i hi), fun i hi => hs.frozen (h.hd i hi) (h.nf i hi), fun i hi => (h.own i hi).sm hs, h.ncb, h.dis⟩
theorem Cs.frame {X : Nat → Prop} {w w' : World} {cb n : Nat} {C : Nat → Nat → Int} {S : Nat → Value} (h : Cs w cb n C S) (hs : Fr X w w') (h0 : ¬ X cb) (hX : ∀ b, Xc S b → ¬ X b) : Cs w' cb n C S :=
  ⟨fun i hi => (hs.cell (p := ⟨cb, i, none⟩) h.lt h0).trans (h.hd i hi), fun i hi => (hs.frozen (p := ⟨cb, i, none⟩) h.lt h0).trans (h.nf i hi), fun i hi => (h.own i hi).frame hs fun b hb => hX b ⟨i, hi, hb⟩, h.ncb, h.dis⟩
theorem Cs.congr {w : World} {cb n : Nat} {C C' : Nat → Nat → Int} {S : Nat → Value} (h : Cs w cb n C S) (e : ∀ i k, i < 12 → k < n → C i k = C' i k) : Cs w cb n C' S :=
  ⟨h.hd, h.nf, fun i hi => (h.own i hi).congr fun q hq => e i q hi (by omega), h.ncb, h.dis⟩
/-- one number of a row -/
structure Cell1 (w : World) (cb n i k : Nat) (y : Int) (g c : Nat) : Prop where
  hd : w.cell? ⟨cb, i, none⟩ = some (.slice (some ⟨g, 0, none⟩) n c)
  at_ : w.cell? ⟨g, k, none⟩ = some (.int .i64 y)
  fro : w.frozen? ⟨g, k, none⟩ = false
  gl : g < w.heap.size
  cg : cb < g
theorem Cs.at {w : World} {cb n : Nat} {C : Nat → Nat → Int} {S : Nat → Value} (h : Cs w cb n C S) {i k : Nat} (hi : i < 12) (hk : k < n) : ∃ g c, S i = .slice (some ⟨g, 0, none⟩) n c ∧ Cell1 w cb n i k (C i k) g c := by
  obtain ⟨g, c, e⟩ := (h.own i hi).some (by omega)
  have ho := h.own i hi
  have hh := h.hd i hi
  rw [e] at ho hh
  have hl := h.xlt (b := g) ⟨i, hi, by rw [e]; rfl⟩
  exact ⟨g, c, e, hh, ho.at1 hk, ho.fro k, hl.2, hl.1⟩
/-- a number of a row is set -/
def setC (C : Nat → Nat → Int) (i k : Nat) (y : Int) : Nat → Nat → Int := fun i' k' => if i' = i ∧ k' = k then y else C i' k'
theorem Cs.set {w : World} {cb n : Nat} {C : Nat → Nat → Int} {S : Nat → Value} (h : Cs w cb n C S) {i k g c : Nat} (hi : i < 12) (hk : k < n) (e : S i = .slice (some ⟨g, 0, none⟩) n c) (y : Int) : Cs (w.setCell ⟨g, k, none⟩ (.int .i64 y)) cb n (setC C i k y) S := by
  have hx : Xc S g := ⟨i, hi, by rw [e]; rfl⟩
  have hl := h.xlt hx
  have hf : Fr (fun b => b = g) w (w.setCell ⟨g, k, none⟩ (.int .i64 y)) := Fr.setCell (X := fun b => b = g) rfl _
  refine ⟨fun j hj => (hf.cell (p := ⟨cb, j, none⟩) h.lt (by show ¬ cb = g; omega)).trans (h.hd j hj), fun j hj => (hf.frozen (p := ⟨cb, j, none⟩) h.lt (by show ¬ cb = g; omega)).trans (h.nf j hj), fun j hj => ?_, h.ncb, h.dis⟩
  by_cases eij : j = i
  · subst eij
    have ho := h.own j hj
    rw [e] at ho ⊢
    exact (ho.put hk y).congr fun q _ => by by_cases eq : q = k <;> simp [setC, eq]
  · refine ((h.own j hj).frame hf fun b hb eb => ?_).congr fun q _ => by simp [setC, eij]
    subst eb
    exact h.dis i j hi hj (Ne.symm eij) b (by rw [e]; rfl) hb
end Go.Proofs.YthfodocnehahcaaGreatDoor
namespace Go.Proofs.YthfodocnehahcaaGreatDoor
open Go.RowKit
set_option linter.unusedVariables false
section
variable {P : Program} {md : Region.Mode} {ops : Array Oper} {Q : Exit → Act → World → Prop} {S : World → Prop}
theorem tq (i : Nat) {o1 o2 o3 o4 o5 o6} {v : Value} {fuel : Nat} {listed : Array Bool} {a a' : Act} {w : World} (hS : S w)
    (h : wpAnyH P md ops Q S fuel (listed.setIfInBounds i true) a' w)
    (hi : ops[i]? = some (Oper.mk o1 o2 o3 o4 o5 o6) := by rfl)
    (hc : (Region.noSelect ops && (Region.free md ops listed i && (Region.ready md ops listed).contains i)) = true := by kernel_rfl)
    (hQ : ∀ c a w, Q (.panic c) (a.put (Oper.mk o1 o2 o3 o4 o5 o6).dst v) w → Q (.panic c) a w := by exact fun _ _ _ h => h)
    (hw : Region.wanted (Oper.mk o1 o2 o3 o4 o5 o6) (yielded ops a.tmps) = true := by rfl)
    (hv : ∀ w, S w → (execOp a.eval (Oper.mk o1 o2 o3 o4 o5 o6)).run P w = .ok (.value v) w := by (intro w s; (try dsimp only at s); go_simp; (try with_reducible rfl)))
    (he : a.put (Oper.mk o1 o2 o3 o4 o5 o6).dst v = a' := by ((try simp only [Act.put, List.setIfInBounds_toArray, List.set_cons_zero, List.set_cons_succ]); (try with_reducible rfl))) :
    wpAnyH P md ops Q S (fuel + 1) listed a w := by
  subst he
  simp only [Bool.and_eq_true] at hc
  exact wpAnyH_take hi hc.1 hc.2.1 hc.2.2 hQ (.inl ⟨hw, hv⟩) hS h
theorem tn (i : Nat) {o1 o2 o3 o4 o5 o6} {fuel : Nat} {listed : Array Bool} {a a' : Act} {w : World} (hS : S w)
    (h : wpAnyH P md ops Q S fuel (listed.setIfInBounds i true) a' w)
    (hi : ops[i]? = some (Oper.mk o1 o2 o3 o4 o5 o6) := by rfl)
    (hc : (Region.noSelect ops && (Region.free md ops listed i && (Region.ready md ops listed).contains i)) = true := by kernel_rfl)
    (hQ : ∀ c a w, Q (.panic c) (a.put (Oper.mk o1 o2 o3 o4 o5 o6).dst undef) w → Q (.panic c) a w := by exact fun _ _ _ h => h)
    (hw : Region.wanted (Oper.mk o1 o2 o3 o4 o5 o6) (yielded ops a.tmps) = false := by rfl)
    (he : a.put (Oper.mk o1 o2 o3 o4 o5 o6).dst undef = a' := by ((try simp only [Act.put, List.setIfInBounds_toArray, List.set_cons_zero, List.set_cons_succ]); (try with_reducible rfl))) :
    wpAnyH P md ops Q S (fuel + 1) listed a w := by
  subst he
  simp only [Bool.and_eq_true] at hc
  exact wpAnyH_take hi hc.1 hc.2.1 hc.2.2 hQ (.inr ⟨hw, rfl⟩) hS h
end
section
variable {P : Program} {md : Region.Mode} {ops : Array Oper} {Q : Exit → Act → World → Prop} {S : World → Prop}
/-- one alone may come up: a call, a store -/
theorem tc (i : Nat) {o1 o2 o3 o4 o5 o6} {fuel : Nat} {listed : Array Bool} {a : Act} {w : World}
    (h : ∀ K' : Act → World → Prop, Shut (∀ a w, S w → (S w → wpAnyH P md ops Q S fuel (listed.setIfInBounds i true) a w) → K' a w) → if Region.wanted (Oper.mk o1 o2 o3 o4 o5 o6) (yielded ops a.tmps) = true then Oper.wp P (Oper.mk o1 o2 o3 o4 o5 o6) a w K' Q else K' (a.put (Oper.mk o1 o2 o3 o4 o5 o6).dst undef) w)
    (hr : Region.ready md ops listed = [i] := by kernel_rfl)
    (hi : ops[i]? = some (Oper.mk o1 o2 o3 o4 o5 o6) := by rfl) :
    wpAnyH P md ops Q S (fuel + 1) listed a w := wpAnyH_ready hr (by simp) (AllReadyH.cons hi h AllReadyH.nil)
/-- back into the region behind it -/
theorem tr {K : Act → World → Prop} {fuel : Nat} {listed : Array Bool} (hK : Shut (∀ a w, S w → (S w → wpAnyH P md ops Q S fuel listed a w) → K a w)) {a a' : Act} {w : World}
    (h : S w → wpAnyH P md ops Q S fuel listed a' w)
    (hS : S w := by ((try dsimp only); (first | (go_simp; done) | (go_keep; done))))
    (he : a = a' := by ((try simp only [Act.put, List.setIfInBounds_toArray, List.set_cons_zero, List.set_cons_succ]); (try with_reducible rfl))) : K a w := by
  subst he
  exact hK.out _ _ hS h
end
end Go.Proofs.YthfodocnehahcaaGreatDoor
namespace Go.Proofs.YthfodocnehahcaaGreatDoor
open Go.RowKit
set_option linter.unusedVariables false
section
variable {P : Program} {md : Region.Mode} {ops : Array Oper} {Q : Exit → Act → World → Prop} {S : World → Prop}
theorem td (i j : Nat) {o1 o2 o3 o4 o5 o6 p1 p2 p3 p4 p5 p6} {v u : Value} {fuel : Nat} {listed : Array Bool} {a a' : Act} {w w1 : World} (hS : S w)
    (h : S w1 → wpAnyH P md ops Q S fuel ((listed.setIfInBounds i true).setIfInBounds j true) a' w1)
    (hr : (Region.ready md ops listed = [i, j] ∧ Region.ready md ops (listed.setIfInBounds i true) = [j] ∧ Region.ready md ops (listed.setIfInBounds j true) = [i]) := by exact ⟨by kernel_rfl, by kernel_rfl, by kernel_rfl⟩)
    (hi : ops[i]? = some (Oper.mk o1 o2 o3 o4 o5 o6) := by rfl) (hj : ops[j]? = some (Oper.mk p1 p2 p3 p4 p5 p6) := by rfl)
    (hc : (Region.noSelect ops && ((Oper.mk o1 o2 o3 o4 o5 o6).apart ops (Oper.mk p1 p2 p3 p4 p5 p6) && (i != j))) = true := by kernel_rfl)
    (wi : Region.wanted (Oper.mk o1 o2 o3 o4 o5 o6) (yielded ops a.tmps) = true := by rfl) (wj : Region.wanted (Oper.mk p1 p2 p3 p4 p5 p6) (yielded ops a.tmps) = true := by rfl)
    (vi : (execOp a.eval (Oper.mk o1 o2 o3 o4 o5 o6)).run P w = .ok (.value v) w := by (go_simp; (try with_reducible rfl)))
    (vj : (execOp a.eval (Oper.mk p1 p2 p3 p4 p5 p6)).run P w = .ok (.value u) w1 := by (go_simp; (first | done | exact ⟨rfl, rfl⟩ | with_reducible rfl)))
    (vi1 : (execOp a.eval (Oper.mk o1 o2 o3 o4 o5 o6)).run P w1 = .ok (.value v) w1 := by (go_simp; (try with_reducible rfl)))
    (hS1 : S w1 := by ((try dsimp only); (first | (go_simp; done) | (go_keep; done))))
    (he : (a.put (Oper.mk o1 o2 o3 o4 o5 o6).dst v).put (Oper.mk p1 p2 p3 p4 p5 p6).dst u = a' := by ((try simp only [Act.put, List.setIfInBounds_toArray, List.set_cons_zero, List.set_cons_succ]); (try with_reducible rfl))) :
    wpAnyH P md ops Q S (fuel + 2) listed a w := by
  subst he
  simp only [Bool.and_eq_true] at hc
  obtain ⟨h1, h2, h3⟩ := Oper.apart_spec hc.2.1
  have hne : i ≠ j := by simpa using hc.2.2
  have hsel := Region.noSelect_spec hc.1
  obtain ⟨r0, r1, r2⟩ := hr
  refine ⟨fun e => (by rw [r0] at e; cases e), fun x hx => ?_⟩
  rw [r0] at hx
  rcases List.mem_cons.1 hx with rfl | hx
  · unfold wpOp
    rw [hi]
    simp only [wi, if_true]
    refine .inl ?_
    simp only [Oper.wp, vi, Oper.upon]
    refine ⟨hS, ⟨fun e => (by rw [r1] at e; cases e), fun y hy => ?_⟩⟩
    rw [r1] at hy
    obtain rfl := List.mem_singleton.1 hy
    unfold wpOp
    rw [hj]
    simp only [wanted_put _ a _ v h1, wj, if_true]
    refine .inl ?_
    rw [Oper.wp, execOp_put _ (fun cs b => hsel _ _ cs b hj) a _ v h1, vj]
    exact ⟨hS1, h hS1⟩
  · obtain rfl := List.mem_singleton.1 hx
    unfold wpOp
    rw [hj]
    simp only [wj, if_true]
    refine .inl ?_
    simp only [Oper.wp, vj, Oper.upon]
    refine ⟨hS1, ⟨fun e => (by rw [r2] at e; cases e), fun y hy => ?_⟩⟩
    rw [r2] at hy
    obtain rfl := List.mem_singleton.1 hy
    unfold wpOp
    rw [hi]
    simp only [wanted_put _ a _ u h3, wi, if_true]
    refine .inl ?_
    rw [Oper.wp, execOp_put _ (fun cs b => hsel _ _ cs b hi) a _ u h3, vi1]
    refine ⟨hS1, ?_⟩
    have := h hS1
    rw [Array.setIfInBounds_comm _ _ hne, Act.put_comm a v u h2] at this
    exact this
end
end Go.Proofs.YthfodocnehahcaaGreatDoor
namespace Go.Proofs.YthfodocnehahcaaGreatDoor
open Go.RowKit
set_option linter.unusedVariables false
set_option linter.unusedSimpArgs false

abbrev bodyV (V : Nat → Int) : Value := .agg #[.int .i64 (V 0), .int .i64 (V 1), .int .i64 (V 2), .int .i64 (V 3), .int .i64 (V 4), .int .i64 (V 5), .int .i64 (V 6), .int .i64 (V 7), .int .i64 (V 8), .int .i64 (V 9), .int .i64 (V 10), .int .i64 (V 11)]
/-- so many columns have one number more -/
structure AddN (w wx : World) (cb n : Nat) (C : Nat → Nat → Int) (V : Nat → Int) (S : Nat → Value) (k : Nat) (S' : Nat → Value) : Prop where
  body : ∀ j, j < 12 → wx.cell? ⟨w.heap.size, j, none⟩ = some (.int .i64 (V j))
  hd : ∀ i, i < 12 → wx.cell? ⟨cb, i, none⟩ = some (S' i)
  nf : ∀ i, i < 12 → wx.frozen? ⟨cb, i, none⟩ = false
  did : ∀ i, i < k → OwnL wx cb 57 1 (S' i) (n + 1) (snoc n (C i) (V i))
  todo : ∀ i, k ≤ i → i < 12 → S' i = S i ∧ OwnL wx cb 57 1 (S i) n (C i)
  dis : ∀ i j, i < 12 → j < 12 → i ≠ j → ∀ b, (S' i).ownBlock = some b → (S' j).ownBlock ≠ some b
  ncb : ∀ i, i < 12 → ∀ b, (S' i).ownBlock = some b → b ≠ cb ∧ b ≠ w.heap.size
  fr : Fr (fun k => k = cb ∨ Xc S k) w wx
  big : w.heap.size < wx.heap.size
theorem OwnL.alloc' {w : World} {base t k n : Nat} {v : Value} {U : Nat → Int} (h : OwnL w base t k v n U) (o : Obj) : OwnL (w.alloc o).drew base t k v n U := World.ownsRow.drew (World.ownsRow.alloc h o)
theorem AddN.own {w wx : World} {cb n k : Nat} {C : Nat → Nat → Int} {V : Nat → Int} {S S' : Nat → Value} (h : AddN w wx cb n C V S k S') {i : Nat} (hi : i < 12) : ∃ m U, OwnL wx cb 57 1 (S' i) m U := by
  by_cases e : i < k
  · exact ⟨_, _, h.did i e⟩
  · obtain ⟨e1, e2⟩ := h.todo i (by omega) hi
    rw [e1]
    exact ⟨_, _, e2⟩
theorem AddN.step {w wx w1 : World} {cb n k g cap : Nat} {C : Nat → Nat → Int} {V : Nat → Int} {S S' : Nat → Value} {o : Obj} (h : AddN w wx cb n C V S k S') (hk : k < 12) (hcb : cb < w.heap.size)
    (ho : OwnL w1 cb 57 1 (.slice (some ⟨g, 0, none⟩) (n + 1) cap) (n + 1) (snoc n (C k) (V k))) (hg : (wx.alloc o).drew.grownBy w1 (S k).ownBlock) (hor : (S k).ownBlock = some g ∨ g = wx.heap.size + 1) (hlt : g < w1.heap.size) :
    w1.cell? ⟨w.heap.size, k, none⟩ = some (.int .i64 (V k)) ∧ w1.cell? ⟨cb, k, none⟩ = some (S k) ∧ w1.frozen? ⟨cb, k, none⟩ = false ∧
    AddN w (w1.setCell ⟨cb, k, none⟩ (.slice (some ⟨g, 0, none⟩) (n + 1) cap)) cb n C V S (k + 1) (fun i => if i = k then .slice (some ⟨g, 0, none⟩) (n + 1) cap else S' i) := by
  obtain ⟨es, ok⟩ := h.todo k (Nat.le_refl _) hk
  have big := h.big
  have sz : (wx.alloc o).drew.heap.size = wx.heap.size + 1 := by simp
  have hne : ∀ b, (S k).ownBlock = some b → b ≠ cb ∧ b ≠ w.heap.size := fun b hb => h.ncb k hk b (by rw [es]; exact hb)
  have hX : ∀ b, (S k).ownBlock = some b → Xc S b := fun b hb => ⟨k, hk, hb⟩
  have hblk : ∀ b, b < wx.heap.size → (S k).ownBlock ≠ some b → w1.heap[b]? = wx.heap[b]? := fun b hb hn => (hg.block b (by omega) (Ne.symm hn)).trans (Below.heap_alloc _ _ _ hb)
  have F0 : Fr (fun x => x = cb ∨ Xc S x) wx (wx.alloc o).drew := Fr.of_below (Below.drew ((Below.refl _ _).alloc (Nat.le_refl _) _))
  have F1 : Fr (fun x => x = cb ∨ Xc S x) (wx.alloc o).drew w1 := Fr.grown hg (fun b hb => .inr (hX b hb)) (OwnL.isCells (ok.alloc' o))
  have F2 : Fr (fun x => x = cb ∨ Xc S x) w1 (w1.setCell ⟨cb, k, none⟩ (.slice (some ⟨g, 0, none⟩) (n + 1) cap)) := Fr.setCell (.inl rfl) _
  have cbl : cb < wx.heap.size := by omega
  have bcb : w1.heap[cb]? = wx.heap[cb]? := hblk cb cbl (fun e => (hne cb e).1 rfl)
  have bbd : w1.heap[w.heap.size]? = wx.heap[w.heap.size]? := hblk _ big (fun e => (hne _ e).2 rfl)
  have gcb : g ≠ cb ∧ g ≠ w.heap.size := by
    rcases hor with q | q
    · exact hne g q
    · omega
  have gS : ∀ i, i < 12 → i ≠ k → (S' i).ownBlock ≠ some g := fun i hi hik e => by
    rcases hor with q | q
    · exact h.dis i k hi hk hik g e (by rw [es]; exact q)
    · obtain ⟨m, U, oo⟩ := h.own hi
      have := (oo.lt g e).2
      omega
  have keep : ∀ i, i < 12 → i ≠ k → ∀ {m U}, OwnL wx cb 57 1 (S' i) m U → OwnL (w1.setCell ⟨cb, k, none⟩ (.slice (some ⟨g, 0, none⟩) (n + 1) cap)) cb 57 1 (S' i) m U := fun i hi hik m U oo => by
    refine OwnL.frame (X := fun x => x = cb ∨ (S k).ownBlock = some x) (oo.alloc' o) ((Fr.grown hg (fun b hb => .inr hb) (OwnL.isCells (ok.alloc' o))).trans (Fr.setCell (.inl rfl) _)) (fun b hb q => ?_)
    rcases q with q | q
    · exact (h.ncb i hi b hb).1 q
    · exact h.dis i k hi hk hik b hb (by rw [es]; exact q)
  refine ⟨(World.cell?_of_block bbd).trans (h.body k hk), (World.cell?_of_block bcb).trans ((h.hd k hk).trans (by rw [es])), (World.frozen?_of_block bcb).trans (h.nf k hk), ?_⟩
  have hk1 : w1.cell? ⟨cb, k, none⟩ = some (S k) := (World.cell?_of_block bcb).trans ((h.hd k hk).trans (by rw [es]))
  refine ⟨fun j hj => ?_, fun i hi => ?_, fun i hi => ?_, fun i hi => ?_, fun i hi hi' => ?_, fun i j hi hj hij b => ?_, fun i hi b => ?_, ((h.fr.trans F0).trans F1).trans F2, ?_⟩
  · rw [cset_far (by simp; omega)]
    exact (World.cell?_of_block (a := ⟨w.heap.size, j, none⟩) bbd).trans (h.body j hj)
  · by_cases e : i = k
    · subst e
      simp only [if_pos]
      exact cset_same hk1
    · simp only [if_neg e]
      rw [cset_other (by intro q; injection q with _ q; exact e q.symm)]
      exact (World.cell?_of_block (a := ⟨cb, i, none⟩) bcb).trans (h.hd i hi)
  · rw [World.frozen?_setCell]
    exact (World.frozen?_of_block (a := ⟨cb, i, none⟩) bcb).trans (h.nf i hi)
  · by_cases e : i = k
    · subst e
      simp only [if_pos]
      refine OwnL.frame (X := fun x => x = cb) ho (Fr.setCell (X := fun x => x = cb) rfl _) (fun b hb q => ?_)
      simp only [Value.ownBlock, Option.some.injEq] at hb
      omega
    · simp only [if_neg e]
      exact keep i (by omega) e (h.did i (by omega))
  · have e : i ≠ k := by omega
    obtain ⟨q1, q2⟩ := h.todo i (by omega) hi'
    simp only [if_neg e]
    refine ⟨q1, ?_⟩
    have := keep i hi' e (m := n) (U := C i) (by rw [q1]; exact q2)
    rw [q1] at this
    exact this
  · by_cases e : i = k
    · subst e
      have e2 : ¬ j = i := Ne.symm hij
      simp only [if_pos, if_neg e2]
      intro hb
      simp only [Value.ownBlock, Option.some.injEq] at hb
      subst hb
      exact gS j hj e2
    · by_cases e2 : j = k
      · subst e2
        simp only [if_pos, if_neg e]
        intro hb q
        simp only [Value.ownBlock, Option.some.injEq] at q
        subst q
        exact gS i hi e hb
      · simp only [if_neg e, if_neg e2]
        exact h.dis i j hi hj hij b
  · by_cases e : i = k
    · subst e
      simp only [if_pos]
      intro hb
      simp only [Value.ownBlock, Option.some.injEq] at hb
      subst hb
      exact gcb
    · simp only [if_neg e]
      exact h.ncb i hi b
  · have := F1.size
    simp
    omega
theorem AddN.start {w wx : World} {cb n : Nat} {C : Nat → Nat → Int} {V : Nat → Int} {S : Nat → Value} (h : Cs w cb n C S) (hb : Below w.heap.size w wx) (hbody : ∀ j, j < 12 → wx.cell? ⟨w.heap.size, j, none⟩ = some (.int .i64 (V j))) (big : w.heap.size < wx.heap.size) : AddN w wx cb n C V S 0 S := by
  have h' := h.below hb
  exact ⟨hbody, h'.hd, h'.nf, fun i hi => absurd hi (by omega), fun i _ hi => ⟨rfl, h'.own i hi⟩, h.dis, fun i hi b hb => ⟨h.ncb i hi b hb, by have := h.xlt (b := b) ⟨i, hi, hb⟩; omega⟩, Fr.of_below hb, big⟩
/-- a body more -/
def snocC (n : Nat) (C : Nat → Nat → Int) (V : Nat → Int) : Nat → Nat → Int := fun i => snoc n (C i) (V i)
theorem AddN.cs {w wx : World} {cb n : Nat} {C : Nat → Nat → Int} {V : Nat → Int} {S S' : Nat → Value} (h : AddN w wx cb n C V S 12 S') : Cs wx cb (n + 1) (snocC n C V) S' :=
  ⟨h.hd, h.nf, h.did, fun i hi b hb => (h.ncb i hi b hb).1, h.dis⟩
set_option maxRecDepth 20000 in
set_option maxHeartbeats 8000000 in
theorem add_any (cb n : Nat) (C : Nat → Nat → Int) (V : Nat → Int) (S : Nat → Value) (w : World) (h : Cs w cb n C S) (hn : n ≤ 1048576) :
    Calls Tryz.prog 55 #[.pointer (some ⟨cb, 0, none⟩), bodyV V] w fun e w' => e = .returned (.tuple #[]) ∧ ∃ S', Cs w' cb (n + 1) (snocC n C V) S' ∧ Fr (fun k => k = cb ∨ Xc S k) w w' := by
  have hset := cset_map
  have hcb := h.lt
  go_enter Tryz.func55, Tryz.ntmps55
  go_upto_region 1 with fail
  have h0 : AddN w (w.alloc (.cells #[.int .i64 (V 0), .int .i64 (V 1), .int .i64 (V 2), .int .i64 (V 3), .int .i64 (V 4), .int .i64 (V 5), .int .i64 (V 6), .int .i64 (V 7), .int .i64 (V 8), .int .i64 (V 9), .int .i64 (V 10), .int .i64 (V 11)] 39)) cb n C V S 0 S := AddN.start h (bel_a) (by intro j hj; rcases (show j = 0 ∨ j = 1 ∨ j = 2 ∨ j = 3 ∨ j = 4 ∨ j = 5 ∨ j = 6 ∨ j = 7 ∨ j = 8 ∨ j = 9 ∨ j = 10 ∨ j = 11 by omega) with rfl | rfl | rfl | rfl | rfl | rfl | rfl | rfl | rfl | rfl | rfl | rfl <;> go_simp) (by simp)
  clear h
  generalize (w.alloc (.cells #[.int .i64 (V 0), .int .i64 (V 1), .int .i64 (V 2), .int .i64 (V 3), .int .i64 (V 4), .int .i64 (V 5), .int .i64 (V 6), .int .i64 (V 7), .int .i64 (V 8), .int .i64 (V 9), .int .i64 (V 10), .int .i64 (V 11)] 39)) = wx0 at h0 ⊢
  have b0 := h0.body 0 (by omega)
  obtain ⟨e0, o0⟩ := h0.todo 0 (by omega) (by omega)
  have c0 := h0.hd 0 (by omega)
  rw [e0] at c0
  clear e0
  have f0 := h0.nf 0 (by omega)
  have z0 := h0.big
  have l0 : cb < wx0.heap.size := by omega
  go_cut [] (fun wc => ∃ S', AddN w wc cb n C V S 1 S')
  case first =>
    refine wp_region_held_drew (S := fun w' => w'.cell? ⟨w.heap.size, 0, none⟩ = some (.int .i64 (V 0))) (by kernel_rfl) ?_ (fun hHeld => ?_)
    · (try dsimp only)
      (first | (go_simp; done) | (go_keep; done))
    refine tq 0 hHeld ?_
    refine tq 1 hHeld ?_
    refine tq 2 hHeld ?_
    refine tq 3 hHeld ?_
    refine tq 5 hHeld ?_
    refine tq 6 hHeld ?_
    refine td 4 7 hHeld (fun hHeld => ?_)
    refine tc 8 fun K hK => ?_
    refine step_app1 (by rfl) _ _ _ (by rfl) cb 57 (.int .i64 0) Tryz.underlying58 (by kernel_rfl) (by rfl) (S 0) n (C 0) (by rfl) (o0.alloc' _) wx0.heap.size _ (V 0) (by rfl) (by go_simp) hn (by simp; omega) (wx0.heap.size + 1) (by simp) ?_
    intro g cap w1 ho hg hor hlt
    obtain ⟨qb, qc, qf, hst⟩ := AddN.step h0 (by omega) hcb ho hg hor hlt
    refine tr hK (fun hHeld => ?_) (by (try dsimp only); exact qb)
    clear hK K
    refine tq 9 hHeld ?_
    refine tq 10 hHeld ?_
    (refine tc 11 fun K hK => ?_; go_simp; refine tr hK (fun hHeld => ?_) (by (try dsimp only); exact (cset_far (by simp; omega)).trans qb); clear hK K)
    refine wpAnyH_done (by kernel_rfl) ?_ _
    go_wp2_with fail
    go_meet
    exact ⟨_, hst⟩
  case rest =>
  obtain ⟨S1, h1⟩ := hcut
  clear b0 o0 c0 f0 z0 l0 h0
  go_upto_region 2 with fail
  have b0 := h1.body 1 (by omega)
  obtain ⟨e0, o0⟩ := h1.todo 1 (by omega) (by omega)
  have c0 := h1.hd 1 (by omega)
  rw [e0] at c0
  clear e0
  have f0 := h1.nf 1 (by omega)
  have z0 := h1.big
  have l0 : cb < wc.heap.size := by omega
  go_cut [] (fun wc => ∃ S', AddN w wc cb n C V S 2 S')
  case first =>
    refine wp_region_held_drew (S := fun w' => w'.cell? ⟨w.heap.size, 1, none⟩ = some (.int .i64 (V 1))) (by kernel_rfl) ?_ (fun hHeld => ?_)
    · (try dsimp only)
      (first | (go_simp; done) | (go_keep; done))
    refine tq 0 hHeld ?_
    refine tq 1 hHeld ?_
    refine tq 2 hHeld ?_
    refine tq 3 hHeld ?_
    refine tq 5 hHeld ?_
    refine tq 6 hHeld ?_
    refine tq 7 hHeld ?_
    refine td 4 8 hHeld (fun hHeld => ?_)
    refine tc 9 fun K hK => ?_
    refine step_app1 (by rfl) _ _ _ (by rfl) cb 57 (.int .i64 0) Tryz.underlying58 (by kernel_rfl) (by rfl) (S 1) n (C 1) (by rfl) (o0.alloc' _) wc.heap.size _ (V 1) (by rfl) (by go_simp) hn (by simp; omega) (wc.heap.size + 1) (by simp) ?_
    intro g cap w1 ho hg hor hlt
    obtain ⟨qb, qc, qf, hst⟩ := AddN.step h1 (by omega) hcb ho hg hor hlt
    refine tr hK (fun hHeld => ?_) (by (try dsimp only); exact qb)
    clear hK K
    refine tq 10 hHeld ?_
    refine tq 11 hHeld ?_
    (refine tc 12 fun K hK => ?_; go_simp; refine tr hK (fun hHeld => ?_) (by (try dsimp only); exact (cset_far (by simp; omega)).trans qb); clear hK K)
    refine wpAnyH_done (by kernel_rfl) ?_ _
    go_wp2_with fail
    go_meet
    exact ⟨_, hst⟩
  case rest =>
  obtain ⟨S2, h2⟩ := hcut
  clear b0 o0 c0 f0 z0 l0 h1
  go_upto_region 3 with fail
  have b0 := h2.body 2 (by omega)
  obtain ⟨e0, o0⟩ := h2.todo 2 (by omega) (by omega)
  have c0 := h2.hd 2 (by omega)
  rw [e0] at c0
  clear e0
  have f0 := h2.nf 2 (by omega)
  have z0 := h2.big
  have l0 : cb < wc.heap.size := by omega
  go_cut [] (fun wc => ∃ S', AddN w wc cb n C V S 3 S')
  case first =>
    refine wp_region_held_drew (S := fun w' => w'.cell? ⟨w.heap.size, 2, none⟩ = some (.int .i64 (V 2))) (by kernel_rfl) ?_ (fun hHeld => ?_)
    · (try dsimp only)
      (first | (go_simp; done) | (go_keep; done))
    refine tq 0 hHeld ?_
    refine tq 1 hHeld ?_
    refine tq 2 hHeld ?_
    refine tq 3 hHeld ?_
    refine tq 5 hHeld ?_
    refine tq 6 hHeld ?_
    refine tq 7 hHeld ?_
    refine td 4 8 hHeld (fun hHeld => ?_)
    refine tc 9 fun K hK => ?_
    refine step_app1 (by rfl) _ _ _ (by rfl) cb 57 (.int .i64 0) Tryz.underlying58 (by kernel_rfl) (by rfl) (S 2) n (C 2) (by rfl) (o0.alloc' _) wc.heap.size _ (V 2) (by rfl) (by go_simp) hn (by simp; omega) (wc.heap.size + 1) (by simp) ?_
    intro g cap w1 ho hg hor hlt
    obtain ⟨qb, qc, qf, hst⟩ := AddN.step h2 (by omega) hcb ho hg hor hlt
    refine tr hK (fun hHeld => ?_) (by (try dsimp only); exact qb)
    clear hK K
    refine tq 10 hHeld ?_
    refine tq 11 hHeld ?_
    (refine tc 12 fun K hK => ?_; go_simp; refine tr hK (fun hHeld => ?_) (by (try dsimp only); exact (cset_far (by simp; omega)).trans qb); clear hK K)
    refine wpAnyH_done (by kernel_rfl) ?_ _
    go_wp2_with fail
    go_meet
    exact ⟨_, hst⟩
  case rest =>
  obtain ⟨S3, h3⟩ := hcut
  clear b0 o0 c0 f0 z0 l0 h2
  go_upto_region 4 with fail
  have b0 := h3.body 3 (by omega)
  obtain ⟨e0, o0⟩ := h3.todo 3 (by omega) (by omega)
  have c0 := h3.hd 3 (by omega)
  rw [e0] at c0
  clear e0
  have f0 := h3.nf 3 (by omega)
  have z0 := h3.big
  have l0 : cb < wc.heap.size := by omega
  go_cut [] (fun wc => ∃ S', AddN w wc cb n C V S 4 S')
  case first =>
    refine wp_region_held_drew (S := fun w' => w'.cell? ⟨w.heap.size, 3, none⟩ = some (.int .i64 (V 3))) (by kernel_rfl) ?_ (fun hHeld => ?_)
    · (try dsimp only)
      (first | (go_simp; done) | (go_keep; done))
    refine tq 0 hHeld ?_
    refine tq 1 hHeld ?_
    refine tq 2 hHeld ?_
    refine tq 3 hHeld ?_
    refine tq 5 hHeld ?_
    refine tq 6 hHeld ?_
    refine tq 7 hHeld ?_
    refine td 4 8 hHeld (fun hHeld => ?_)
    refine tc 9 fun K hK => ?_
    refine step_app1 (by rfl) _ _ _ (by rfl) cb 57 (.int .i64 0) Tryz.underlying58 (by kernel_rfl) (by rfl) (S 3) n (C 3) (by rfl) (o0.alloc' _) wc.heap.size _ (V 3) (by rfl) (by go_simp) hn (by simp; omega) (wc.heap.size + 1) (by simp) ?_
    intro g cap w1 ho hg hor hlt
    obtain ⟨qb, qc, qf, hst⟩ := AddN.step h3 (by omega) hcb ho hg hor hlt
    refine tr hK (fun hHeld => ?_) (by (try dsimp only); exact qb)
    clear hK K
    refine tq 10 hHeld ?_
    refine tq 11 hHeld ?_
    (refine tc 12 fun K hK => ?_; go_simp; refine tr hK (fun hHeld => ?_) (by (try dsimp only); exact (cset_far (by simp; omega)).trans qb); clear hK K)
    refine wpAnyH_done (by kernel_rfl) ?_ _
    go_wp2_with fail
    go_meet
    exact ⟨_, hst⟩
  case rest =>
  obtain ⟨S4, h4⟩ := hcut
  clear b0 o0 c0 f0 z0 l0 h3
  go_upto_region 5 with fail
  have b0 := h4.body 4 (by omega)
  obtain ⟨e0, o0⟩ := h4.todo 4 (by omega) (by omega)
  have c0 := h4.hd 4 (by omega)
  rw [e0] at c0
  clear e0
  have f0 := h4.nf 4 (by omega)
  have z0 := h4.big
  have l0 : cb < wc.heap.size := by omega
  go_cut [] (fun wc => ∃ S', AddN w wc cb n C V S 5 S')
  case first =>
    refine wp_region_held_drew (S := fun w' => w'.cell? ⟨w.heap.size, 4, none⟩ = some (.int .i64 (V 4))) (by kernel_rfl) ?_ (fun hHeld => ?_)
    · (try dsimp only)
      (first | (go_simp; done) | (go_keep; done))
    refine tq 0 hHeld ?_
    refine tq 1 hHeld ?_
    refine tq 2 hHeld ?_
    refine tq 3 hHeld ?_
    refine tq 5 hHeld ?_
    refine tq 6 hHeld ?_
    refine tq 7 hHeld ?_
    refine td 4 8 hHeld (fun hHeld => ?_)
    refine tc 9 fun K hK => ?_
    refine step_app1 (by rfl) _ _ _ (by rfl) cb 57 (.int .i64 0) Tryz.underlying58 (by kernel_rfl) (by rfl) (S 4) n (C 4) (by rfl) (o0.alloc' _) wc.heap.size _ (V 4) (by rfl) (by go_simp) hn (by simp; omega) (wc.heap.size + 1) (by simp) ?_
    intro g cap w1 ho hg hor hlt
    obtain ⟨qb, qc, qf, hst⟩ := AddN.step h4 (by omega) hcb ho hg hor hlt
    refine tr hK (fun hHeld => ?_) (by (try dsimp only); exact qb)
    clear hK K
    refine tq 10 hHeld ?_
    refine tq 11 hHeld ?_
    (refine tc 12 fun K hK => ?_; go_simp; refine tr hK (fun hHeld => ?_) (by (try dsimp only); exact (cset_far (by simp; omega)).trans qb); clear hK K)
    refine wpAnyH_done (by kernel_rfl) ?_ _
    go_wp2_with fail
    go_meet
    exact ⟨_, hst⟩
  case rest =>
  obtain ⟨S5, h5⟩ := hcut
  clear b0 o0 c0 f0 z0 l0 h4
  go_upto_region 6 with fail
  have b0 := h5.body 5 (by omega)
  obtain ⟨e0, o0⟩ := h5.todo 5 (by omega) (by omega)
  have c0 := h5.hd 5 (by omega)
  rw [e0] at c0
  clear e0
  have f0 := h5.nf 5 (by omega)
  have z0 := h5.big
  have l0 : cb < wc.heap.size := by omega
  go_cut [] (fun wc => ∃ S', AddN w wc cb n C V S 6 S')
  case first =>
    refine wp_region_held_drew (S := fun w' => w'.cell? ⟨w.heap.size, 5, none⟩ = some (.int .i64 (V 5))) (by kernel_rfl) ?_ (fun hHeld => ?_)
    · (try dsimp only)
      (first | (go_simp; done) | (go_keep; done))
    refine tq 0 hHeld ?_
    refine tq 1 hHeld ?_
    refine tq 2 hHeld ?_
    refine tq 3 hHeld ?_
    refine tq 5 hHeld ?_
    refine tq 6 hHeld ?_
    refine tq 7 hHeld ?_
    refine td 4 8 hHeld (fun hHeld => ?_)
    refine tc 9 fun K hK => ?_
    refine step_app1 (by rfl) _ _ _ (by rfl) cb 57 (.int .i64 0) Tryz.underlying58 (by kernel_rfl) (by rfl) (S 5) n (C 5) (by rfl) (o0.alloc' _) wc.heap.size _ (V 5) (by rfl) (by go_simp) hn (by simp; omega) (wc.heap.size + 1) (by simp) ?_
    intro g cap w1 ho hg hor hlt
    obtain ⟨qb, qc, qf, hst⟩ := AddN.step h5 (by omega) hcb ho hg hor hlt
    refine tr hK (fun hHeld => ?_) (by (try dsimp only); exact qb)
    clear hK K
    refine tq 10 hHeld ?_
    refine tq 11 hHeld ?_
    (refine tc 12 fun K hK => ?_; go_simp; refine tr hK (fun hHeld => ?_) (by (try dsimp only); exact (cset_far (by simp; omega)).trans qb); clear hK K)
    refine wpAnyH_done (by kernel_rfl) ?_ _
    go_wp2_with fail
    go_meet
    exact ⟨_, hst⟩
  case rest =>
  obtain ⟨S6, h6⟩ := hcut
  clear b0 o0 c0 f0 z0 l0 h5
  go_upto_region 7 with fail
  have b0 := h6.body 6 (by omega)
  obtain ⟨e0, o0⟩ := h6.todo 6 (by omega) (by omega)
  have c0 := h6.hd 6 (by omega)
  rw [e0] at c0
  clear e0
  have f0 := h6.nf 6 (by omega)
  have z0 := h6.big
  have l0 : cb < wc.heap.size := by omega
  go_cut [] (fun wc => ∃ S', AddN w wc cb n C V S 7 S')
  case first =>
    refine wp_region_held_drew (S := fun w' => w'.cell? ⟨w.heap.size, 6, none⟩ = some (.int .i64 (V 6))) (by kernel_rfl) ?_ (fun hHeld => ?_)
    · (try dsimp only)
      (first | (go_simp; done) | (go_keep; done))
    refine tq 0 hHeld ?_
    refine tq 1 hHeld ?_
    refine tq 2 hHeld ?_
    refine tq 3 hHeld ?_
    refine tq 5 hHeld ?_
    refine tq 6 hHeld ?_
    refine tq 7 hHeld ?_
    refine td 4 8 hHeld (fun hHeld => ?_)
    refine tc 9 fun K hK => ?_
    refine step_app1 (by rfl) _ _ _ (by rfl) cb 57 (.int .i64 0) Tryz.underlying58 (by kernel_rfl) (by rfl) (S 6) n (C 6) (by rfl) (o0.alloc' _) wc.heap.size _ (V 6) (by rfl) (by go_simp) hn (by simp; omega) (wc.heap.size + 1) (by simp) ?_
    intro g cap w1 ho hg hor hlt
    obtain ⟨qb, qc, qf, hst⟩ := AddN.step h6 (by omega) hcb ho hg hor hlt
    refine tr hK (fun hHeld => ?_) (by (try dsimp only); exact qb)
    clear hK K
    refine tq 10 hHeld ?_
    refine tq 11 hHeld ?_
    (refine tc 12 fun K hK => ?_; go_simp; refine tr hK (fun hHeld => ?_) (by (try dsimp only); exact (cset_far (by simp; omega)).trans qb); clear hK K)
    refine wpAnyH_done (by kernel_rfl) ?_ _
    go_wp2_with fail
    go_meet
    exact ⟨_, hst⟩
  case rest =>
  obtain ⟨S7, h7⟩ := hcut
  clear b0 o0 c0 f0 z0 l0 h6
  go_upto_region 8 with fail
  have b0 := h7.body 7 (by omega)
  obtain ⟨e0, o0⟩ := h7.todo 7 (by omega) (by omega)
  have c0 := h7.hd 7 (by omega)
  rw [e0] at c0
  clear e0
  have f0 := h7.nf 7 (by omega)
  have z0 := h7.big
  have l0 : cb < wc.heap.size := by omega
  go_cut [] (fun wc => ∃ S', AddN w wc cb n C V S 8 S')
  case first =>
    refine wp_region_held_drew (S := fun w' => w'.cell? ⟨w.heap.size, 7, none⟩ = some (.int .i64 (V 7))) (by kernel_rfl) ?_ (fun hHeld => ?_)
    · (try dsimp only)
      (first | (go_simp; done) | (go_keep; done))
    refine tq 0 hHeld ?_
    refine tq 1 hHeld ?_
    refine tq 2 hHeld ?_
    refine tq 3 hHeld ?_
    refine tq 5 hHeld ?_
    refine tq 6 hHeld ?_
    refine tq 7 hHeld ?_
    refine td 4 8 hHeld (fun hHeld => ?_)
    refine tc 9 fun K hK => ?_
    refine step_app1 (by rfl) _ _ _ (by rfl) cb 57 (.int .i64 0) Tryz.underlying58 (by kernel_rfl) (by rfl) (S 7) n (C 7) (by rfl) (o0.alloc' _) wc.heap.size _ (V 7) (by rfl) (by go_simp) hn (by simp; omega) (wc.heap.size + 1) (by simp) ?_
    intro g cap w1 ho hg hor hlt
    obtain ⟨qb, qc, qf, hst⟩ := AddN.step h7 (by omega) hcb ho hg hor hlt
    refine tr hK (fun hHeld => ?_) (by (try dsimp only); exact qb)
    clear hK K
    refine tq 10 hHeld ?_
    refine tq 11 hHeld ?_
    (refine tc 12 fun K hK => ?_; go_simp; refine tr hK (fun hHeld => ?_) (by (try dsimp only); exact (cset_far (by simp; omega)).trans qb); clear hK K)
    refine wpAnyH_done (by kernel_rfl) ?_ _
    go_wp2_with fail
    go_meet
    exact ⟨_, hst⟩
  case rest =>
  obtain ⟨S8, h8⟩ := hcut
  clear b0 o0 c0 f0 z0 l0 h7
  go_upto_region 9 with fail
  have b0 := h8.body 8 (by omega)
  obtain ⟨e0, o0⟩ := h8.todo 8 (by omega) (by omega)
  have c0 := h8.hd 8 (by omega)
  rw [e0] at c0
  clear e0
  have f0 := h8.nf 8 (by omega)
  have z0 := h8.big
  have l0 : cb < wc.heap.size := by omega
  go_cut [] (fun wc => ∃ S', AddN w wc cb n C V S 9 S')
  case first =>
    refine wp_region_held_drew (S := fun w' => w'.cell? ⟨w.heap.size, 8, none⟩ = some (.int .i64 (V 8))) (by kernel_rfl) ?_ (fun hHeld => ?_)
    · (try dsimp only)
      (first | (go_simp; done) | (go_keep; done))
    refine tq 0 hHeld ?_
    refine tq 1 hHeld ?_
    refine tq 2 hHeld ?_
    refine tq 3 hHeld ?_
    refine tq 5 hHeld ?_
    refine tq 6 hHeld ?_
    refine td 4 7 hHeld (fun hHeld => ?_)
    refine tc 8 fun K hK => ?_
    refine step_app1 (by rfl) _ _ _ (by rfl) cb 57 (.int .i64 0) Tryz.underlying58 (by kernel_rfl) (by rfl) (S 8) n (C 8) (by rfl) (o0.alloc' _) wc.heap.size _ (V 8) (by rfl) (by go_simp) hn (by simp; omega) (wc.heap.size + 1) (by simp) ?_
    intro g cap w1 ho hg hor hlt
    obtain ⟨qb, qc, qf, hst⟩ := AddN.step h8 (by omega) hcb ho hg hor hlt
    refine tr hK (fun hHeld => ?_) (by (try dsimp only); exact qb)
    clear hK K
    refine tq 9 hHeld ?_
    refine tq 10 hHeld ?_
    (refine tc 11 fun K hK => ?_; go_simp; refine tr hK (fun hHeld => ?_) (by (try dsimp only); exact (cset_far (by simp; omega)).trans qb); clear hK K)
    refine wpAnyH_done (by kernel_rfl) ?_ _
    go_wp2_with fail
    go_meet
    exact ⟨_, hst⟩
  case rest =>
  obtain ⟨S9, h9⟩ := hcut
  clear b0 o0 c0 f0 z0 l0 h8
  go_upto_region 10 with fail
  have b0 := h9.body 9 (by omega)
  obtain ⟨e0, o0⟩ := h9.todo 9 (by omega) (by omega)
  have c0 := h9.hd 9 (by omega)
  rw [e0] at c0
  clear e0
  have f0 := h9.nf 9 (by omega)
  have z0 := h9.big
  have l0 : cb < wc.heap.size := by omega
  go_cut [] (fun wc => ∃ S', AddN w wc cb n C V S 10 S')
  case first =>
    refine wp_region_held_drew (S := fun w' => w'.cell? ⟨w.heap.size, 9, none⟩ = some (.int .i64 (V 9))) (by kernel_rfl) ?_ (fun hHeld => ?_)
    · (try dsimp only)
      (first | (go_simp; done) | (go_keep; done))
    refine tq 0 hHeld ?_
    refine tq 1 hHeld ?_
    refine tq 2 hHeld ?_
    refine tq 3 hHeld ?_
    refine tq 5 hHeld ?_
    refine tq 6 hHeld ?_
    refine td 4 7 hHeld (fun hHeld => ?_)
    refine tc 8 fun K hK => ?_
    refine step_app1 (by rfl) _ _ _ (by rfl) cb 57 (.int .i64 0) Tryz.underlying58 (by kernel_rfl) (by rfl) (S 9) n (C 9) (by rfl) (o0.alloc' _) wc.heap.size _ (V 9) (by rfl) (by go_simp) hn (by simp; omega) (wc.heap.size + 1) (by simp) ?_
    intro g cap w1 ho hg hor hlt
    obtain ⟨qb, qc, qf, hst⟩ := AddN.step h9 (by omega) hcb ho hg hor hlt
    refine tr hK (fun hHeld => ?_) (by (try dsimp only); exact qb)
    clear hK K
    refine tq 9 hHeld ?_
    refine tq 10 hHeld ?_
    (refine tc 11 fun K hK => ?_; go_simp; refine tr hK (fun hHeld => ?_) (by (try dsimp only); exact (cset_far (by simp; omega)).trans qb); clear hK K)
    refine wpAnyH_done (by kernel_rfl) ?_ _
    go_wp2_with fail
    go_meet
    exact ⟨_, hst⟩
  case rest =>
  obtain ⟨S10, h10⟩ := hcut
  clear b0 o0 c0 f0 z0 l0 h9
  go_upto_region 11 with fail
  have b0 := h10.body 10 (by omega)
  obtain ⟨e0, o0⟩ := h10.todo 10 (by omega) (by omega)
  have c0 := h10.hd 10 (by omega)
  rw [e0] at c0
  clear e0
  have f0 := h10.nf 10 (by omega)
  have z0 := h10.big
  have l0 : cb < wc.heap.size := by omega
  go_cut [] (fun wc => ∃ S', AddN w wc cb n C V S 11 S')
  case first =>
    refine wp_region_held_drew (S := fun w' => w'.cell? ⟨w.heap.size, 10, none⟩ = some (.int .i64 (V 10))) (by kernel_rfl) ?_ (fun hHeld => ?_)
    · (try dsimp only)
      (first | (go_simp; done) | (go_keep; done))
    refine tq 0 hHeld ?_
    refine tq 1 hHeld ?_
    refine tq 2 hHeld ?_
    refine tq 3 hHeld ?_
    refine tq 5 hHeld ?_
    refine tq 6 hHeld ?_
    refine td 4 7 hHeld (fun hHeld => ?_)
    refine tc 8 fun K hK => ?_
    refine step_app1 (by rfl) _ _ _ (by rfl) cb 57 (.int .i64 0) Tryz.underlying58 (by kernel_rfl) (by rfl) (S 10) n (C 10) (by rfl) (o0.alloc' _) wc.heap.size _ (V 10) (by rfl) (by go_simp) hn (by simp; omega) (wc.heap.size + 1) (by simp) ?_
    intro g cap w1 ho hg hor hlt
    obtain ⟨qb, qc, qf, hst⟩ := AddN.step h10 (by omega) hcb ho hg hor hlt
    refine tr hK (fun hHeld => ?_) (by (try dsimp only); exact qb)
    clear hK K
    refine tq 9 hHeld ?_
    refine tq 10 hHeld ?_
    (refine tc 11 fun K hK => ?_; go_simp; refine tr hK (fun hHeld => ?_) (by (try dsimp only); exact (cset_far (by simp; omega)).trans qb); clear hK K)
    refine wpAnyH_done (by kernel_rfl) ?_ _
    go_wp2_with fail
    go_meet
    exact ⟨_, hst⟩
  case rest =>
  obtain ⟨S11, h11⟩ := hcut
  clear b0 o0 c0 f0 z0 l0 h10
  go_upto_region 12 with fail
  have b0 := h11.body 11 (by omega)
  obtain ⟨e0, o0⟩ := h11.todo 11 (by omega) (by omega)
  have c0 := h11.hd 11 (by omega)
  rw [e0] at c0
  clear e0
  have f0 := h11.nf 11 (by omega)
  have z0 := h11.big
  have l0 : cb < wc.heap.size := by omega
  refine wp_region_held_drew (S := fun w' => w'.cell? ⟨w.heap.size, 11, none⟩ = some (.int .i64 (V 11))) (by kernel_rfl) ?_ (fun hHeld => ?_)
  · (try dsimp only)
    (first | (go_simp; done) | (go_keep; done))
  refine tq 0 hHeld ?_
  refine tq 1 hHeld ?_
  refine tq 2 hHeld ?_
  refine tq 3 hHeld ?_
  refine tq 5 hHeld ?_
  refine tq 6 hHeld ?_
  refine td 4 7 hHeld (fun hHeld => ?_)
  refine tc 8 fun K hK => ?_
  refine step_app1 (by rfl) _ _ _ (by rfl) cb 57 (.int .i64 0) Tryz.underlying58 (by kernel_rfl) (by rfl) (S 11) n (C 11) (by rfl) (o0.alloc' _) wc.heap.size _ (V 11) (by rfl) (by go_simp) hn (by simp; omega) (wc.heap.size + 1) (by simp) ?_
  intro g cap w1 ho hg hor hlt
  obtain ⟨qb, qc, qf, hst⟩ := AddN.step h11 (by omega) hcb ho hg hor hlt
  refine tr hK (fun hHeld => ?_) (by (try dsimp only); exact qb)
  clear hK K
  refine tq 9 hHeld ?_
  refine tq 10 hHeld ?_
  (refine tc 11 fun K hK => ?_; go_simp; refine tr hK (fun hHeld => ?_) (by (try dsimp only); exact (cset_far (by simp; omega)).trans qb); clear hK K)
  refine wpAnyH_done (by kernel_rfl) ?_ _
  go_wp2_with fail
  go_end0
  exact ⟨rfl, _, hst.cs, hst.fr⟩
end Go.Proofs.YthfodocnehahcaaGreatDoor
namespace Go.Proofs.YthfodocnehahcaaGreatDoor
open Go.RowKit
set_option linter.unusedVariables false
set_option linter.unusedSimpArgs false

/-- a list's numbers by columns -/
def colOf (U : Nat → Int) : Nat → Nat → Int := fun i k => U (k * 12 + i)
theorem snoc_col (U : Nat → Int) (n : Nat) {i k : Nat} (hk : k < n + 1) : snocC n (colOf U) (fun j => U (n * 12 + j)) i k = colOf U i k := by
  unfold snocC snoc colOf
  by_cases e : k = n
  · rw [if_pos e, e]
  · rw [if_neg e]
set_option maxRecDepth 20000 in
set_option maxHeartbeats 4000000 in
theorem rowsOf_any (a : Option Addr) (n c : Nat) (U : Nat → Int) (w : World) (h : Flat w a (n * 12) U) (hn : n ≤ 1048575) :
    Calls Tryz.prog 38 #[.slice a n c] w fun e w' => e = .returned (.pointer (some ⟨w.heap.size, 0, none⟩)) ∧ Below w.heap.size w w' ∧ ∃ S, Cs w' w.heap.size n (colOf U) S := by
  have hset := cset_map
  go_enter Tryz.func38, Tryz.ntmps38
  go_wp2
  go_loopw [5, 10] (fun _ i wr => ∃ k : Nat, k ≤ n ∧ i = .int .i64 (k : Int) ∧ Below w.heap.size w wr ∧ ∃ S, Cs wr w.heap.size k (colOf U) S) (fun _ i _ => n - (intOf i).toNat)
  case atStart =>
    refine ⟨0, Nat.zero_le _, rfl, (Below.refl _ _).alloc (Nat.le_refl _) _, fun _ => .slice none 0 0, fun i hi => ?_, fun i hi => ?_, fun i hi => OwnL.nil _ _ _ _ _, (fun _ _ _ e => by cases e), (fun _ _ _ _ _ _ e => by cases e)⟩
    · rcases (show i = 0 ∨ i = 1 ∨ i = 2 ∨ i = 3 ∨ i = 4 ∨ i = 5 ∨ i = 6 ∨ i = 7 ∨ i = 8 ∨ i = 9 ∨ i = 10 ∨ i = 11 by omega) with rfl | rfl | rfl | rfl | rfl | rfl | rfl | rfl | rfl | rfl | rfl | rfl <;> go_simp
    · go_simp
  case round =>
    obtain ⟨k, hk, rfl, hB, S, hC⟩ := hrel
    by_cases hlt : k < n
    · obtain ⟨b, o, rfl, hbl, hc⟩ := h (by omega)
      have hc' : ∀ q, q < n * 12 → wr.cell? ⟨b, o + q, none⟩ = some (.int .i64 (U q)) := fun q hq => (hB.cell (p := ⟨b, o + q, none⟩) hbl).trans (hc q hq)
      clear hc
      have c0 := hc' (k * 12) (by omega)
      have c1 := hc' (k * 12 + 1) (by omega)
      have c2 := hc' (k * 12 + 2) (by omega)
      have c3 := hc' (k * 12 + 3) (by omega)
      have c4 := hc' (k * 12 + 4) (by omega)
      have c5 := hc' (k * 12 + 5) (by omega)
      have c6 := hc' (k * 12 + 6) (by omega)
      have c7 := hc' (k * 12 + 7) (by omega)
      have c8 := hc' (k * 12 + 8) (by omega)
      have c9 := hc' (k * 12 + 9) (by omega)
      have c10 := hc' (k * 12 + 10) (by omega)
      have c11 := hc' (k * 12 + 11) (by omega)
      simp only [← Nat.add_assoc] at c0 c1 c2 c3 c4 c5 c6 c7 c8 c9 c10 c11
      clear hc'
      go_upto_region 5 with fail
      have hE : Below wr.heap.size wr (wr.alloc (Obj.cells #[.int .i64 (U (k * 12)), .int .i64 (U (k * 12 + 1)), .int .i64 (U (k * 12 + 2)), .int .i64 (U (k * 12 + 3)), .int .i64 (U (k * 12 + 4)), .int .i64 (U (k * 12 + 5)), .int .i64 (U (k * 12 + 6)), .int .i64 (U (k * 12 + 7)), .int .i64 (U (k * 12 + 8)), .int .i64 (U (k * 12 + 9)), .int .i64 (U (k * 12 + 10)), .int .i64 (U (k * 12 + 11))] 39)) := (Below.refl _ _).alloc (Nat.le_refl _) _
      have hB2 := hB.trans (hE.mono hB.size)
      have hC2 := hC.below hE
      have x0 : (wr.alloc (Obj.cells #[.int .i64 (U (k * 12)), .int .i64 (U (k * 12 + 1)), .int .i64 (U (k * 12 + 2)), .int .i64 (U (k * 12 + 3)), .int .i64 (U (k * 12 + 4)), .int .i64 (U (k * 12 + 5)), .int .i64 (U (k * 12 + 6)), .int .i64 (U (k * 12 + 7)), .int .i64 (U (k * 12 + 8)), .int .i64 (U (k * 12 + 9)), .int .i64 (U (k * 12 + 10)), .int .i64 (U (k * 12 + 11))] 39)).cell? ⟨wr.heap.size, 0, none⟩ = some (.int .i64 (U (k * 12))) := by go_simp
      have x1 : (wr.alloc (Obj.cells #[.int .i64 (U (k * 12)), .int .i64 (U (k * 12 + 1)), .int .i64 (U (k * 12 + 2)), .int .i64 (U (k * 12 + 3)), .int .i64 (U (k * 12 + 4)), .int .i64 (U (k * 12 + 5)), .int .i64 (U (k * 12 + 6)), .int .i64 (U (k * 12 + 7)), .int .i64 (U (k * 12 + 8)), .int .i64 (U (k * 12 + 9)), .int .i64 (U (k * 12 + 10)), .int .i64 (U (k * 12 + 11))] 39)).cell? ⟨wr.heap.size, 1, none⟩ = some (.int .i64 (U (k * 12 + 1))) := by go_simp
      have x2 : (wr.alloc (Obj.cells #[.int .i64 (U (k * 12)), .int .i64 (U (k * 12 + 1)), .int .i64 (U (k * 12 + 2)), .int .i64 (U (k * 12 + 3)), .int .i64 (U (k * 12 + 4)), .int .i64 (U (k * 12 + 5)), .int .i64 (U (k * 12 + 6)), .int .i64 (U (k * 12 + 7)), .int .i64 (U (k * 12 + 8)), .int .i64 (U (k * 12 + 9)), .int .i64 (U (k * 12 + 10)), .int .i64 (U (k * 12 + 11))] 39)).cell? ⟨wr.heap.size, 2, none⟩ = some (.int .i64 (U (k * 12 + 2))) := by go_simp
      have x3 : (wr.alloc (Obj.cells #[.int .i64 (U (k * 12)), .int .i64 (U (k * 12 + 1)), .int .i64 (U (k * 12 + 2)), .int .i64 (U (k * 12 + 3)), .int .i64 (U (k * 12 + 4)), .int .i64 (U (k * 12 + 5)), .int .i64 (U (k * 12 + 6)), .int .i64 (U (k * 12 + 7)), .int .i64 (U (k * 12 + 8)), .int .i64 (U (k * 12 + 9)), .int .i64 (U (k * 12 + 10)), .int .i64 (U (k * 12 + 11))] 39)).cell? ⟨wr.heap.size, 3, none⟩ = some (.int .i64 (U (k * 12 + 3))) := by go_simp
      have x4 : (wr.alloc (Obj.cells #[.int .i64 (U (k * 12)), .int .i64 (U (k * 12 + 1)), .int .i64 (U (k * 12 + 2)), .int .i64 (U (k * 12 + 3)), .int .i64 (U (k * 12 + 4)), .int .i64 (U (k * 12 + 5)), .int .i64 (U (k * 12 + 6)), .int .i64 (U (k * 12 + 7)), .int .i64 (U (k * 12 + 8)), .int .i64 (U (k * 12 + 9)), .int .i64 (U (k * 12 + 10)), .int .i64 (U (k * 12 + 11))] 39)).cell? ⟨wr.heap.size, 4, none⟩ = some (.int .i64 (U (k * 12 + 4))) := by go_simp
      have x5 : (wr.alloc (Obj.cells #[.int .i64 (U (k * 12)), .int .i64 (U (k * 12 + 1)), .int .i64 (U (k * 12 + 2)), .int .i64 (U (k * 12 + 3)), .int .i64 (U (k * 12 + 4)), .int .i64 (U (k * 12 + 5)), .int .i64 (U (k * 12 + 6)), .int .i64 (U (k * 12 + 7)), .int .i64 (U (k * 12 + 8)), .int .i64 (U (k * 12 + 9)), .int .i64 (U (k * 12 + 10)), .int .i64 (U (k * 12 + 11))] 39)).cell? ⟨wr.heap.size, 5, none⟩ = some (.int .i64 (U (k * 12 + 5))) := by go_simp
      have x6 : (wr.alloc (Obj.cells #[.int .i64 (U (k * 12)), .int .i64 (U (k * 12 + 1)), .int .i64 (U (k * 12 + 2)), .int .i64 (U (k * 12 + 3)), .int .i64 (U (k * 12 + 4)), .int .i64 (U (k * 12 + 5)), .int .i64 (U (k * 12 + 6)), .int .i64 (U (k * 12 + 7)), .int .i64 (U (k * 12 + 8)), .int .i64 (U (k * 12 + 9)), .int .i64 (U (k * 12 + 10)), .int .i64 (U (k * 12 + 11))] 39)).cell? ⟨wr.heap.size, 6, none⟩ = some (.int .i64 (U (k * 12 + 6))) := by go_simp
      have x7 : (wr.alloc (Obj.cells #[.int .i64 (U (k * 12)), .int .i64 (U (k * 12 + 1)), .int .i64 (U (k * 12 + 2)), .int .i64 (U (k * 12 + 3)), .int .i64 (U (k * 12 + 4)), .int .i64 (U (k * 12 + 5)), .int .i64 (U (k * 12 + 6)), .int .i64 (U (k * 12 + 7)), .int .i64 (U (k * 12 + 8)), .int .i64 (U (k * 12 + 9)), .int .i64 (U (k * 12 + 10)), .int .i64 (U (k * 12 + 11))] 39)).cell? ⟨wr.heap.size, 7, none⟩ = some (.int .i64 (U (k * 12 + 7))) := by go_simp
      have x8 : (wr.alloc (Obj.cells #[.int .i64 (U (k * 12)), .int .i64 (U (k * 12 + 1)), .int .i64 (U (k * 12 + 2)), .int .i64 (U (k * 12 + 3)), .int .i64 (U (k * 12 + 4)), .int .i64 (U (k * 12 + 5)), .int .i64 (U (k * 12 + 6)), .int .i64 (U (k * 12 + 7)), .int .i64 (U (k * 12 + 8)), .int .i64 (U (k * 12 + 9)), .int .i64 (U (k * 12 + 10)), .int .i64 (U (k * 12 + 11))] 39)).cell? ⟨wr.heap.size, 8, none⟩ = some (.int .i64 (U (k * 12 + 8))) := by go_simp
      have x9 : (wr.alloc (Obj.cells #[.int .i64 (U (k * 12)), .int .i64 (U (k * 12 + 1)), .int .i64 (U (k * 12 + 2)), .int .i64 (U (k * 12 + 3)), .int .i64 (U (k * 12 + 4)), .int .i64 (U (k * 12 + 5)), .int .i64 (U (k * 12 + 6)), .int .i64 (U (k * 12 + 7)), .int .i64 (U (k * 12 + 8)), .int .i64 (U (k * 12 + 9)), .int .i64 (U (k * 12 + 10)), .int .i64 (U (k * 12 + 11))] 39)).cell? ⟨wr.heap.size, 9, none⟩ = some (.int .i64 (U (k * 12 + 9))) := by go_simp
      have x10 : (wr.alloc (Obj.cells #[.int .i64 (U (k * 12)), .int .i64 (U (k * 12 + 1)), .int .i64 (U (k * 12 + 2)), .int .i64 (U (k * 12 + 3)), .int .i64 (U (k * 12 + 4)), .int .i64 (U (k * 12 + 5)), .int .i64 (U (k * 12 + 6)), .int .i64 (U (k * 12 + 7)), .int .i64 (U (k * 12 + 8)), .int .i64 (U (k * 12 + 9)), .int .i64 (U (k * 12 + 10)), .int .i64 (U (k * 12 + 11))] 39)).cell? ⟨wr.heap.size, 10, none⟩ = some (.int .i64 (U (k * 12 + 10))) := by go_simp
      have x11 : (wr.alloc (Obj.cells #[.int .i64 (U (k * 12)), .int .i64 (U (k * 12 + 1)), .int .i64 (U (k * 12 + 2)), .int .i64 (U (k * 12 + 3)), .int .i64 (U (k * 12 + 4)), .int .i64 (U (k * 12 + 5)), .int .i64 (U (k * 12 + 6)), .int .i64 (U (k * 12 + 7)), .int .i64 (U (k * 12 + 8)), .int .i64 (U (k * 12 + 9)), .int .i64 (U (k * 12 + 10)), .int .i64 (U (k * 12 + 11))] 39)).cell? ⟨wr.heap.size, 11, none⟩ = some (.int .i64 (U (k * 12 + 11))) := by go_simp
      generalize (wr.alloc (Obj.cells #[.int .i64 (U (k * 12)), .int .i64 (U (k * 12 + 1)), .int .i64 (U (k * 12 + 2)), .int .i64 (U (k * 12 + 3)), .int .i64 (U (k * 12 + 4)), .int .i64 (U (k * 12 + 5)), .int .i64 (U (k * 12 + 6)), .int .i64 (U (k * 12 + 7)), .int .i64 (U (k * 12 + 8)), .int .i64 (U (k * 12 + 9)), .int .i64 (U (k * 12 + 10)), .int .i64 (U (k * 12 + 11))] 39)) = wx at hE hB2 hC2 x0 x1 x2 x3 x4 x5 x6 x7 x8 x9 x10 x11 ⊢
      clear c0 c1 c2 c3 c4 c5 c6 c7 c8 c9 c10 c11 hE hC hB
      go_wp2_with (go_at_call 55; refine (add_any w.heap.size k (colOf U) (fun j => U (k * 12 + j)) S _ hC2 (by omega)).mono ?_; rintro e w1 ⟨rfl, S1, hC1, hF1⟩)
      go_roundw
      case rel => exact ⟨k + 1, by omega, by go_num, hB2.trans (hF1.below hB2.size (fun x q => q.elim (fun q => Nat.le_of_eq q.symm) (fun q => Nat.le_of_lt (hC2.xlt q).1))), S1, hC1.congr fun i q _ hq => snoc_col U k hq⟩
      case measure => simp [intOf]; omega
    · go_wp2
      go_ret
      obtain rfl : k = n := by omega
      exact ⟨rfl, hB, S, hC⟩
end Go.Proofs.YthfodocnehahcaaGreatDoor
namespace Go.Proofs.YthfodocnehahcaaGreatDoor
open Go.RowKit Go.Shelf
set_option linter.unusedVariables false
set_option linter.unusedSimpArgs false
abbrev hdk (cb k : Nat) : Value := .agg #[.int .i64 (k : Int), .pointer (some ⟨cb, 0, none⟩)]
theorem handle_any (cb k : Nat) (w : World) :
    Calls Tryz.prog 44 #[.pointer (some ⟨cb, 0, none⟩), .int .i64 (k : Int)] w fun e w' => e = .returned (hdk cb k) ∧ Below w.heap.size w w' := by
  go_enter Tryz.func44, Tryz.ntmps44
  go_wp2
  exact bodyPost_ret (v := hdk cb k) (by simp [results, Tryz.results44, go_sem, *]) rfl ⟨rfl, by repeat (first | with_reducible apply Below.refl | (with_reducible apply Below.setCell; rotate_left; focus (first | omega | (simp; done) | (simp; omega))) | (with_reducible apply Below.alloc; rotate_left; focus (first | omega | (simp; done) | (simp; omega))))⟩
theorem each_enters : ∀ args w, (callFunc 27 args).run Tryz.prog w = .ok (.enter 27 args) w := enters_of Tryz.func27 (by kernel_rfl) rfl
set_option maxHeartbeats 4000000 in
theorem each_it (cb nn cc : Nat) (ad : Option Addr) (w : World) (hcb : cb < w.heap.size) (hc : w.cell? ⟨cb, 0, none⟩ = some (.slice ad nn cc)) (hn : nn ≤ 1048576) :
    ItC Tryz.prog 27 #[.pointer (some ⟨cb, 0, none⟩)] (fun k => #[hdk cb k]) nn w := by
  intro l J Jx W hbW hJb hJx hY h0
  have hc' : W.cell? ⟨cb, 0, none⟩ = some (.slice ad nn cc) := (hbW.cell (p := ⟨cb, 0, none⟩) hcb).trans hc
  refine callsIn_of_wp Tryz.func27 rfl trivial ?_ rfl
  simp only [Tryz.ntmps27, List.size_toArray, List.length_cons, List.length_nil, Nat.reduceAdd, Nat.reduceSub, Array.replicate_succ, Array.replicate_zero, List.push_toArray, List.append_toArray, List.nil_append, List.cons_append]
  gi_wp2
  gi_loopw [4, 10] (fun _ i wr => ∃ k : Nat, k ≤ nn ∧ i = .int .i64 (k : Int) ∧ J k wr) (fun _ i _ => nn - (intOf i).toNat)
  case atStart => exact ⟨0, Nat.zero_le _, rfl, h0⟩
  case round =>
    obtain ⟨k, hk, rfl, hJ⟩ := hrel
    by_cases hlt : k < nn
    · gi_wp2_with (refine ⟨trivial, rfl, ?_⟩; gi_at_call 44; refine (callsIn_wide.2 (handle_any cb k _)).mono ?_; rintro e w1 ⟨rfl, hb1⟩; have hJ1 := hJb _ _ _ hJ hb1; obtain ⟨fn, tmps, assign, body, hy, hR⟩ := hY k w1 hJ1 hlt)
      refine ⟨rfl, hR.mono ?_⟩
      rintro e w2 (⟨rfl, hJ2⟩ | ⟨rfl, hJx2⟩)
      · gi_wp2
        go_roundw
        case rel => exact ⟨k + 1, by omega, by go_num, hJ2⟩
        case measure => simp [intOf]; omega
      · gi_wp2
        refine bodyPost_ret (results_none rfl _ _ _) rfl ?_
        exact ⟨⟨_, rfl⟩, .inr hJx2⟩
    · gi_wp2
      go_end0
      obtain rfl : k = nn := by omega
      exact ⟨⟨_, rfl⟩, .inl hJ⟩
end Go.Proofs.YthfodocnehahcaaGreatDoor
namespace Go.Proofs.YthfodocnehahcaaGreatDoor
open Go.RowKit
set_option linter.unusedVariables false
set_option linter.unusedSimpArgs false

set_option maxHeartbeats 1000000 in
theorem l2Clamp_any (x y : Int) (w : World) :
    Calls Tryz.prog 85 #[vv x y] w fun e w' => e = .returned (vv (fc x) (fc y)) ∧ Below w.heap.size w w' := by
  have hset := cset_map
  go_enter Tryz.func85, Tryz.ntmps85
  go_wp2
  go_region_with (go_at_call 86; refine (sFixClamp_any _ _).mono ?_; rintro e w' ⟨rfl, rfl⟩)
  all_goals
    go_wp2
    exact bodyPost_ret (v := vv (fc x) (fc y)) (by simp [results, Tryz.results85, go_sem, *]) rfl ⟨rfl, bel_a⟩

theorem l1In_any (n l h : Int) (w : World) :
    Calls Tryz.prog 33 #[.int .i64 n, .int .i64 l, .int .i64 h] w fun e w' => e = .returned (.bool (decide (l ≤ n ∧ n ≤ h))) ∧ w' = w := by
  go_enter Tryz.func33, Tryz.ntmps33
  go_wp2
  all_goals
    go_ret
    refine ⟨ret_bool ?_, rfl⟩
    first | (simp; omega) | (simp; done)

end Go.Proofs.YthfodocnehahcaaGreatDoor
namespace Go.Proofs.YthfodocnehahcaaGreatDoor
open Go.RowKit
set_option linter.unusedVariables false
set_option linter.unusedSimpArgs false

abbrev b4 (a b c d : Int) : Value := .agg #[.int .i64 a, .int .i64 b, .int .i64 c, .int .i64 d]
/-- none greater -/
def leB (x y u v : Int) : Bool := decide (x ≤ u ∧ y ≤ v)
/-- whether a box is ok -/
def bokB (a b c d : Int) : Bool := vokB a b && (vokB c d && leB a b c d)

theorem noneGreater_any (x y u v : Int) (w : World) :
    Calls Tryz.prog 105 #[vv x y, vv u v] w fun e w' => e = .returned (.bool (leB x y u v)) ∧ Below w.heap.size w w' := by
  have hset := cset_map
  go_enter Tryz.func105, Tryz.ntmps105
  go_wp2
  all_goals
    go_ret
    refine ⟨ret_bool ?_, bel_a⟩
    unfold leB
    first | (simp; done) | (simp; omega) | (simp at *; omega)

end Go.Proofs.YthfodocnehahcaaGreatDoor
namespace Go.Proofs.YthfodocnehahcaaGreatDoor
open Go.RowKit
set_option linter.unusedVariables false
set_option linter.unusedSimpArgs false

/-- the lesser, the greater -/
def mn (x y : Int) : Int := if y < x then y else x
def mx (x y : Int) : Int := if x < y then y else x
theorem mn_bd {B x y : Int} (hx : -B ≤ x ∧ x ≤ B) (hy : -B ≤ y ∧ y ≤ B) : -B ≤ mn x y ∧ mn x y ≤ B := by unfold mn; split <;> omega
theorem mx_bd {B x y : Int} (hx : -B ≤ x ∧ x ≤ B) (hy : -B ≤ y ∧ y ≤ B) : -B ≤ mx x y ∧ mx x y ≤ B := by unfold mx; split <;> omega

set_option maxHeartbeats 1000000 in
theorem spanMeets_any (a b c d r s t u : Int) (w : World) :
    Calls Tryz.prog 99 #[b4 a b c d, b4 r s t u] w fun e w' => e = .returned (.bool (leB a b t u && leB r s c d)) ∧ Below w.heap.size w w' := by
  have hset := cset_map
  go_enter Tryz.func99, Tryz.ntmps99
  go_wp2_with (go_at_call 105; refine (noneGreater_any _ _ _ _ _).mono ?_; rintro e w1 ⟨rfl, hb1⟩; obtain ⟨hc1, hf1⟩ := bcell hb1; have hl1 := blt hb1; have hz1 := hb1.size; (try simp only [World.size_drew, World.size_alloc, World.size_setCell] at hc1 hf1 hl1 hz1); (try have hq1x0 : w.heap.size < w1.heap.size := (by omega)); (try have hq1x1 : w.heap.size + 1 < w1.heap.size := (by omega)))
  all_goals
    go_ret
    refine ⟨ret_bool ?_, bel_a⟩
    first | (simp [*]; done) | (simp at *; simp [*]; done) | (simp at *; omega)

set_option maxHeartbeats 1000000 in
theorem spanHas_any (a b c d r s t u : Int) (w : World) :
    Calls Tryz.prog 96 #[b4 a b c d, b4 r s t u] w fun e w' => e = .returned (.bool (leB a b r s && leB t u c d)) ∧ Below w.heap.size w w' := by
  have hset := cset_map
  go_enter Tryz.func96, Tryz.ntmps96
  go_wp2_with (go_at_call 105; refine (noneGreater_any _ _ _ _ _).mono ?_; rintro e w1 ⟨rfl, hb1⟩; obtain ⟨hc1, hf1⟩ := bcell hb1; have hl1 := blt hb1; have hz1 := hb1.size; (try simp only [World.size_drew, World.size_alloc, World.size_setCell] at hc1 hf1 hl1 hz1); (try have hq1x0 : w.heap.size < w1.heap.size := (by omega)); (try have hq1x1 : w.heap.size + 1 < w1.heap.size := (by omega)))
  all_goals
    go_ret
    refine ⟨ret_bool ?_, bel_a⟩
    first | (simp [*]; done) | (simp at *; simp [*]; done) | (simp at *; omega)

set_option maxHeartbeats 1000000 in
theorem least_any (x y u v : Int) (w : World) :
    Calls Tryz.prog 107 #[vv x y, vv u v] w fun e w' => e = .returned (vv (mn x u) (mn y v)) ∧ Below w.heap.size w w' := by
  have hset := cset_map
  go_enter Tryz.func107, Tryz.ntmps107
  go_wp2
  all_goals
    refine bodyPost_ret (v := vv (mn x u) (mn y v)) ?_ rfl ⟨rfl, bel_a⟩
    simp [results, Tryz.results107, go_sem, *]
    try (constructor <;> (unfold mn; split <;> omega))

set_option maxHeartbeats 1000000 in
theorem greatest_any (x y u v : Int) (w : World) :
    Calls Tryz.prog 106 #[vv x y, vv u v] w fun e w' => e = .returned (vv (mx x u) (mx y v)) ∧ Below w.heap.size w w' := by
  have hset := cset_map
  go_enter Tryz.func106, Tryz.ntmps106
  go_wp2
  all_goals
    refine bodyPost_ret (v := vv (mx x u) (mx y v)) ?_ rfl ⟨rfl, bel_a⟩
    simp [results, Tryz.results106, go_sem, *]
    try (constructor <;> (unfold mx; split <;> omega))

end Go.Proofs.YthfodocnehahcaaGreatDoor
namespace Go.Proofs.YthfodocnehahcaaGreatDoor
open Go.RowKit
set_option linter.unusedVariables false
set_option linter.unusedSimpArgs false

def szB (n : Int) : Bool := decide (1 ≤ n ∧ n ≤ 25600)
theorem isSize_any (n : Int) (w : World) :
    Calls Tryz.prog 90 #[.int .i64 n] w fun e w' => e = .returned (.bool (szB n)) ∧ w' = w := by
  go_enter Tryz.func90, Tryz.ntmps90
  go_wp2
  all_goals
    go_ret
    refine ⟨ret_bool ?_, rfl⟩
    unfold szB
    first | (simp; omega) | (simp; done)

/-- whether a shape is ok -/
def rdB (k wd h : Int) : Bool := decide (k = 1 ∧ (1 ≤ wd ∧ wd ≤ 25600) ∧ h = 0)
def bxB (k wd h : Int) : Bool := decide (k = 2 ∧ (1 ≤ wd ∧ wd ≤ 25600) ∧ (1 ≤ h ∧ h ≤ 25600))
def shB (k wd h : Int) : Bool := rdB k wd h || bxB k wd h
abbrev s3 (k wd h : Int) : Value := .agg #[.int .i64 k, .int .i64 wd, .int .i64 h]

theorem figureOf_round (wd : Int) (w : World) (h1 : 1 ≤ wd) (h2 : wd ≤ 25600) :
    Calls Tryz.prog 76 #[s3 1 wd 0] w fun e w' => e = .returned (.tuple #[.iface 161 (.agg #[.int .i64 wd]), .bool true]) ∧ Below w.heap.size w w' := by
  have hs : szB wd = true := by unfold szB; simp; omega
  go_enter Tryz.func76, Tryz.ntmps76
  go_wp2_with (go_at_call 90; refine (isSize_any _ _).mono ?_; rintro e w' ⟨rfl, rfl⟩)
  go_ret2
  exact ⟨rfl, (Below.refl _ _).alloc (Nat.le_refl _) _⟩
theorem figureOf_box (wd h : Int) (w : World) (h1 : 1 ≤ wd) (h2 : wd ≤ 25600) (h3 : 1 ≤ h) (h4 : h ≤ 25600) :
    Calls Tryz.prog 76 #[s3 2 wd h] w fun e w' => e = .returned (.tuple #[.iface 163 (.agg #[.int .i64 wd, .int .i64 h]), .bool true]) ∧ Below w.heap.size w w' := by
  have hs : szB wd = true := by unfold szB; simp; omega
  have hs2 : szB h = true := by unfold szB; simp; omega
  go_enter Tryz.func76, Tryz.ntmps76
  go_wp2_with (go_at_call 90; refine (isSize_any _ _).mono ?_; rintro e w' ⟨rfl, rfl⟩)
  go_ret2
  exact ⟨rfl, (Below.refl _ _).alloc (Nat.le_refl _) _⟩
set_option maxHeartbeats 1000000 in
theorem figureOf_none (k wd h : Int) (w : World) (hn : shB k wd h = false) :
    Calls Tryz.prog 76 #[s3 k wd h] w fun e w' => e = .returned (.tuple #[.nilIface, .bool false]) ∧ Below w.heap.size w w' := by
  have HN : Hid (¬ ((k = 1 ∧ (1 ≤ wd ∧ wd ≤ 25600) ∧ h = 0) ∨ (k = 2 ∧ (1 ≤ wd ∧ wd ≤ 25600) ∧ (1 ≤ h ∧ h ≤ 25600)))) := by
    unfold shB rdB bxB at hn
    simp only [Bool.or_eq_false_iff, decide_eq_false_iff_not] at hn
    rintro (h | h)
    · exact hn.1 h
    · exact hn.2 h
  clear hn
  have hsz : Hid (∀ n, szB n = true → 1 ≤ n ∧ n ≤ 25600) := by intro n hn; unfold szB at hn; simpa using hn
  go_enter Tryz.func76, Tryz.ntmps76
  go_wp2_with (go_at_call 90; refine (isSize_any _ _).mono ?_; rintro e w' ⟨rfl, rfl⟩)
  all_goals
    first
      | (go_ret2; exact ⟨rfl, (Below.refl _ _).alloc (Nat.le_refl _) _⟩)
      | (exfalso; subst k; exact HN.out (.inl ⟨rfl, hsz.out _ ‹_›, by simpa using ‹(h == 0) = true›⟩))
      | (exfalso; subst k; exact HN.out (.inr ⟨rfl, hsz.out _ ‹szB wd = true›, hsz.out _ ‹szB h = true›⟩))

theorem shapeOk_any (k wd h : Int) (w : World) :
    Calls Tryz.prog 57 #[s3 k wd h] w fun e w' => e = .returned (.bool (shB k wd h)) ∧ Below w.heap.size w w' := by
  by_cases hr : rdB k wd h = true
  · have e : shB k wd h = true := by unfold shB; rw [hr]; rfl
    have E : Hid (shB k wd h = true) := e
    clear e
    unfold rdB at hr
    obtain ⟨rfl, ⟨h1, h2⟩, rfl⟩ := of_decide_eq_true hr
    clear hr
    go_enter Tryz.func57, Tryz.ntmps57
    go_wp2_with (go_at_call 76; refine (figureOf_round _ _ h1 h2).mono ?_; rintro e w1 ⟨rfl, hb1⟩)
    go_ret
    exact ⟨ret_bool E.out.symm, ((Below.refl _ _).alloc (Nat.le_refl _) _).trans (hb1.mono (by simp))⟩
  · by_cases hb : bxB k wd h = true
    · have e : shB k wd h = true := by unfold shB; rw [hb]; simp
      have E : Hid (shB k wd h = true) := e
      clear e hr
      unfold bxB at hb
      obtain ⟨rfl, ⟨h1, h2⟩, h3, h4⟩ := of_decide_eq_true hb
      clear hb
      go_enter Tryz.func57, Tryz.ntmps57
      go_wp2_with (go_at_call 76; refine (figureOf_box _ _ _ h1 h2 h3 h4).mono ?_; rintro e w1 ⟨rfl, hb1⟩)
      go_ret
      exact ⟨ret_bool E.out.symm, ((Below.refl _ _).alloc (Nat.le_refl _) _).trans (hb1.mono (by simp))⟩
    · have e : shB k wd h = false := by unfold shB; simp [hr, hb]
      have E : Hid (shB k wd h = false) := e
      clear e hr hb
      go_enter Tryz.func57, Tryz.ntmps57
      go_wp2_with (go_at_call 76; refine (figureOf_none _ _ _ _ E.out).mono ?_; rintro e w1 ⟨rfl, hb1⟩)
      go_ret
      exact ⟨ret_bool E.out.symm, ((Below.refl _ _).alloc (Nat.le_refl _) _).trans (hb1.mono (by simp))⟩

set_option maxHeartbeats 1000000 in
theorem sShapeOk_any (k wd h : Int) (w : World) :
    Calls Tryz.prog 34 #[s3 k wd h] w fun e w' => e = .returned (.bool (shB k wd h)) ∧ Below w.heap.size w w' := by
  go_enter Tryz.func34, Tryz.ntmps34
  go_wp2_with (go_at_call 33; refine (l1In_any _ _ _ _).mono ?_; rintro e w' ⟨rfl, rfl⟩)
  all_goals
    go_ret
    refine ⟨ret_bool ?_, (Below.refl _ _).alloc (Nat.le_refl _) _⟩
    unfold shB rdB bxB
    first | (simp [*]; done) | (simp at *; subst k; simp [*]; done) | (simp at *; subst k; simp [*]; rfl) | (simp at *; subst k; simp; omega) | (simp at *; simp [*]; done)

theorem toShape_any (k wd h : Int) (w : World) :
    Calls Tryz.prog 23 #[s3 k wd h] w fun e w' => e = .returned (s3 k wd h) ∧ Below w.heap.size w w' := by
  have hset := cset_map
  go_enter Tryz.func23, Tryz.ntmps23
  go_wp2
  exact bodyPost_ret (v := s3 k wd h) (by simp [results, Tryz.results23, go_sem, *]) rfl ⟨rfl, by repeat (first | exact Below.refl _ _ | refine Below.setCell ?_ (by first | omega | (simp; done) | (simp; omega)) _ | refine Below.alloc ?_ (by first | omega | (simp; done) | (simp; omega)) _)⟩

end Go.Proofs.YthfodocnehahcaaGreatDoor
namespace Go.Proofs.YthfodocnehahcaaGreatDoor
open Go.RowKit
set_option linter.unusedVariables false
set_option linter.unusedSimpArgs false

end Go.Proofs.YthfodocnehahcaaGreatDoor
namespace Go.Proofs.YthfodocnehahcaaGreatDoor
open Go.RowKit
set_option linter.unusedVariables false
set_option linter.unusedSimpArgs false

def ptB (a b c d x y : Int) : Bool := decide ((a ≤ x ∧ x ≤ c) ∧ (b ≤ y ∧ y ≤ d))
set_option maxHeartbeats 1000000 in
theorem l3Meets_any (a b c d r s t u : Int) (w : World) :
    Calls Tryz.prog 73 #[b4 a b c d, b4 r s t u] w fun e w' => e = .returned (.bool (leB a b t u && leB r s c d)) ∧ Below w.heap.size w w' := by
  have hset := cset_map
  go_enter Tryz.func73, Tryz.ntmps73
  go_wp2
  all_goals
    go_ret
    refine ⟨ret_bool ?_, bel_a⟩
    unfold leB
    first | (simp [*]; done) | (simp at *; omega) | (simp [*]; omega)

set_option maxHeartbeats 1000000 in
theorem l3Point_any (a b c d x y : Int) (w : World) :
    Calls Tryz.prog 74 #[b4 a b c d, vv x y] w fun e w' => e = .returned (.bool (ptB a b c d x y)) ∧ Below w.heap.size w w' := by
  have hset := cset_map
  go_enter Tryz.func74, Tryz.ntmps74
  go_wp2_with (go_at_call 33; refine (l1In_any _ _ _ _).mono ?_; rintro e w' ⟨rfl, rfl⟩)
  all_goals
    go_ret
    refine ⟨ret_bool ?_, bel_a⟩
    unfold ptB
    first | (simp [*]; done) | (simp at *; omega) | (simp [*]; omega)

end Go.Proofs.YthfodocnehahcaaGreatDoor
namespace Go.Proofs.YthfodocnehahcaaGreatDoor
open Go.RowKit
set_option linter.unusedVariables false
set_option linter.unusedSimpArgs false

theorem l2Square_any (x y : Int) (w : World) (hx : -1500000000 ≤ x ∧ x ≤ 1500000000) (hy : -1500000000 ≤ y ∧ y ≤ 1500000000) :
    Calls Tryz.prog 70 #[vv x y] w fun e w' => e = .returned (.int .i64 (x * x + y * y)) ∧ Below w.heap.size w w' := by
  have p := mul_bd (a := x) (b := x) (A := 1500000000) (B := 1500000000) hx hx
  have q := mul_bd (a := y) (b := y) (A := 1500000000) (B := 1500000000) hy hy
  have hset := cset_map
  go_enter Tryz.func70, Tryz.ntmps70
  go_wp2
  go_ret
  exact ⟨rfl, bel_a⟩

set_option maxHeartbeats 1000000 in
theorem sVecLen_any (x y : Int) (w : World) :
    Calls Tryz.prog 72 #[vv x y] w fun e w' => e = .returned (.int .i64 (vl (fc x) (fc y))) ∧ Below w.heap.size w w' := by
  have hx := fc_bd x
  have hy := fc_bd y
  have hs := sq_bd hx hy
  have hset := cset_map
  go_enter Tryz.func72, Tryz.ntmps72
  go_wp2_with (first
    | (go_at_call 85; refine (l2Clamp_any _ _ _).mono ?_; rintro e w1 ⟨rfl, hb1⟩; obtain ⟨hc1, hf1⟩ := bcell hb1; have hz1 := hb1.size; (try simp at hz1); have hq1x0a : w.heap.size < w1.heap.size := (by omega))
    | (go_at_call 70; refine (l2Square_any _ _ _ (by omega) (by omega)).mono ?_; rintro e w2 ⟨rfl, hb2⟩; obtain ⟨hc2, hf2⟩ := bcell hb2; have hz2 := hb2.size; (try simp at hz2); have hq2x0a : w.heap.size < w2.heap.size := (by omega))
    | (go_at_call 87; refine (l1Root_any _ _ (by omega) (by omega)).mono ?_; rintro e w' ⟨rfl, rfl⟩)
    | (go_at_call 86; refine (sFixClamp_any _ _).mono ?_; rintro e w' ⟨rfl, rfl⟩))
  go_ret
  exact ⟨rfl, bel_a⟩

set_option maxHeartbeats 2000000 in
theorem sVecUnit_any (x y : Int) (w : World) :
    Calls Tryz.prog 71 #[vv x y] w fun e w' => e = .returned (vv (ux (fc x) (fc y)) (uy (fc x) (fc y))) ∧ Below w.heap.size w w' := by
  have hx := fc_bd x
  have hy := fc_bd y
  have hl := vl_bd (fc x) (fc y)
  have f1 := fc_fc x
  have f2 := fc_fc y
  by_cases h0 : vl (fc x) (fc y) = 0
  · have e1 : ux (fc x) (fc y) = 0 := if_pos h0
    have e2 : uy (fc x) (fc y) = 256 := if_pos h0
    have hset := cset_map
    go_enter Tryz.func71, Tryz.ntmps71
    go_wp2_with (first
    | (go_at_call 85; refine (l2Clamp_any _ _ _).mono ?_; rintro e w1 ⟨rfl, hb1⟩; obtain ⟨hc1, hf1⟩ := bcell hb1; have hz1 := hb1.size; (try simp at hz1); have hq1x0a : w.heap.size < w1.heap.size := (by omega); have hq1x1a : w.heap.size + 1 < w1.heap.size := (by omega))
    | (go_at_call 72; refine (sVecLen_any _ _ _).mono ?_; rintro e w6 ⟨rfl, hb6⟩; obtain ⟨hc6, hf6⟩ := bcell hb6; have hz6 := hb6.size; (try simp at hz6); have hq6x0a : w.heap.size < w6.heap.size := (by omega); have hq6x1a : w.heap.size + 1 < w6.heap.size := (by omega)))
    exact bodyPost_ret (v := vv 0 256) (by simp [results, Tryz.results71, go_sem, *]) rfl ⟨by rw [e1, e2], bel_a⟩
  · have t1 := w64 (n := (fc x * 256).tdiv (vl (fc x) (fc y))) (by have := tdiv_bd (x := fc x * 256) (B := 256000000000) (vl (fc x) (fc y)) (by omega); omega)
    have t2 := w64 (n := (fc y * 256).tdiv (vl (fc x) (fc y))) (by have := tdiv_bd (x := fc y * 256) (B := 256000000000) (vl (fc x) (fc y)) (by omega); omega)
    have s1 := i64w (n := (fc x * 256).tdiv (vl (fc x) (fc y))) (by have := tdiv_bd (x := fc x * 256) (B := 256000000000) (vl (fc x) (fc y)) (by omega); omega)
    have s2 := i64w (n := (fc y * 256).tdiv (vl (fc x) (fc y))) (by have := tdiv_bd (x := fc y * 256) (B := 256000000000) (vl (fc x) (fc y)) (by omega); omega)
    have E1 : Hid (ux (fc x) (fc y) = (fc x * 256).tdiv (vl (fc x) (fc y))) := if_neg h0
    have E2 : Hid (uy (fc x) (fc y) = (fc y * 256).tdiv (vl (fc x) (fc y))) := if_neg h0
    have hset := cset_map
    go_enter Tryz.func71, Tryz.ntmps71
    go_wp2_with (first
    | (go_at_call 85; refine (l2Clamp_any _ _ _).mono ?_; rintro e w1 ⟨rfl, hb1⟩; obtain ⟨hc1, hf1⟩ := bcell hb1; have hz1 := hb1.size; (try simp at hz1); have hq1x0a : w.heap.size < w1.heap.size := (by omega); have hq1x1a : w.heap.size + 1 < w1.heap.size := (by omega))
    | (go_at_call 72; refine (sVecLen_any _ _ _).mono ?_; rintro e w6 ⟨rfl, hb6⟩; obtain ⟨hc6, hf6⟩ := bcell hb6; have hz6 := hb6.size; (try simp at hz6); have hq6x0a : w.heap.size < w6.heap.size := (by omega); have hq6x1a : w.heap.size + 1 < w6.heap.size := (by omega)))
    go_region
    all_goals
      go_wp2
      exact bodyPost_ret (v := vv ((fc x * 256).tdiv (vl (fc x) (fc y))) ((fc y * 256).tdiv (vl (fc x) (fc y)))) (by simp [results, Tryz.results71, go_sem, *]) rfl ⟨by rw [E1.out, E2.out], bel_a⟩

end Go.Proofs.YthfodocnehahcaaGreatDoor
namespace Go.Proofs.YthfodocnehahcaaGreatDoor
open Go.RowKit
set_option linter.unusedVariables false
set_option linter.unusedSimpArgs false

/-- how far up a shape goes -/
def hh (k wd h : Int) : Int := if k = 1 then wd else h
theorem inB_of {l x y : Int} (h : inB l x y = true) : (-l ≤ x ∧ x ≤ l) ∧ (-l ≤ y ∧ y ≤ l) := by
  unfold inB at h; simp only [decide_eq_true_eq] at h; omega

theorem isPlace_any (x y : Int) (w : World) :
    Calls Tryz.prog 79 #[vv x y] w fun e w' => e = .returned (.bool (inB 2560000 x y)) ∧ Below w.heap.size w w' := by
  have hset := cset_map
  go_enter Tryz.func79, Tryz.ntmps79
  go_wp2_with (first
    | (go_at_call 80; refine (wayOf_any _ _ _).mono ?_; rintro e w1 ⟨rfl, hb1⟩; obtain ⟨hc1, hf1⟩ := bcell hb1; have hl1 := blt hb1; have hz1 := hb1.size; (try simp only [World.size_drew, World.size_alloc, World.size_setCell] at hc1 hf1 hl1 hz1); (try have hq1x0 : w.heap.size < w1.heap.size := (by omega)))
    | (go_at_call 58; refine (within2_any _ _ _ _ (by omega) (by omega)).mono ?_; rintro e w2 ⟨rfl, hb2⟩; obtain ⟨hc2, hf2⟩ := bcell hb2; have hl2 := blt hb2; have hz2 := hb2.size; (try simp only [World.size_drew, World.size_alloc, World.size_setCell] at hc2 hf2 hl2 hz2); (try have hq2x0 : w.heap.size < w2.heap.size := (by omega))))
  go_ret
  exact ⟨rfl, bel_a⟩

theorem isPlace_t (x y : Int) (w : World) (h : inB 2560000 x y = true) : Calls Tryz.prog 79 #[vv x y] w fun e w' => e = .returned (.bool true) ∧ Below w.heap.size w w' := by
  have k := isPlace_any x y w
  rw [h] at k
  exact k
theorem isPlace_n (x y : Int) (w : World) (h : inB 2560000 x y = false) : Calls Tryz.prog 79 #[vv x y] w fun e w' => e = .returned (.bool false) ∧ Below w.heap.size w w' := by
  have k := isPlace_any x y w
  rw [h] at k
  exact k
theorem reach_r (wd : Int) (w : World) :
    Calls Tryz.prog 148 #[.agg #[.int .i64 wd]] w fun e w' => e = .returned (vv wd wd) ∧ Below w.heap.size w w' := by
  have hset := cset_map
  go_enter Tryz.func148, Tryz.ntmps148
  go_wp2
  exact bodyPost_ret (v := vv wd wd) (by simp [results, Tryz.results148, go_sem, *]) rfl ⟨rfl, bel_a⟩

theorem reach_b (wd h : Int) (w : World) :
    Calls Tryz.prog 149 #[.agg #[.int .i64 wd, .int .i64 h]] w fun e w' => e = .returned (vv wd h) ∧ Below w.heap.size w w' := by
  have hset := cset_map
  go_enter Tryz.func149, Tryz.ntmps149
  go_wp2
  exact bodyPost_ret (v := vv wd h) (by simp [results, Tryz.results149, go_sem, *]) rfl ⟨rfl, bel_a⟩

theorem as_rr (v : Value) (w : World) : (Instr.typeAssert (.iface 161 v) 151 161 true).run Tryz.prog w = .ok (.tuple #[v, .bool true]) w := by kernel_rfl
theorem as_br (v : Value) (w : World) : (Instr.typeAssert (.iface 163 v) 151 161 true).run Tryz.prog w = .ok (.tuple #[.agg #[.int .i64 0], .bool false]) w := by kernel_rfl
theorem as_bb (v : Value) (w : World) : (Instr.typeAssert (.iface 163 v) 151 163 true).run Tryz.prog w = .ok (.tuple #[v, .bool true]) w := by kernel_rfl
set_option maxHeartbeats 1000000 in
theorem l3Place_any (x y : Int) (w : World) :
    Calls Tryz.prog 35 #[vv x y] w fun e w' => e = .returned (.bool (inB 2560000 x y)) ∧ Below w.heap.size w w' := by
  have hset := cset_map
  go_enter Tryz.func35, Tryz.ntmps35
  go_wp2_with (go_at_call 33; refine (l1In_any _ _ _ _).mono ?_; rintro e w' ⟨rfl, rfl⟩)
  all_goals
    go_ret
    refine ⟨ret_bool ?_, bel_a⟩
    unfold inB
    first | (simp [*]; done) | (simp at *; omega) | (simp [*]; omega)

theorem l3Place_t (x y : Int) (w : World) (h : inB 2560000 x y = true) : Calls Tryz.prog 35 #[vv x y] w fun e w' => e = .returned (.bool true) ∧ Below w.heap.size w w' := by
  have k := l3Place_any x y w
  rw [h] at k
  exact k
theorem sShapeOk_t (k wd h : Int) (w : World) (hs : shB k wd h = true) : Calls Tryz.prog 34 #[s3 k wd h] w fun e w' => e = .returned (.bool true) ∧ Below w.heap.size w w' := by
  have q := sShapeOk_any k wd h w
  rw [hs] at q
  exact q
theorem l3Place_n (x y : Int) (w : World) (h : inB 2560000 x y = false) : Calls Tryz.prog 35 #[vv x y] w fun e w' => e = .returned (.bool false) ∧ Below w.heap.size w w' := by
  have k := l3Place_any x y w
  rw [h] at k
  exact k
theorem sShapeOk_n (k wd h : Int) (w : World) (hs : shB k wd h = false) : Calls Tryz.prog 34 #[s3 k wd h] w fun e w' => e = .returned (.bool false) ∧ Below w.heap.size w w' := by
  have q := sShapeOk_any k wd h w
  rw [hs] at q
  exact q
set_option maxHeartbeats 2000000 in
theorem l3Bounds_r (wd x y : Int) (w : World) (h1 : 1 ≤ wd) (h2 : wd ≤ 25600) (hx : -2560000 ≤ x ∧ x ≤ 2560000) (hy : -2560000 ≤ y ∧ y ≤ 2560000) :
    Calls Tryz.prog 52 #[s3 1 wd 0, vv x y] w fun e w' => e = .returned (b4 (x - wd) (y - wd) (x + wd) (y + wd)) ∧ Below w.heap.size w w' := by
  have hset := cset_map
  go_enter Tryz.func52, Tryz.ntmps52
  go_wp2
  all_goals
    exact bodyPost_ret (v := b4 (x - wd) (y - wd) (x + wd) (y + wd)) (by simp [results, Tryz.results52, go_sem, *]) rfl ⟨rfl, bel_a⟩

set_option maxHeartbeats 2000000 in
theorem l3Bounds_b (wd h x y : Int) (w : World) (h1 : 1 ≤ wd) (h2 : wd ≤ 25600) (h3 : 1 ≤ h) (h4 : h ≤ 25600) (hx : -2560000 ≤ x ∧ x ≤ 2560000) (hy : -2560000 ≤ y ∧ y ≤ 2560000) :
    Calls Tryz.prog 52 #[s3 2 wd h, vv x y] w fun e w' => e = .returned (b4 (x - wd) (y - h) (x + wd) (y + h)) ∧ Below w.heap.size w w' := by
  have hset := cset_map
  go_enter Tryz.func52, Tryz.ntmps52
  go_wp2
  all_goals
    exact bodyPost_ret (v := b4 (x - wd) (y - h) (x + wd) (y + h)) (by simp [results, Tryz.results52, go_sem, *]) rfl ⟨rfl, bel_a⟩

end Go.Proofs.YthfodocnehahcaaGreatDoor
