/- Texts of a proof. -/
import Derived.Test.YthijeiehcdoidaaGreatB2
import Derived.Laws.OwnMore
import Derived.Test.YthijeiehcdoidaaGreatB1
import Derived.Test.YthijeiehcdoidaaGreatB3
import Derived.Deep.QuietTactic
import Derived.BigQuiet
import Derived.Deep.RegionWith
set_option maxHeartbeats 16000000
set_option maxRecDepth 20000
namespace Go.Proofs.YthijeiehcdoidaaGreat
open Go.RowKit
set_option linter.unusedVariables false
set_option linter.unusedSimpArgs false
theorem _root_.Go.RowKit.Below.ofDr {B : Nat} {w w' : World} (h : Below B w.drew w') : Below B w w' := ⟨h.os, h.tape, h.output, h.size, h.block⟩
structure Fr (X : Nat → Prop) (w w' : World) : Prop where
 os : w'.os = w.os
 tape : w'.tape = w.tape
 output : w'.output = w.output
 size : w.heap.size ≤ w'.heap.size
 block : ∀ k, k < w.heap.size → ¬ X k → w'.heap[k]? = w.heap[k]?
 kind : ∀ (k : Nat) (o : Obj), w.heap[k]? = some o → o.isCells = false → w'.heap[k]? = some o
theorem Fr.refl (X : Nat → Prop) (w : World) : Fr X w w := ⟨rfl, rfl, rfl, Nat.le_refl _, fun _ _ _ => rfl, fun _ _ h _ => h⟩
theorem Fr.trans' {X Y : Nat → Prop} {a b c : World} (h : Fr X a b) (k : Fr Y b c) (hXY : ∀ i, i < a.heap.size → Y i → X i) : Fr X a c :=
 ⟨k.os.trans h.os, k.tape.trans h.tape, k.output.trans h.output, Nat.le_trans h.size k.size, fun i hi hn => (k.block i (Nat.lt_of_lt_of_le hi h.size) (fun y => hn (hXY i hi y))).trans (h.block i hi hn), fun i o hi ho => k.kind i o (h.kind i o hi ho) ho⟩
theorem Fr.trans {X : Nat → Prop} {a b c : World} (h : Fr X a b) (k : Fr X b c) : Fr X a c := h.trans' k fun _ _ x => x
theorem Fr.of_below {X : Nat → Prop} {w w' : World} (h : Below w.heap.size w w') : Fr X w w' := ⟨h.os, h.tape, h.output, h.size, fun k hk _ => h.block k hk, fun k o hk _ => (h.block k (Array.getElem?_eq_some_iff.1 hk).1).trans hk⟩
theorem Fr.below {X : Nat → Prop} {B : Nat} {w w' : World} (h : Fr X w w') (hB : B ≤ w.heap.size) (hX : ∀ k, X k → B ≤ k) : Below B w w' := ⟨h.os, h.tape, h.output, h.size, fun k hk => h.block k (by omega) (fun x => by have := hX k x; omega)⟩
theorem Fr.others {X : Nat → Prop} {w w' : World} (h : Fr X w w') : KeepsOthers w w' := ⟨h.size, h.kind⟩
theorem Fr.keeps {X : Nat → Prop} {w w' : World} (h : Fr X w w') (B : Nat) : KeepsFrom B w w' := h.others.from B
theorem Fr.cell {X : Nat → Prop} {w w' : World} (h : Fr X w w') {p : Addr} (hp : p.block < w.heap.size) (hn : ¬ X p.block) : w'.cell? p = w.cell? p := World.cell?_of_block (w := w) (h.block p.block hp hn)
theorem Fr.frozen {X : Nat → Prop} {w w' : World} (h : Fr X w w') {p : Addr} (hp : p.block < w.heap.size) (hn : ¬ X p.block) : w'.frozen? p = w.frozen? p := World.frozen?_of_block (w := w) (h.block p.block hp hn)
theorem Fr.mono {X Y : Nat → Prop} {w w' : World} (h : Fr X w w') (hXY : ∀ k, k < w.heap.size → X k → Y k) : Fr Y w w' := ⟨h.os, h.tape, h.output, h.size, fun k hk hn => h.block k hk (fun x => hn (hXY k hk x)), h.kind⟩
theorem Fr.setCell {X : Nat → Prop} {w : World} {p : Addr} (hp : X p.block) (v : Value) : Fr X w (w.setCell p v) :=
 ⟨rfl, rfl, rfl, by simp [World.setCell], fun k _ hn => Below.heap_setCell _ _ _ _ (fun e => hn (by subst e; exact hp)), (KeepsOthers.setCell w p v).same⟩
theorem Fr.grown {X : Nat → Prop} {w w' : World} {row : Option Nat} (hg : w.grownBy w' row) (hX : ∀ b, row = some b → X b) (hc : ∀ b o, row = some b → w.heap[b]? = some o → o.isCells = true) : Fr X w w' :=
 ⟨hg.os, hg.tape, hg.output, hg.size, fun k hk hn => hg.block k hk (fun e => hn (hX k e.symm)), fun k o hk ho => (hg.block k (Array.getElem?_eq_some_iff.1 hk).1 (fun e => by have := hc k o e.symm hk; rw [ho] at this; cases this)).trans hk⟩
theorem Fr.drew {X : Nat → Prop} {w w' : World} (h : Fr X w w') : Fr X w w'.drew := h.trans (Fr.of_below (Below.drew (Below.refl _ _)))
theorem OwnL.isCells {w : World} {base t k n : Nat} {v : Value} {U : Nat → Int} (h : OwnL w base t k v n U) : ∀ b o, v.ownBlock = some b → w.heap[b]? = some o → o.isCells = true := by
 intro b o hb ho
 rcases h.2 with ⟨hv, _⟩ | ⟨g, cap, cur, hv, _, hg, _⟩
 · subst hv; cases hb
 · subst hv
   simp only [Value.ownBlock, Option.some.injEq] at hb
   subst hb
   rw [hg] at ho
   cases ho
   rfl
theorem OwnL.sm {w w' : World} {B base t k n : Nat} {v : Value} {U : Nat → Int} (h : OwnL w base t k v n U) (hs : Sm B w w') : OwnL w' base t k v n U := by
 refine ⟨h.1, ?_⟩
 rcases h.2 with q | ⟨g, cap, cur, hv, hb, hg, rest⟩
 · exact .inl q
 · exact .inr ⟨g, cap, cur, hv, hb, hs.cells _ _ hg rfl, rest⟩
theorem OwnL.frame {X : Nat → Prop} {w w' : World} {base t k n : Nat} {v : Value} {U : Nat → Int} (h : OwnL w base t k v n U) (hs : Fr X w w') (hX : ∀ b, v.ownBlock = some b → ¬ X b) : OwnL w' base t k v n U := by
 refine ⟨h.1, ?_⟩
 rcases h.2 with q | ⟨g, cap, cur, hv, hb, hg, rest⟩
 · exact .inl q
 · exact .inr ⟨g, cap, cur, hv, hb, (hs.block _ (Array.getElem?_eq_some_iff.1 hg).1 (hX g (by rw [hv]; rfl))).trans hg, rest⟩
theorem OwnL.some {w : World} {base t k n : Nat} {v : Value} {U : Nat → Int} (h : OwnL w base t k v n U) (hn : 0 < n) : ∃ g c, v = .slice (Option.some ⟨g, 0, none⟩) n c := by
 rcases h.2 with ⟨_, e⟩ | ⟨g, cap, cur, hv, _⟩
 · omega
 · exact ⟨g, cap, hv⟩
theorem OwnL.at1 {w : World} {base t n g c : Nat} {U : Nat → Int} (h : OwnL w base t 1 (.slice (Option.some ⟨g, 0, none⟩) n c) n U) {j : Nat} (hj : j < n) : w.cell? ⟨g, j, none⟩ = Option.some (.int .i64 (U j)) := by
 have := World.ownsRow.cellAt h j (by omega)
 rw [this, numL_get (by omega)]
theorem OwnL.fro {w : World} {base t k n g c : Nat} {U : Nat → Int} (h : OwnL w base t k (.slice (Option.some ⟨g, 0, none⟩) n c) n U) (j : Nat) : w.frozen? ⟨g, j, none⟩ = false := World.ownsRow.frozenAt h j
theorem OwnL.put {w : World} {base t n g c : Nat} {U : Nat → Int} (h : OwnL w base t 1 (.slice (Option.some ⟨g, 0, none⟩) n c) n U) {j : Nat} (hj : j < n) (y : Int) : OwnL (w.setCell ⟨g, j, none⟩ (.int .i64 y)) base t 1 (.slice (Option.some ⟨g, 0, none⟩) n c) n (fun q => if q = j then y else U q) := by
 have h1 := (World.ownsRow.stored h j (.int .i64 y)).1
 unfold OwnL
 rw [show numL (n * 1) (fun q => if q = j then y else U q) = (numL (n * 1) U).set j (.int .i64 y) from ?_]
 · exact h1
 · apply List.ext_getElem?
   intro q
   rw [List.getElem?_set, numL_len]
   by_cases hq : q < n * 1
   · rw [numL_get hq]
     by_cases e : j = q
     · subst e; simp; omega
     · rw [if_neg e, numL_get hq]; simp [Ne.symm e]
   · rw [List.getElem?_eq_none (by rw [numL_len]; omega)]
     by_cases e : j = q
     · omega
     · rw [if_neg e, List.getElem?_eq_none (by rw [numL_len]; omega)]
def snoc (n : Nat) (U : Nat → Int) (y : Int) : Nat → Int := fun q => if q = n then y else U q
theorem step_app1 {P : Program} {w : World} {ops : Array Oper} {o : Oper} {a : Act} {K : Act → World → Prop} {Q : Exit → Act → World → Prop} {E : Prop} (hgd : o.guard = none) (s x : Operand) (t : TypeId)
 (ho : o.op = .call { callee := .builtin .append, args := #[s, x], argTypes := #[t, t] })
 (base e : Nat) (z : Value) (ht : P.underlying t = some (.slice e)) (hinfo : (P.info? e).map (fun i => (i.zero, i.size, i.bytes)) = some (some z, 1, 8)) (hzs : z.cells.size = 1)
 (v : Value) (n : Nat) (U : Nat → Int) (hs : a.eval s = v) (h : OwnL w base e 1 v n U) (B c : Nat) (y : Int) (hx : a.eval x = .slice (some ⟨B, 0, none⟩) 1 c) (hv : w.cell? ⟨B, 0, none⟩ = some (.int .i64 y))
 (hn : n ≤ 1048576) (hbase : base ≤ w.heap.size) (H : Nat) (hH : w.heap.size = H)
 (hK : ∀ g cap w', OwnL w' base e 1 (.slice (some ⟨g, 0, none⟩) (n + 1) cap) (n + 1) (snoc n U y) → w.grownBy w' v.ownBlock → (v.ownBlock = some g ∨ g = H) → g < w'.heap.size → K (a.put o.dst (.slice (some ⟨g, 0, none⟩) (n + 1) cap)) w') :
 if Region.wanted o (yielded ops a.tmps) = true then Oper.wp P o a w K Q else E := by
 obtain ⟨i, hi, hzz⟩ := Option.map_eq_some_iff.1 hinfo
 simp only [Prod.mk.injEq] at hzz
 obtain ⟨hz, hsz, hby⟩ := hzz
 refine step_append_lies w hgd s x t ho base e i z 1 8 ht hi hz hsz hby hzs (by omega) v n (numL (n * 1) U) hs h ⟨B, 0, none⟩ 1 c [.int .i64 y] hx (by simp) ?_ (by intro u hu; simp at hu; subst hu; rfl) (by omega) (by unfold maxLen; omega) (by omega) hbase H hH ?_
 · intro j u hu
   cases j with
   | zero => simp at hu; subst hu; simpa [Addr.add] using hv
   | succ n => simp at hu
 · intro g cap w' h2 h3 h4 h5
   refine hK g cap w' ?_ h3 h4 h5
   unfold OwnL
   rw [show numL ((n + 1) * 1) (snoc n U y) = numL (n * 1) U ++ [.int .i64 y] from ?_]
   · exact h2
   · apply List.ext_getElem?
     intro q
     rcases Nat.lt_trichotomy q n with l | l | l
     · rw [List.getElem?_append_left (by rw [numL_len]; omega), numL_get (by omega), numL_get (by omega), snoc, if_neg (by omega)]
     · subst l; rw [List.getElem?_append_right (by rw [numL_len]; omega), numL_len, numL_get (by omega)]; simp [snoc]
     · rw [List.getElem?_append_right (by rw [numL_len]; omega), numL_len, List.getElem?_eq_none (by rw [numL_len]; omega), List.getElem?_eq_none (by simp; omega)]
structure Cs (w : World) (cb n : Nat) (C : Nat → Nat → Int) (S : Nat → Value) : Prop where
 hd : ∀ i, i < 12 → w.cell? ⟨cb, i, none⟩ = some (S i)
 nf : ∀ i, i < 12 → w.frozen? ⟨cb, i, none⟩ = false
 own : ∀ i, i < 12 → OwnL w cb 61 1 (S i) n (C i)
 ncb : ∀ i, i < 12 → ∀ b, (S i).ownBlock = some b → b ≠ cb
 dis : ∀ i j, i < 12 → j < 12 → i ≠ j → ∀ b, (S i).ownBlock = some b → (S j).ownBlock ≠ some b
def Xc (S : Nat → Value) : Nat → Prop := fun k => ∃ i, i < 12 ∧ (S i).ownBlock = some k
theorem Cs.lt {w : World} {cb n : Nat} {C : Nat → Nat → Int} {S : Nat → Value} (h : Cs w cb n C S) : cb < w.heap.size := cell_lt (a := ⟨cb, 0, none⟩) (h.hd 0 (by omega))
theorem Cs.xlt {w : World} {cb n : Nat} {C : Nat → Nat → Int} {S : Nat → Value} (h : Cs w cb n C S) {b : Nat} (hb : Xc S b) : cb < b ∧ b < w.heap.size := by
 obtain ⟨i, hi, e⟩ := hb
 have := (h.own i hi).lt b e
 have := h.ncb i hi b e
 omega
theorem Cs.below {w w' : World} {cb n : Nat} {C : Nat → Nat → Int} {S : Nat → Value} (h : Cs w cb n C S) (hb : Below w.heap.size w w') : Cs w' cb n C S :=
 ⟨fun i hi => (hb.cell (p := ⟨cb, i, none⟩) h.lt).trans (h.hd i hi), fun i hi => (hb.frozen (p := ⟨cb, i, none⟩) h.lt).trans (h.nf i hi), fun i hi => (h.own i hi).below hb, h.ncb, h.dis⟩
theorem Cs.sm {w w' : World} {B cb n : Nat} {C : Nat → Nat → Int} {S : Nat → Value} (h : Cs w cb n C S) (hs : Sm B w w') : Cs w' cb n C S :=
 ⟨fun i hi => hs.cell (h.hd i hi), fun i hi => hs.frozen (h.hd i hi) (h.nf i hi), fun i hi => (h.own i hi).sm hs, h.ncb, h.dis⟩
theorem Cs.frame {X : Nat → Prop} {w w' : World} {cb n : Nat} {C : Nat → Nat → Int} {S : Nat → Value} (h : Cs w cb n C S) (hs : Fr X w w') (h0 : ¬ X cb) (hX : ∀ b, Xc S b → ¬ X b) : Cs w' cb n C S :=
 ⟨fun i hi => (hs.cell (p := ⟨cb, i, none⟩) h.lt h0).trans (h.hd i hi), fun i hi => (hs.frozen (p := ⟨cb, i, none⟩) h.lt h0).trans (h.nf i hi), fun i hi => (h.own i hi).frame hs fun b hb => hX b ⟨i, hi, hb⟩, h.ncb, h.dis⟩
theorem Cs.congr {w : World} {cb n : Nat} {C C' : Nat → Nat → Int} {S : Nat → Value} (h : Cs w cb n C S) (e : ∀ i k, i < 12 → k < n → C i k = C' i k) : Cs w cb n C' S :=
 ⟨h.hd, h.nf, fun i hi => (h.own i hi).congr fun q hq => e i q hi (by omega), h.ncb, h.dis⟩
structure Cell1 (w : World) (cb n i k : Nat) (y : Int) (g c : Nat) : Prop where
 hd : w.cell? ⟨cb, i, none⟩ = some (.slice (some ⟨g, 0, none⟩) n c)
 at_ : w.cell? ⟨g, k, none⟩ = some (.int .i64 y)
 fro : w.frozen? ⟨g, k, none⟩ = false
 gl : g < w.heap.size
 cg : cb < g
theorem Cs.at {w : World} {cb n : Nat} {C : Nat → Nat → Int} {S : Nat → Value} (h : Cs w cb n C S) {i k : Nat} (hi : i < 12) (hk : k < n) : ∃ g c, S i = .slice (some ⟨g, 0, none⟩) n c ∧ Cell1 w cb n i k (C i k) g c := by
 obtain ⟨g, c, e⟩ := (h.own i hi).some (by omega)
 have ho := h.own i hi
 have hh := h.hd i hi
 rw [e] at ho hh
 have hl := h.xlt (b := g) ⟨i, hi, by rw [e]; rfl⟩
 exact ⟨g, c, e, hh, ho.at1 hk, ho.fro k, hl.2, hl.1⟩
def setC (C : Nat → Nat → Int) (i k : Nat) (y : Int) : Nat → Nat → Int := fun i' k' => if i' = i ∧ k' = k then y else C i' k'
theorem Cs.set {w : World} {cb n : Nat} {C : Nat → Nat → Int} {S : Nat → Value} (h : Cs w cb n C S) {i k g c : Nat} (hi : i < 12) (hk : k < n) (e : S i = .slice (some ⟨g, 0, none⟩) n c) (y : Int) : Cs (w.setCell ⟨g, k, none⟩ (.int .i64 y)) cb n (setC C i k y) S := by
 have hx : Xc S g := ⟨i, hi, by rw [e]; rfl⟩
 have hl := h.xlt hx
 have hf : Fr (fun b => b = g) w (w.setCell ⟨g, k, none⟩ (.int .i64 y)) := Fr.setCell (X := fun b => b = g) rfl _
 refine ⟨fun j hj => (hf.cell (p := ⟨cb, j, none⟩) h.lt (by show ¬ cb = g; omega)).trans (h.hd j hj), fun j hj => (hf.frozen (p := ⟨cb, j, none⟩) h.lt (by show ¬ cb = g; omega)).trans (h.nf j hj), fun j hj => ?_, h.ncb, h.dis⟩
 by_cases eij : j = i
 · subst eij
   have ho := h.own j hj
   rw [e] at ho ⊢
   exact (ho.put hk y).congr fun q _ => by by_cases eq : q = k <;> simp [setC, eq]
 · refine ((h.own j hj).frame hf fun b hb eb => ?_).congr fun q _ => by simp [setC, eij]
   subst eb
   exact h.dis i j hi hj (Ne.symm eij) b (by rw [e]; rfl) hb
end Go.Proofs.YthijeiehcdoidaaGreat
namespace Go.Proofs.YthijeiehcdoidaaGreat
open Go.RowKit
set_option linter.unusedVariables false
theorem kfa {W w1 : World} (hb : Below W.heap.size W w1) (b : Nat) (h : b < W.heap.size := by ((try simp only [World.size_drew, World.size_alloc, World.size_setCell]); omega)) :
 (∀ o, w1.cell? ⟨b, o, none⟩ = W.cell? ⟨b, o, none⟩) ∧ (∀ o, w1.frozen? ⟨b, o, none⟩ = W.frozen? ⟨b, o, none⟩) ∧ b < w1.heap.size :=
 ⟨fun o => hb.cell (p := ⟨b, o, none⟩) h, fun o => hb.frozen (p := ⟨b, o, none⟩) h, Nat.lt_of_lt_of_le h hb.size⟩
end Go.Proofs.YthijeiehcdoidaaGreat
namespace Go.Proofs.YthijeiehcdoidaaGreat
open Go.RowKit
set_option linter.unusedVariables false
set_option linter.unusedSimpArgs false
end Go.Proofs.YthijeiehcdoidaaGreat
namespace Go.Proofs.YthijeiehcdoidaaGreat
open Go.RowKit
set_option linter.unusedVariables false
section
variable {P : Program} {md : Region.Mode} {ops : Array Oper} {Q : Exit → Act → World → Prop} {S : World → Prop}
theorem td (i j : Nat) {o1 o2 o3 o4 o5 o6 p1 p2 p3 p4 p5 p6} {v u : Value} {fuel : Nat} {listed : Array Bool} {a a' : Act} {w w1 : World} (hS : S w)
 (h : S w1 → wpAnyH P md ops Q S fuel ((listed.setIfInBounds i true).setIfInBounds j true) a' w1)
 (hr : (Region.ready md ops listed = [i, j] ∧ Region.ready md ops (listed.setIfInBounds i true) = [j] ∧ Region.ready md ops (listed.setIfInBounds j true) = [i]) := by exact ⟨by kernel_rfl, by kernel_rfl, by kernel_rfl⟩)
 (hi : ops[i]? = some (Oper.mk o1 o2 o3 o4 o5 o6) := by rfl) (hj : ops[j]? = some (Oper.mk p1 p2 p3 p4 p5 p6) := by rfl)
 (hc : (Region.noSelect ops && ((Oper.mk o1 o2 o3 o4 o5 o6).apart ops (Oper.mk p1 p2 p3 p4 p5 p6) && (i != j))) = true := by kernel_rfl)
 (wi : Region.wanted (Oper.mk o1 o2 o3 o4 o5 o6) (yielded ops a.tmps) = true := by rfl) (wj : Region.wanted (Oper.mk p1 p2 p3 p4 p5 p6) (yielded ops a.tmps) = true := by rfl)
 (vi : (execOp a.eval (Oper.mk o1 o2 o3 o4 o5 o6)).run P w = .ok (.value v) w := by (go_simp; (try with_reducible rfl)))
 (vj : (execOp a.eval (Oper.mk p1 p2 p3 p4 p5 p6)).run P w = .ok (.value u) w1 := by (go_simp; (first | done | exact ⟨rfl, rfl⟩ | with_reducible rfl)))
 (vi1 : (execOp a.eval (Oper.mk o1 o2 o3 o4 o5 o6)).run P w1 = .ok (.value v) w1 := by (go_simp; (try with_reducible rfl)))
 (hS1 : S w1 := by ((try dsimp only); (first | (go_simp; done) | (go_keep; done))))
 (he : (a.put (Oper.mk o1 o2 o3 o4 o5 o6).dst v).put (Oper.mk p1 p2 p3 p4 p5 p6).dst u = a' := by ((try simp only [Act.put, List.setIfInBounds_toArray, List.set_cons_zero, List.set_cons_succ]); (try with_reducible rfl))) :
 wpAnyH P md ops Q S (fuel + 2) listed a w := by
 subst he
 simp only [Bool.and_eq_true] at hc
 obtain ⟨h1, h2, h3⟩ := Oper.apart_spec hc.2.1
 have hne : i ≠ j := by simpa using hc.2.2
 have hsel := Region.noSelect_spec hc.1
 obtain ⟨r0, r1, r2⟩ := hr
 refine ⟨fun e => (by rw [r0] at e; cases e), fun x hx => ?_⟩
 rw [r0] at hx
 rcases List.mem_cons.1 hx with rfl | hx
 · unfold wpOp
   rw [hi]
   simp only [wi, if_true]
   refine .inl ?_
   simp only [Oper.wp, vi, Oper.upon]
   refine ⟨hS, ⟨fun e => (by rw [r1] at e; cases e), fun y hy => ?_⟩⟩
   rw [r1] at hy
   obtain rfl := List.mem_singleton.1 hy
   unfold wpOp
   rw [hj]
   simp only [wanted_put _ a _ v h1, wj, if_true]
   refine .inl ?_
   rw [Oper.wp, execOp_put _ (fun cs b => hsel _ _ cs b hj) a _ v h1, vj]
   exact ⟨hS1, h hS1⟩
 · obtain rfl := List.mem_singleton.1 hx
   unfold wpOp
   rw [hj]
   simp only [wj, if_true]
   refine .inl ?_
   simp only [Oper.wp, vj, Oper.upon]
   refine ⟨hS1, ⟨fun e => (by rw [r2] at e; cases e), fun y hy => ?_⟩⟩
   rw [r2] at hy
   obtain rfl := List.mem_singleton.1 hy
   unfold wpOp
   rw [hi]
   simp only [wanted_put _ a _ u h3, wi, if_true]
   refine .inl ?_
   rw [Oper.wp, execOp_put _ (fun cs b => hsel _ _ cs b hi) a _ u h3, vi1]
   refine ⟨hS1, ?_⟩
   have := h hS1
   rw [Array.setIfInBounds_comm _ _ hne, Act.put_comm a v u h2] at this
   exact this
end
end Go.Proofs.YthijeiehcdoidaaGreat
namespace Go.Proofs.YthijeiehcdoidaaGreat
open Go.RowKit
set_option linter.unusedVariables false
set_option linter.unusedSimpArgs false
theorem run_eq_vec (n d : Nat) (hn : n = d + 1) (a b x y : Int) (w : World) : (Op.equalIn (n + 1) 28 (.agg #[.int .i64 a, .int .i64 b]) (.agg #[.int .i64 x, .int .i64 y])).run Tryz.prog w = .ok (a == x && b == y) w := by
 have hi : Tryz.prog.underlying 3 = some (.int .i64) := by kernel_rfl
 have hs : Tryz.prog.stoodInHeld 28 = false := by kernel_rfl
 have hp : ∀ w, (program).run Tryz.prog w = .ok Tryz.prog w := fun w => by rfl
 have p0 : ∀ (a b : Int) w, (part 3 #[.int .i64 a, .int .i64 b] 0).run Tryz.prog w = .ok (.int .i64 a) w := fun a b w => by kernel_rfl
 have p1 : ∀ (a b : Int) w, (part 3 #[.int .i64 a, .int .i64 b] 1).run Tryz.prog w = .ok (.int .i64 b) w := fun a b w => by kernel_rfl
 simp only [Op.equalIn, Sem.run_bind, run_underlying Tryz.underlying28, Result.andThen_ok, hp, hs, Bool.false_eq_true, if_false, Sem.run_pure]
 subst hn
 have h0 : ∀ w, (Op.equalIn (d + 1) 3 (.int .i64 a) (.int .i64 x)).run Tryz.prog w = .ok (a == x) w := fun w => run_equalIn_int w d 3 .i64 .i64 a x hi
 have h1 : ∀ w, (Op.equalIn (d + 1) 3 (.int .i64 b) (.int .i64 y)).run Tryz.prog w = .ok (b == y) w := fun w => run_equalIn_int w d 3 .i64 .i64 b y hi
 simp only [List.forIn_toArray, List.forIn_cons, List.forIn_nil, Sem.run_bind, p0, h0, Result.andThen_ok, Sem.run_ite, Sem.run_pure]
 cases hx : (a == x) <;> cases hy : (b == y) <;> simp [Sem.run_bind, p0, p1, h0, h1, Sem.run_ite, hx, hy]
theorem eq_vec0 (a b x y : Int) (w : World) : (Op.equalIn 10000 28 (.agg #[.int .i64 a, .int .i64 b]) (.agg #[.int .i64 x, .int .i64 y])).run Tryz.prog w = .ok (a == x && b == y) w := run_eq_vec 9999 9998 rfl a b x y w
theorem run_eq_shape (n d : Nat) (hn : n = d + 1) (a b c : Int) (w : World) : (Op.equalIn (n + 1) 39 (.agg #[.int .i64 a, .int .i64 b, .int .i64 c]) (.agg #[.int .i64 a, .int .i64 b, .int .i64 c])).run Tryz.prog w = .ok true w := by
 have hi : Tryz.prog.underlying 3 = some (.int .i64) := by kernel_rfl
 have hs : Tryz.prog.stoodInHeld 39 = false := by kernel_rfl
 have hp : ∀ w, (program).run Tryz.prog w = .ok Tryz.prog w := fun w => by rfl
 have p0 : ∀ (a b c : Int) w, (part 3 #[.int .i64 a, .int .i64 b, .int .i64 c] 0).run Tryz.prog w = .ok (.int .i64 a) w := fun a b c w => by kernel_rfl
 have p1 : ∀ (a b c : Int) w, (part 3 #[.int .i64 a, .int .i64 b, .int .i64 c] 1).run Tryz.prog w = .ok (.int .i64 b) w := fun a b c w => by kernel_rfl
 have p2 : ∀ (a b c : Int) w, (part 3 #[.int .i64 a, .int .i64 b, .int .i64 c] 2).run Tryz.prog w = .ok (.int .i64 c) w := fun a b c w => by kernel_rfl
 simp only [Op.equalIn, Sem.run_bind, run_underlying Tryz.underlying39, Result.andThen_ok, hp, hs, Bool.false_eq_true, if_false, Sem.run_pure]
 subst hn
 have h0 : ∀ w, (Op.equalIn (d + 1) 3 (.int .i64 a) (.int .i64 a)).run Tryz.prog w = .ok true w := fun w => by rw [run_equalIn_int w (d + 0) 3 .i64 .i64 a a hi]; simp
 have h1 : ∀ w, (Op.equalIn (d + 1) 3 (.int .i64 b) (.int .i64 b)).run Tryz.prog w = .ok true w := fun w => by rw [run_equalIn_int w (d + 0) 3 .i64 .i64 b b hi]; simp
 have h2 : ∀ w, (Op.equalIn (d + 1) 3 (.int .i64 c) (.int .i64 c)).run Tryz.prog w = .ok true w := fun w => by rw [run_equalIn_int w (d + 0) 3 .i64 .i64 c c hi]; simp
 simp only [List.forIn_toArray, List.forIn_cons, List.forIn_nil, Sem.run_bind, p0, h0, Result.andThen_ok, Sem.run_ite, Sem.run_pure]
 simp [Sem.run_bind, p0, h0, p1, h1, p2, h2, Sem.run_ite]
theorem run_eq_body (n d : Nat) (hn : n = d + 3) (x0 x1 x2 x3 x4 x5 x6 x7 x8 x9 x10 x11 : Int) (w : World) : (Op.equalIn (n + 1) 41 (.agg #[.int .i64 x0, .int .i64 x1, .int .i64 x2, .int .i64 x3, .int .i64 x4, .int .i64 x5, .int .i64 x6, .int .i64 x7, .int .i64 x8, .int .i64 x9, .int .i64 x10, .int .i64 x11]) (.agg #[.int .i64 x0, .int .i64 x1, .int .i64 x2, .int .i64 x3, .int .i64 x4, .int .i64 x5, .int .i64 x6, .int .i64 x7, .int .i64 x8, .int .i64 x9, .int .i64 x10, .int .i64 x11])).run Tryz.prog w = .ok true w := by
 have hi : Tryz.prog.underlying 3 = some (.int .i64) := by kernel_rfl
 have hs : Tryz.prog.stoodInHeld 41 = false := by kernel_rfl
 have hp : ∀ w, (program).run Tryz.prog w = .ok Tryz.prog w := fun w => by rfl
 have p0 : ∀ (x0 x1 x2 x3 x4 x5 x6 x7 x8 x9 x10 x11 : Int) w, (part 3 #[.int .i64 x0, .int .i64 x1, .int .i64 x2, .int .i64 x3, .int .i64 x4, .int .i64 x5, .int .i64 x6, .int .i64 x7, .int .i64 x8, .int .i64 x9, .int .i64 x10, .int .i64 x11] 0).run Tryz.prog w = .ok (.int .i64 x0) w := fun x0 x1 x2 x3 x4 x5 x6 x7 x8 x9 x10 x11 w => by kernel_rfl
 have p1 : ∀ (x0 x1 x2 x3 x4 x5 x6 x7 x8 x9 x10 x11 : Int) w, (part 39 #[.int .i64 x0, .int .i64 x1, .int .i64 x2, .int .i64 x3, .int .i64 x4, .int .i64 x5, .int .i64 x6, .int .i64 x7, .int .i64 x8, .int .i64 x9, .int .i64 x10, .int .i64 x11] 1).run Tryz.prog w = .ok (.agg #[.int .i64 x1, .int .i64 x2, .int .i64 x3]) w := fun x0 x1 x2 x3 x4 x5 x6 x7 x8 x9 x10 x11 w => by kernel_rfl
 have p2 : ∀ (x0 x1 x2 x3 x4 x5 x6 x7 x8 x9 x10 x11 : Int) w, (part 28 #[.int .i64 x0, .int .i64 x1, .int .i64 x2, .int .i64 x3, .int .i64 x4, .int .i64 x5, .int .i64 x6, .int .i64 x7, .int .i64 x8, .int .i64 x9, .int .i64 x10, .int .i64 x11] 4).run Tryz.prog w = .ok (.agg #[.int .i64 x4, .int .i64 x5]) w := fun x0 x1 x2 x3 x4 x5 x6 x7 x8 x9 x10 x11 w => by kernel_rfl
 have p3 : ∀ (x0 x1 x2 x3 x4 x5 x6 x7 x8 x9 x10 x11 : Int) w, (part 28 #[.int .i64 x0, .int .i64 x1, .int .i64 x2, .int .i64 x3, .int .i64 x4, .int .i64 x5, .int .i64 x6, .int .i64 x7, .int .i64 x8, .int .i64 x9, .int .i64 x10, .int .i64 x11] 6).run Tryz.prog w = .ok (.agg #[.int .i64 x6, .int .i64 x7]) w := fun x0 x1 x2 x3 x4 x5 x6 x7 x8 x9 x10 x11 w => by kernel_rfl
 have p4 : ∀ (x0 x1 x2 x3 x4 x5 x6 x7 x8 x9 x10 x11 : Int) w, (part 3 #[.int .i64 x0, .int .i64 x1, .int .i64 x2, .int .i64 x3, .int .i64 x4, .int .i64 x5, .int .i64 x6, .int .i64 x7, .int .i64 x8, .int .i64 x9, .int .i64 x10, .int .i64 x11] 8).run Tryz.prog w = .ok (.int .i64 x8) w := fun x0 x1 x2 x3 x4 x5 x6 x7 x8 x9 x10 x11 w => by kernel_rfl
 have p5 : ∀ (x0 x1 x2 x3 x4 x5 x6 x7 x8 x9 x10 x11 : Int) w, (part 3 #[.int .i64 x0, .int .i64 x1, .int .i64 x2, .int .i64 x3, .int .i64 x4, .int .i64 x5, .int .i64 x6, .int .i64 x7, .int .i64 x8, .int .i64 x9, .int .i64 x10, .int .i64 x11] 9).run Tryz.prog w = .ok (.int .i64 x9) w := fun x0 x1 x2 x3 x4 x5 x6 x7 x8 x9 x10 x11 w => by kernel_rfl
 have p6 : ∀ (x0 x1 x2 x3 x4 x5 x6 x7 x8 x9 x10 x11 : Int) w, (part 3 #[.int .i64 x0, .int .i64 x1, .int .i64 x2, .int .i64 x3, .int .i64 x4, .int .i64 x5, .int .i64 x6, .int .i64 x7, .int .i64 x8, .int .i64 x9, .int .i64 x10, .int .i64 x11] 10).run Tryz.prog w = .ok (.int .i64 x10) w := fun x0 x1 x2 x3 x4 x5 x6 x7 x8 x9 x10 x11 w => by kernel_rfl
 have p7 : ∀ (x0 x1 x2 x3 x4 x5 x6 x7 x8 x9 x10 x11 : Int) w, (part 3 #[.int .i64 x0, .int .i64 x1, .int .i64 x2, .int .i64 x3, .int .i64 x4, .int .i64 x5, .int .i64 x6, .int .i64 x7, .int .i64 x8, .int .i64 x9, .int .i64 x10, .int .i64 x11] 11).run Tryz.prog w = .ok (.int .i64 x11) w := fun x0 x1 x2 x3 x4 x5 x6 x7 x8 x9 x10 x11 w => by kernel_rfl
 simp only [Op.equalIn, Sem.run_bind, run_underlying Tryz.underlying41, Result.andThen_ok, hp, hs, Bool.false_eq_true, if_false, Sem.run_pure]
 subst hn
 have h0 : ∀ w, (Op.equalIn (d + 3) 3 (.int .i64 x0) (.int .i64 x0)).run Tryz.prog w = .ok true w := fun w => by rw [run_equalIn_int w (d + 2) 3 .i64 .i64 x0 x0 hi]; simp
 have h1 : ∀ w, (Op.equalIn (d + 3) 39 (.agg #[.int .i64 x1, .int .i64 x2, .int .i64 x3]) (.agg #[.int .i64 x1, .int .i64 x2, .int .i64 x3])).run Tryz.prog w = .ok true w := fun w => run_eq_shape (d + 2) (d + 1) rfl x1 x2 x3 w
 have h2 : ∀ w, (Op.equalIn (d + 3) 28 (.agg #[.int .i64 x4, .int .i64 x5]) (.agg #[.int .i64 x4, .int .i64 x5])).run Tryz.prog w = .ok true w := fun w => by rw [run_eq_vec (d + 2) (d + 1) rfl]; simp
 have h3 : ∀ w, (Op.equalIn (d + 3) 28 (.agg #[.int .i64 x6, .int .i64 x7]) (.agg #[.int .i64 x6, .int .i64 x7])).run Tryz.prog w = .ok true w := fun w => by rw [run_eq_vec (d + 2) (d + 1) rfl]; simp
 have h4 : ∀ w, (Op.equalIn (d + 3) 3 (.int .i64 x8) (.int .i64 x8)).run Tryz.prog w = .ok true w := fun w => by rw [run_equalIn_int w (d + 2) 3 .i64 .i64 x8 x8 hi]; simp
 have h5 : ∀ w, (Op.equalIn (d + 3) 3 (.int .i64 x9) (.int .i64 x9)).run Tryz.prog w = .ok true w := fun w => by rw [run_equalIn_int w (d + 2) 3 .i64 .i64 x9 x9 hi]; simp
 have h6 : ∀ w, (Op.equalIn (d + 3) 3 (.int .i64 x10) (.int .i64 x10)).run Tryz.prog w = .ok true w := fun w => by rw [run_equalIn_int w (d + 2) 3 .i64 .i64 x10 x10 hi]; simp
 have h7 : ∀ w, (Op.equalIn (d + 3) 3 (.int .i64 x11) (.int .i64 x11)).run Tryz.prog w = .ok true w := fun w => by rw [run_equalIn_int w (d + 2) 3 .i64 .i64 x11 x11 hi]; simp
 simp only [List.forIn_toArray, List.forIn_cons, List.forIn_nil, Sem.run_bind, p0, h0, Result.andThen_ok, Sem.run_ite, Sem.run_pure]
 simp [Sem.run_bind, p0, h0, p1, h1, p2, h2, p3, h3, p4, h4, p5, h5, p6, h6, p7, h7, Sem.run_ite]
theorem eq_body0 (x0 x1 x2 x3 x4 x5 x6 x7 x8 x9 x10 x11 : Int) (w : World) : (Op.equalIn 10000 41 (.agg #[.int .i64 x0, .int .i64 x1, .int .i64 x2, .int .i64 x3, .int .i64 x4, .int .i64 x5, .int .i64 x6, .int .i64 x7, .int .i64 x8, .int .i64 x9, .int .i64 x10, .int .i64 x11]) (.agg #[.int .i64 x0, .int .i64 x1, .int .i64 x2, .int .i64 x3, .int .i64 x4, .int .i64 x5, .int .i64 x6, .int .i64 x7, .int .i64 x8, .int .i64 x9, .int .i64 x10, .int .i64 x11])).run Tryz.prog w = .ok true w := run_eq_body 9999 9996 rfl x0 x1 x2 x3 x4 x5 x6 x7 x8 x9 x10 x11 w
end Go.Proofs.YthijeiehcdoidaaGreat
