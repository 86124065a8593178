/- Texts of a proof. -/
import Derived.Test.YtalkkjhehndaoaaGreatB3
import Derived.Laws.OwnMore
import Derived.Test.YtalkkjhehndaoaaGreatB1
import Derived.LoopNIn
import Derived.LoopIn
import Derived.OwnWalkIn
import Derived.RangeFuncBound
import Derived.Shelf.Abstract
import Derived.Deep.DeepCutAuto
import Derived.Test.YtalkkjhehndaoaaGreatB2
import Derived.Deep.QuietTactic
import Derived.BigQuiet
import Derived.Deep.RegionWith
import Derived.Deep.RegionHeld3
set_option maxHeartbeats 16000000
set_option maxRecDepth 20000
namespace Go.Proofs.YtalkkjhehndaoaaGreat
open Go.RowKit
set_option linter.unusedVariables false
set_option linter.unusedSimpArgs false
theorem _root_.Go.RowKit.Below.ofDr {B : Nat} {w w' : World} (h : Below B w.drew w') : Below B w w' := ⟨h.os, h.tape, h.output, h.size, h.block⟩
structure Fr (X : Nat → Prop) (w w' : World) : Prop where
 os : w'.os = w.os
 tape : w'.tape = w.tape
 output : w'.output = w.output
 size : w.heap.size ≤ w'.heap.size
 block : ∀ k, k < w.heap.size → ¬ X k → w'.heap[k]? = w.heap[k]?
 kind : ∀ (k : Nat) (o : Obj), w.heap[k]? = some o → o.isCells = false → w'.heap[k]? = some o
theorem Fr.refl (X : Nat → Prop) (w : World) : Fr X w w := ⟨rfl, rfl, rfl, Nat.le_refl _, fun _ _ _ => rfl, fun _ _ h _ => h⟩
theorem Fr.trans' {X Y : Nat → Prop} {a b c : World} (h : Fr X a b) (k : Fr Y b c) (hXY : ∀ i, i < a.heap.size → Y i → X i) : Fr X a c :=
 ⟨k.os.trans h.os, k.tape.trans h.tape, k.output.trans h.output, Nat.le_trans h.size k.size, fun i hi hn => (k.block i (Nat.lt_of_lt_of_le hi h.size) (fun y => hn (hXY i hi y))).trans (h.block i hi hn), fun i o hi ho => k.kind i o (h.kind i o hi ho) ho⟩
theorem Fr.trans {X : Nat → Prop} {a b c : World} (h : Fr X a b) (k : Fr X b c) : Fr X a c := h.trans' k fun _ _ x => x
theorem Fr.of_below {X : Nat → Prop} {w w' : World} (h : Below w.heap.size w w') : Fr X w w' := ⟨h.os, h.tape, h.output, h.size, fun k hk _ => h.block k hk, fun k o hk _ => (h.block k (Array.getElem?_eq_some_iff.1 hk).1).trans hk⟩
theorem Fr.below {X : Nat → Prop} {B : Nat} {w w' : World} (h : Fr X w w') (hB : B ≤ w.heap.size) (hX : ∀ k, X k → B ≤ k) : Below B w w' := ⟨h.os, h.tape, h.output, h.size, fun k hk => h.block k (by omega) (fun x => by have := hX k x; omega)⟩
theorem Fr.others {X : Nat → Prop} {w w' : World} (h : Fr X w w') : KeepsOthers w w' := ⟨h.size, h.kind⟩
theorem Fr.keeps {X : Nat → Prop} {w w' : World} (h : Fr X w w') (B : Nat) : KeepsFrom B w w' := h.others.from B
theorem Fr.cell {X : Nat → Prop} {w w' : World} (h : Fr X w w') {p : Addr} (hp : p.block < w.heap.size) (hn : ¬ X p.block) : w'.cell? p = w.cell? p := World.cell?_of_block (w := w) (h.block p.block hp hn)
theorem Fr.frozen {X : Nat → Prop} {w w' : World} (h : Fr X w w') {p : Addr} (hp : p.block < w.heap.size) (hn : ¬ X p.block) : w'.frozen? p = w.frozen? p := World.frozen?_of_block (w := w) (h.block p.block hp hn)
theorem Fr.mono {X Y : Nat → Prop} {w w' : World} (h : Fr X w w') (hXY : ∀ k, k < w.heap.size → X k → Y k) : Fr Y w w' := ⟨h.os, h.tape, h.output, h.size, fun k hk hn => h.block k hk (fun x => hn (hXY k hk x)), h.kind⟩
theorem Fr.setCell {X : Nat → Prop} {w : World} {p : Addr} (hp : X p.block) (v : Value) : Fr X w (w.setCell p v) :=
 ⟨rfl, rfl, rfl, by simp [World.setCell], fun k _ hn => Below.heap_setCell _ _ _ _ (fun e => hn (by subst e; exact hp)), (KeepsOthers.setCell w p v).same⟩
theorem Fr.grown {X : Nat → Prop} {w w' : World} {row : Option Nat} (hg : w.grownBy w' row) (hX : ∀ b, row = some b → X b) (hc : ∀ b o, row = some b → w.heap[b]? = some o → o.isCells = true) : Fr X w w' :=
 ⟨hg.os, hg.tape, hg.output, hg.size, fun k hk hn => hg.block k hk (fun e => hn (hX k e.symm)), fun k o hk ho => (hg.block k (Array.getElem?_eq_some_iff.1 hk).1 (fun e => by have := hc k o e.symm hk; rw [ho] at this; cases this)).trans hk⟩
theorem Fr.drew {X : Nat → Prop} {w w' : World} (h : Fr X w w') : Fr X w w'.drew := h.trans (Fr.of_below (Below.drew (Below.refl _ _)))
theorem OwnL.isCells {w : World} {base t k n : Nat} {v : Value} {U : Nat → Int} (h : OwnL w base t k v n U) : ∀ b o, v.ownBlock = some b → w.heap[b]? = some o → o.isCells = true := by
 intro b o hb ho
 rcases h.2 with ⟨hv, _⟩ | ⟨g, cap, cur, hv, _, hg, _⟩
 · subst hv; cases hb
 · subst hv
   simp only [Value.ownBlock, Option.some.injEq] at hb
   subst hb
   rw [hg] at ho
   cases ho
   rfl
theorem OwnL.sm {w w' : World} {B base t k n : Nat} {v : Value} {U : Nat → Int} (h : OwnL w base t k v n U) (hs : Sm B w w') : OwnL w' base t k v n U := by
 refine ⟨h.1, ?_⟩
 rcases h.2 with q | ⟨g, cap, cur, hv, hb, hg, rest⟩
 · exact .inl q
 · exact .inr ⟨g, cap, cur, hv, hb, hs.cells _ _ hg rfl, rest⟩
theorem OwnL.frame {X : Nat → Prop} {w w' : World} {base t k n : Nat} {v : Value} {U : Nat → Int} (h : OwnL w base t k v n U) (hs : Fr X w w') (hX : ∀ b, v.ownBlock = some b → ¬ X b) : OwnL w' base t k v n U := by
 refine ⟨h.1, ?_⟩
 rcases h.2 with q | ⟨g, cap, cur, hv, hb, hg, rest⟩
 · exact .inl q
 · exact .inr ⟨g, cap, cur, hv, hb, (hs.block _ (Array.getElem?_eq_some_iff.1 hg).1 (hX g (by rw [hv]; rfl))).trans hg, rest⟩
theorem OwnL.some {w : World} {base t k n : Nat} {v : Value} {U : Nat → Int} (h : OwnL w base t k v n U) (hn : 0 < n) : ∃ g c, v = .slice (Option.some ⟨g, 0, none⟩) n c := by
 rcases h.2 with ⟨_, e⟩ | ⟨g, cap, cur, hv, _⟩
 · omega
 · exact ⟨g, cap, hv⟩
theorem OwnL.at1 {w : World} {base t n g c : Nat} {U : Nat → Int} (h : OwnL w base t 1 (.slice (Option.some ⟨g, 0, none⟩) n c) n U) {j : Nat} (hj : j < n) : w.cell? ⟨g, j, none⟩ = Option.some (.int .i64 (U j)) := by
 have := World.ownsRow.cellAt h j (by omega)
 rw [this, numL_get (by omega)]
theorem OwnL.fro {w : World} {base t k n g c : Nat} {U : Nat → Int} (h : OwnL w base t k (.slice (Option.some ⟨g, 0, none⟩) n c) n U) (j : Nat) : w.frozen? ⟨g, j, none⟩ = false := World.ownsRow.frozenAt h j
theorem OwnL.put {w : World} {base t n g c : Nat} {U : Nat → Int} (h : OwnL w base t 1 (.slice (Option.some ⟨g, 0, none⟩) n c) n U) {j : Nat} (hj : j < n) (y : Int) : OwnL (w.setCell ⟨g, j, none⟩ (.int .i64 y)) base t 1 (.slice (Option.some ⟨g, 0, none⟩) n c) n (fun q => if q = j then y else U q) := by
 have h1 := (World.ownsRow.stored h j (.int .i64 y)).1
 unfold OwnL
 rw [show numL (n * 1) (fun q => if q = j then y else U q) = (numL (n * 1) U).set j (.int .i64 y) from ?_]
 · exact h1
 · apply List.ext_getElem?
   intro q
   rw [List.getElem?_set, numL_len]
   by_cases hq : q < n * 1
   · rw [numL_get hq]
     by_cases e : j = q
     · subst e; simp; omega
     · rw [if_neg e, numL_get hq]; simp [Ne.symm e]
   · rw [List.getElem?_eq_none (by rw [numL_len]; omega)]
     by_cases e : j = q
     · omega
     · rw [if_neg e, List.getElem?_eq_none (by rw [numL_len]; omega)]
def snoc (n : Nat) (U : Nat → Int) (y : Int) : Nat → Int := fun q => if q = n then y else U q
theorem step_app1 {P : Program} {w : World} {ops : Array Oper} {o : Oper} {a : Act} {K : Act → World → Prop} {Q : Exit → Act → World → Prop} {E : Prop} (hgd : o.guard = none) (s x : Operand) (t : TypeId)
 (ho : o.op = .call { callee := .builtin .append, args := #[s, x], argTypes := #[t, t] })
 (base e : Nat) (z : Value) (ht : P.underlying t = some (.slice e)) (hinfo : (P.info? e).map (fun i => (i.zero, i.size, i.bytes)) = some (some z, 1, 8)) (hzs : z.cells.size = 1)
 (v : Value) (n : Nat) (U : Nat → Int) (hs : a.eval s = v) (h : OwnL w base e 1 v n U) (B c : Nat) (y : Int) (hx : a.eval x = .slice (some ⟨B, 0, none⟩) 1 c) (hv : w.cell? ⟨B, 0, none⟩ = some (.int .i64 y))
 (hn : n ≤ 1048576) (hbase : base ≤ w.heap.size) (H : Nat) (hH : w.heap.size = H)
 (hK : ∀ g cap w', OwnL w' base e 1 (.slice (some ⟨g, 0, none⟩) (n + 1) cap) (n + 1) (snoc n U y) → w.grownBy w' v.ownBlock → (v.ownBlock = some g ∨ g = H) → g < w'.heap.size → K (a.put o.dst (.slice (some ⟨g, 0, none⟩) (n + 1) cap)) w') :
 if Region.wanted o (yielded ops a.tmps) = true then Oper.wp P o a w K Q else E := by
 obtain ⟨i, hi, hzz⟩ := Option.map_eq_some_iff.1 hinfo
 simp only [Prod.mk.injEq] at hzz
 obtain ⟨hz, hsz, hby⟩ := hzz
 refine step_append_lies w hgd s x t ho base e i z 1 8 ht hi hz hsz hby hzs (by omega) v n (numL (n * 1) U) hs h ⟨B, 0, none⟩ 1 c [.int .i64 y] hx (by simp) ?_ (by intro u hu; simp at hu; subst hu; rfl) (by omega) (by unfold maxLen; omega) (by omega) hbase H hH ?_
 · intro j u hu
   cases j with
   | zero => simp at hu; subst hu; simpa [Addr.add] using hv
   | succ n => simp at hu
 · intro g cap w' h2 h3 h4 h5
   refine hK g cap w' ?_ h3 h4 h5
   unfold OwnL
   rw [show numL ((n + 1) * 1) (snoc n U y) = numL (n * 1) U ++ [.int .i64 y] from ?_]
   · exact h2
   · apply List.ext_getElem?
     intro q
     rcases Nat.lt_trichotomy q n with l | l | l
     · rw [List.getElem?_append_left (by rw [numL_len]; omega), numL_get (by omega), numL_get (by omega), snoc, if_neg (by omega)]
     · subst l; rw [List.getElem?_append_right (by rw [numL_len]; omega), numL_len, numL_get (by omega)]; simp [snoc]
     · rw [List.getElem?_append_right (by rw [numL_len]; omega), numL_len, List.getElem?_eq_none (by rw [numL_len]; omega), List.getElem?_eq_none (by simp; omega)]
structure Cs (w : World) (cb n : Nat) (C : Nat → Nat → Int) (S : Nat → Value) : Prop where
 hd : ∀ i, i < 12 → w.cell? ⟨cb, i, none⟩ = some (S i)
 nf : ∀ i, i < 12 → w.frozen? ⟨cb, i, none⟩ = false
 own : ∀ i, i < 12 → OwnL w cb 70 1 (S i) n (C i)
 ncb : ∀ i, i < 12 → ∀ b, (S i).ownBlock = some b → b ≠ cb
 dis : ∀ i j, i < 12 → j < 12 → i ≠ j → ∀ b, (S i).ownBlock = some b → (S j).ownBlock ≠ some b
def Xc (S : Nat → Value) : Nat → Prop := fun k => ∃ i, i < 12 ∧ (S i).ownBlock = some k
theorem Cs.lt {w : World} {cb n : Nat} {C : Nat → Nat → Int} {S : Nat → Value} (h : Cs w cb n C S) : cb < w.heap.size := cell_lt (a := ⟨cb, 0, none⟩) (h.hd 0 (by omega))
theorem Cs.xlt {w : World} {cb n : Nat} {C : Nat → Nat → Int} {S : Nat → Value} (h : Cs w cb n C S) {b : Nat} (hb : Xc S b) : cb < b ∧ b < w.heap.size := by
 obtain ⟨i, hi, e⟩ := hb
 have := (h.own i hi).lt b e
 have := h.ncb i hi b e
 omega
theorem Cs.below {w w' : World} {cb n : Nat} {C : Nat → Nat → Int} {S : Nat → Value} (h : Cs w cb n C S) (hb : Below w.heap.size w w') : Cs w' cb n C S :=
 ⟨fun i hi => (hb.cell (p := ⟨cb, i, none⟩) h.lt).trans (h.hd i hi), fun i hi => (hb.frozen (p := ⟨cb, i, none⟩) h.lt).trans (h.nf i hi), fun i hi => (h.own i hi).below hb, h.ncb, h.dis⟩
theorem Cs.sm {w w' : World} {B cb n : Nat} {C : Nat → Nat → Int} {S : Nat → Value} (h : Cs w cb n C S) (hs : Sm B w w') : Cs w' cb n C S :=
 ⟨fun i hi => hs.cell (h.hd i hi), fun i hi => hs.frozen (h.hd i hi) (h.nf i hi), fun i hi => (h.own i hi).sm hs, h.ncb, h.dis⟩
theorem Cs.frame {X : Nat → Prop} {w w' : World} {cb n : Nat} {C : Nat → Nat → Int} {S : Nat → Value} (h : Cs w cb n C S) (hs : Fr X w w') (h0 : ¬ X cb) (hX : ∀ b, Xc S b → ¬ X b) : Cs w' cb n C S :=
 ⟨fun i hi => (hs.cell (p := ⟨cb, i, none⟩) h.lt h0).trans (h.hd i hi), fun i hi => (hs.frozen (p := ⟨cb, i, none⟩) h.lt h0).trans (h.nf i hi), fun i hi => (h.own i hi).frame hs fun b hb => hX b ⟨i, hi, hb⟩, h.ncb, h.dis⟩
theorem Cs.congr {w : World} {cb n : Nat} {C C' : Nat → Nat → Int} {S : Nat → Value} (h : Cs w cb n C S) (e : ∀ i k, i < 12 → k < n → C i k = C' i k) : Cs w cb n C' S :=
 ⟨h.hd, h.nf, fun i hi => (h.own i hi).congr fun q hq => e i q hi (by omega), h.ncb, h.dis⟩
structure Cell1 (w : World) (cb n i k : Nat) (y : Int) (g c : Nat) : Prop where
 hd : w.cell? ⟨cb, i, none⟩ = some (.slice (some ⟨g, 0, none⟩) n c)
 at_ : w.cell? ⟨g, k, none⟩ = some (.int .i64 y)
 fro : w.frozen? ⟨g, k, none⟩ = false
 gl : g < w.heap.size
 cg : cb < g
theorem Cs.at {w : World} {cb n : Nat} {C : Nat → Nat → Int} {S : Nat → Value} (h : Cs w cb n C S) {i k : Nat} (hi : i < 12) (hk : k < n) : ∃ g c, S i = .slice (some ⟨g, 0, none⟩) n c ∧ Cell1 w cb n i k (C i k) g c := by
 obtain ⟨g, c, e⟩ := (h.own i hi).some (by omega)
 have ho := h.own i hi
 have hh := h.hd i hi
 rw [e] at ho hh
 have hl := h.xlt (b := g) ⟨i, hi, by rw [e]; rfl⟩
 exact ⟨g, c, e, hh, ho.at1 hk, ho.fro k, hl.2, hl.1⟩
def setC (C : Nat → Nat → Int) (i k : Nat) (y : Int) : Nat → Nat → Int := fun i' k' => if i' = i ∧ k' = k then y else C i' k'
theorem Cs.set {w : World} {cb n : Nat} {C : Nat → Nat → Int} {S : Nat → Value} (h : Cs w cb n C S) {i k g c : Nat} (hi : i < 12) (hk : k < n) (e : S i = .slice (some ⟨g, 0, none⟩) n c) (y : Int) : Cs (w.setCell ⟨g, k, none⟩ (.int .i64 y)) cb n (setC C i k y) S := by
 have hx : Xc S g := ⟨i, hi, by rw [e]; rfl⟩
 have hl := h.xlt hx
 have hf : Fr (fun b => b = g) w (w.setCell ⟨g, k, none⟩ (.int .i64 y)) := Fr.setCell (X := fun b => b = g) rfl _
 refine ⟨fun j hj => (hf.cell (p := ⟨cb, j, none⟩) h.lt (by show ¬ cb = g; omega)).trans (h.hd j hj), fun j hj => (hf.frozen (p := ⟨cb, j, none⟩) h.lt (by show ¬ cb = g; omega)).trans (h.nf j hj), fun j hj => ?_, h.ncb, h.dis⟩
 by_cases eij : j = i
 · subst eij
   have ho := h.own j hj
   rw [e] at ho ⊢
   exact (ho.put hk y).congr fun q _ => by by_cases eq : q = k <;> simp [setC, eq]
 · refine ((h.own j hj).frame hf fun b hb eb => ?_).congr fun q _ => by simp [setC, eij]
   subst eb
   exact h.dis i j hi hj (Ne.symm eij) b (by rw [e]; rfl) hb
end Go.Proofs.YtalkkjhehndaoaaGreat
namespace Go.Proofs.YtalkkjhehndaoaaGreat
open Go.RowKit Go.Shelf
set_option linter.unusedVariables false
set_option linter.unusedSimpArgs false
abbrev hdk (cb k : Nat) : Value := .agg #[.int .i64 (k : Int), .pointer (some ⟨cb, 0, none⟩)]
theorem handle_any (cb k : Nat) (w : World) :
 Calls Tryz.prog 48 #[.pointer (some ⟨cb, 0, none⟩), .int .i64 (k : Int)] w fun e w' => e = .returned (hdk cb k) ∧ Below w.heap.size w w' := by
 go_enter Tryz.func48, Tryz.ntmps48
 go_wp2
 exact bodyPost_ret (v := hdk cb k) (by simp [results, Tryz.results48, go_sem, *]) rfl ⟨rfl, by repeat (first | with_reducible apply Below.refl | (with_reducible apply Below.setCell; rotate_left; focus (first | omega | (simp; done) | (simp; omega))) | (with_reducible apply Below.alloc; rotate_left; focus (first | omega | (simp; done) | (simp; omega))))⟩
theorem each_enters : ∀ args w, (callFunc 33 args).run Tryz.prog w = .ok (.enter 33 args) w := enters_of Tryz.func33 (by kernel_rfl) rfl
theorem each_it (cb nn cc : Nat) (ad : Option Addr) (w : World) (hcb : cb < w.heap.size) (hc : w.cell? ⟨cb, 0, none⟩ = some (.slice ad nn cc)) (hn : nn ≤ 1048576) :
 ItC Tryz.prog 33 #[.pointer (some ⟨cb, 0, none⟩)] (fun k => #[hdk cb k]) nn w := by
 intro l J Jx W hbW hJb hJx hY h0
 have hc' : W.cell? ⟨cb, 0, none⟩ = some (.slice ad nn cc) := (hbW.cell (p := ⟨cb, 0, none⟩) hcb).trans hc
 refine callsIn_of_wp Tryz.func33 rfl trivial ?_ rfl
 simp only [Tryz.ntmps33, List.size_toArray, List.length_cons, List.length_nil, Nat.reduceAdd, Nat.reduceSub, Array.replicate_succ, Array.replicate_zero, List.push_toArray, List.append_toArray, List.nil_append, List.cons_append]
 gi_wp2
 gi_loopw [4, 10] (fun _ i wr => ∃ k : Nat, k ≤ nn ∧ i = .int .i64 (k : Int) ∧ J k wr) (fun _ i _ => nn - (intOf i).toNat)
 case atStart => exact ⟨0, Nat.zero_le _, rfl, h0⟩
 case round =>
  obtain ⟨k, hk, rfl, hJ⟩ := hrel
  by_cases hlt : k < nn
  · gi_wp2_with (refine ⟨trivial, rfl, ?_⟩; gi_at_call 48; refine (callsIn_wide.2 (handle_any cb k _)).mono ?_; rintro e w1 ⟨rfl, hb1⟩; have hJ1 := hJb _ _ _ hJ hb1; obtain ⟨fn, tmps, assign, body, hy, hR⟩ := hY k w1 hJ1 hlt)
    refine ⟨rfl, hR.mono ?_⟩
    rintro e w2 (⟨rfl, hJ2⟩ | ⟨rfl, hJx2⟩)
    · gi_wp2
      go_roundw
      case rel => exact ⟨k + 1, by omega, by go_num, hJ2⟩
      case measure => simp [intOf]; omega
    · gi_wp2
      refine bodyPost_ret (results_none rfl _ _ _) rfl ?_
      exact ⟨⟨_, rfl⟩, .inr hJx2⟩
  · gi_wp2
    go_end0
    obtain rfl : k = nn := by omega
    exact ⟨⟨_, rfl⟩, .inl hJ⟩
end Go.Proofs.YtalkkjhehndaoaaGreat
namespace Go.Proofs.YtalkkjhehndaoaaGreat
open Go.RowKit
set_option linter.unusedVariables false
set_option linter.unusedSimpArgs false
def mn (x y : Int) : Int := if y < x then y else x
def mx (x y : Int) : Int := if x < y then y else x
theorem spanMeets_any (a b c d r s t u : Int) (w : World) :
 Calls Tryz.prog 126 #[b4 a b c d, b4 r s t u] w fun e w' => e = .returned (.bool (leB a b t u && leB r s c d)) ∧ Below w.heap.size w w' := by
 have hset := cset_map
 go_enter Tryz.func126, Tryz.ntmps126
 go_wp2_with (go_at_call 136; refine (noneGreater_any _ _ _ _ _).mono ?_; rintro e w1 ⟨rfl, hb1⟩; obtain ⟨hc1, hf1⟩ := bcell hb1; have hl1 := blt hb1; have hz1 := hb1.size; (try simp only [World.size_drew, World.size_alloc, World.size_setCell] at hc1 hf1 hl1 hz1); (try have hq1x0 : w.heap.size < w1.heap.size := (by omega)); (try have hq1x1 : w.heap.size + 1 < w1.heap.size := (by omega)))
 all_goals
  go_ret
  refine ⟨ret_bool ?_, bel_a⟩
  first | (simp [*]; done) | (simp at *; simp [*]; done) | (simp at *; omega)
theorem spanHas_any (a b c d r s t u : Int) (w : World) :
 Calls Tryz.prog 123 #[b4 a b c d, b4 r s t u] w fun e w' => e = .returned (.bool (leB a b r s && leB t u c d)) ∧ Below w.heap.size w w' := by
 have hset := cset_map
 go_enter Tryz.func123, Tryz.ntmps123
 go_wp2_with (go_at_call 136; refine (noneGreater_any _ _ _ _ _).mono ?_; rintro e w1 ⟨rfl, hb1⟩; obtain ⟨hc1, hf1⟩ := bcell hb1; have hl1 := blt hb1; have hz1 := hb1.size; (try simp only [World.size_drew, World.size_alloc, World.size_setCell] at hc1 hf1 hl1 hz1); (try have hq1x0 : w.heap.size < w1.heap.size := (by omega)); (try have hq1x1 : w.heap.size + 1 < w1.heap.size := (by omega)))
 all_goals
  go_ret
  refine ⟨ret_bool ?_, bel_a⟩
  first | (simp [*]; done) | (simp at *; simp [*]; done) | (simp at *; omega)
theorem least_any (x y u v : Int) (w : World) :
 Calls Tryz.prog 138 #[vv x y, vv u v] w fun e w' => e = .returned (vv (mn x u) (mn y v)) ∧ Below w.heap.size w w' := by
 have hset := cset_map
 go_enter Tryz.func138, Tryz.ntmps138
 go_wp2
 all_goals
  refine bodyPost_ret (v := vv (mn x u) (mn y v)) ?_ rfl ⟨rfl, bel_a⟩
  simp [results, Tryz.results138, go_sem, *]
  try (constructor <;> (unfold mn; split <;> omega))
theorem greatest_any (x y u v : Int) (w : World) :
 Calls Tryz.prog 137 #[vv x y, vv u v] w fun e w' => e = .returned (vv (mx x u) (mx y v)) ∧ Below w.heap.size w w' := by
 have hset := cset_map
 go_enter Tryz.func137, Tryz.ntmps137
 go_wp2
 all_goals
  refine bodyPost_ret (v := vv (mx x u) (mx y v)) ?_ rfl ⟨rfl, bel_a⟩
  simp [results, Tryz.results137, go_sem, *]
  try (constructor <;> (unfold mx; split <;> omega))
def ptB (a b c d x y : Int) : Bool := decide ((a ≤ x ∧ x ≤ c) ∧ (b ≤ y ∧ y ≤ d))
theorem l3Meets_any (a b c d r s t u : Int) (w : World) :
 Calls Tryz.prog 93 #[b4 a b c d, b4 r s t u] w fun e w' => e = .returned (.bool (leB a b t u && leB r s c d)) ∧ Below w.heap.size w w' := by
 have hset := cset_map
 go_enter Tryz.func93, Tryz.ntmps93
 go_wp2
 all_goals
  go_ret
  refine ⟨ret_bool ?_, bel_a⟩
  unfold leB
  first | (simp [*]; done) | (simp at *; omega) | (simp [*]; omega)
theorem l3Point_any (a b c d x y : Int) (w : World) :
 Calls Tryz.prog 94 #[b4 a b c d, vv x y] w fun e w' => e = .returned (.bool (ptB a b c d x y)) ∧ Below w.heap.size w w' := by
 have hset := cset_map
 go_enter Tryz.func94, Tryz.ntmps94
 go_wp2_with (go_at_call 38; refine (l1In_any _ _ _ _).mono ?_; rintro e w' ⟨rfl, rfl⟩)
 all_goals
  go_ret
  refine ⟨ret_bool ?_, bel_a⟩
  unfold ptB
  first | (simp [*]; done) | (simp at *; omega) | (simp [*]; omega)
theorem l2Square_any (x y : Int) (w : World) (hx : -1500000000 ≤ x ∧ x ≤ 1500000000) (hy : -1500000000 ≤ y ∧ y ≤ 1500000000) :
 Calls Tryz.prog 90 #[vv x y] w fun e w' => e = .returned (.int .i64 (x * x + y * y)) ∧ Below w.heap.size w w' := by
 have p := mul_bd (a := x) (b := x) (A := 1500000000) (B := 1500000000) hx hx
 have q := mul_bd (a := y) (b := y) (A := 1500000000) (B := 1500000000) hy hy
 have hset := cset_map
 go_enter Tryz.func90, Tryz.ntmps90
 go_wp2
 go_ret
 exact ⟨rfl, bel_a⟩
theorem sVecLen_any (x y : Int) (w : World) :
 Calls Tryz.prog 92 #[vv x y] w fun e w' => e = .returned (.int .i64 (vl (fc x) (fc y))) ∧ Below w.heap.size w w' := by
 have hx := fc_bd x
 have hy := fc_bd y
 have hs := sq_bd hx hy
 have hset := cset_map
 go_enter Tryz.func92, Tryz.ntmps92
 go_wp2_with (first
  | (go_at_call 105; refine (l2Clamp_any _ _ _).mono ?_; rintro e w1 ⟨rfl, hb1⟩; obtain ⟨hc1, hf1⟩ := bcell hb1; have hz1 := hb1.size; (try simp at hz1); have hq1x0a : w.heap.size < w1.heap.size := (by omega))
  | (go_at_call 90; refine (l2Square_any _ _ _ (by omega) (by omega)).mono ?_; rintro e w2 ⟨rfl, hb2⟩; obtain ⟨hc2, hf2⟩ := bcell hb2; have hz2 := hb2.size; (try simp at hz2); have hq2x0a : w.heap.size < w2.heap.size := (by omega))
  | (go_at_call 107; refine (l1Root_any _ _ (by omega) (by omega)).mono ?_; rintro e w' ⟨rfl, rfl⟩)
  | (go_at_call 106; refine (sFixClamp_any _ _).mono ?_; rintro e w' ⟨rfl, rfl⟩))
 go_ret
 exact ⟨rfl, bel_a⟩
theorem sVecUnit_any (x y : Int) (w : World) :
 Calls Tryz.prog 91 #[vv x y] w fun e w' => e = .returned (vv (ux (fc x) (fc y)) (uy (fc x) (fc y))) ∧ Below w.heap.size w w' := by
 have hx := fc_bd x
 have hy := fc_bd y
 have hl := vl_bd (fc x) (fc y)
 have f1 := fc_fc x
 have f2 := fc_fc y
 by_cases h0 : vl (fc x) (fc y) = 0
 · have e1 : ux (fc x) (fc y) = 0 := if_pos h0
   have e2 : uy (fc x) (fc y) = 256 := if_pos h0
   have hset := cset_map
   go_enter Tryz.func91, Tryz.ntmps91
   go_wp2_with (first
   | (go_at_call 105; refine (l2Clamp_any _ _ _).mono ?_; rintro e w1 ⟨rfl, hb1⟩; obtain ⟨hc1, hf1⟩ := bcell hb1; have hz1 := hb1.size; (try simp at hz1); have hq1x0a : w.heap.size < w1.heap.size := (by omega); have hq1x1a : w.heap.size + 1 < w1.heap.size := (by omega))
   | (go_at_call 92; refine (sVecLen_any _ _ _).mono ?_; rintro e w6 ⟨rfl, hb6⟩; obtain ⟨hc6, hf6⟩ := bcell hb6; have hz6 := hb6.size; (try simp at hz6); have hq6x0a : w.heap.size < w6.heap.size := (by omega); have hq6x1a : w.heap.size + 1 < w6.heap.size := (by omega)))
   exact bodyPost_ret (v := vv 0 256) (by simp [results, Tryz.results91, go_sem, *]) rfl ⟨by rw [e1, e2], bel_a⟩
 · have t1 := w64 (n := (fc x * 256).tdiv (vl (fc x) (fc y))) (by have := tdiv_bd (x := fc x * 256) (B := 256000000000) (vl (fc x) (fc y)) (by omega); omega)
   have t2 := w64 (n := (fc y * 256).tdiv (vl (fc x) (fc y))) (by have := tdiv_bd (x := fc y * 256) (B := 256000000000) (vl (fc x) (fc y)) (by omega); omega)
   have s1 := i64w (n := (fc x * 256).tdiv (vl (fc x) (fc y))) (by have := tdiv_bd (x := fc x * 256) (B := 256000000000) (vl (fc x) (fc y)) (by omega); omega)
   have s2 := i64w (n := (fc y * 256).tdiv (vl (fc x) (fc y))) (by have := tdiv_bd (x := fc y * 256) (B := 256000000000) (vl (fc x) (fc y)) (by omega); omega)
   have E1 : Hid (ux (fc x) (fc y) = (fc x * 256).tdiv (vl (fc x) (fc y))) := if_neg h0
   have E2 : Hid (uy (fc x) (fc y) = (fc y * 256).tdiv (vl (fc x) (fc y))) := if_neg h0
   have hset := cset_map
   go_enter Tryz.func91, Tryz.ntmps91
   go_wp2_with (first
   | (go_at_call 105; refine (l2Clamp_any _ _ _).mono ?_; rintro e w1 ⟨rfl, hb1⟩; obtain ⟨hc1, hf1⟩ := bcell hb1; have hz1 := hb1.size; (try simp at hz1); have hq1x0a : w.heap.size < w1.heap.size := (by omega); have hq1x1a : w.heap.size + 1 < w1.heap.size := (by omega))
   | (go_at_call 92; refine (sVecLen_any _ _ _).mono ?_; rintro e w6 ⟨rfl, hb6⟩; obtain ⟨hc6, hf6⟩ := bcell hb6; have hz6 := hb6.size; (try simp at hz6); have hq6x0a : w.heap.size < w6.heap.size := (by omega); have hq6x1a : w.heap.size + 1 < w6.heap.size := (by omega)))
   go_region
   all_goals
    go_wp2
    exact bodyPost_ret (v := vv ((fc x * 256).tdiv (vl (fc x) (fc y))) ((fc y * 256).tdiv (vl (fc x) (fc y)))) (by simp [results, Tryz.results91, go_sem, *]) rfl ⟨by rw [E1.out, E2.out], bel_a⟩
def hh (k wd h : Int) : Int := if k = 1 then wd else h
theorem inB_of {l x y : Int} (h : inB l x y = true) : (-l ≤ x ∧ x ≤ l) ∧ (-l ≤ y ∧ y ≤ l) := by
 unfold inB at h; simp only [decide_eq_true_eq] at h; omega
theorem isPlace_any (x y : Int) (w : World) :
 Calls Tryz.prog 108 #[vv x y] w fun e w' => e = .returned (.bool (inB 2560000 x y)) ∧ Below w.heap.size w w' := by
 have hset := cset_map
 go_enter Tryz.func108, Tryz.ntmps108
 go_wp2_with (first
  | (go_at_call 109; refine (wayOf_any _ _ _).mono ?_; rintro e w1 ⟨rfl, hb1⟩; obtain ⟨hc1, hf1⟩ := bcell hb1; have hl1 := blt hb1; have hz1 := hb1.size; (try simp only [World.size_drew, World.size_alloc, World.size_setCell] at hc1 hf1 hl1 hz1); (try have hq1x0 : w.heap.size < w1.heap.size := (by omega)))
  | (go_at_call 61; refine (within2_any _ _ _ _ (by omega) (by omega)).mono ?_; rintro e w2 ⟨rfl, hb2⟩; obtain ⟨hc2, hf2⟩ := bcell hb2; have hl2 := blt hb2; have hz2 := hb2.size; (try simp only [World.size_drew, World.size_alloc, World.size_setCell] at hc2 hf2 hl2 hz2); (try have hq2x0 : w.heap.size < w2.heap.size := (by omega))))
 go_ret
 exact ⟨rfl, bel_a⟩
theorem reach_r (wd : Int) (w : World) :
 Calls Tryz.prog 162 #[.agg #[.int .i64 wd]] w fun e w' => e = .returned (vv wd wd) ∧ Below w.heap.size w w' := by
 have hset := cset_map
 go_enter Tryz.func162, Tryz.ntmps162
 go_wp2
 exact bodyPost_ret (v := vv wd wd) (by simp [results, Tryz.results162, go_sem, *]) rfl ⟨rfl, bel_a⟩
theorem reach_b (wd h : Int) (w : World) :
 Calls Tryz.prog 163 #[.agg #[.int .i64 wd, .int .i64 h]] w fun e w' => e = .returned (vv wd h) ∧ Below w.heap.size w w' := by
 have hset := cset_map
 go_enter Tryz.func163, Tryz.ntmps163
 go_wp2
 exact bodyPost_ret (v := vv wd h) (by simp [results, Tryz.results163, go_sem, *]) rfl ⟨rfl, bel_a⟩
theorem l3Place_any (x y : Int) (w : World) :
 Calls Tryz.prog 40 #[vv x y] w fun e w' => e = .returned (.bool (inB 2560000 x y)) ∧ Below w.heap.size w w' := by
 have hset := cset_map
 go_enter Tryz.func40, Tryz.ntmps40
 go_wp2_with (go_at_call 38; refine (l1In_any _ _ _ _).mono ?_; rintro e w' ⟨rfl, rfl⟩)
 all_goals
  go_ret
  refine ⟨ret_bool ?_, bel_a⟩
  unfold inB
  first | (simp [*]; done) | (simp at *; omega) | (simp [*]; omega)
theorem l3Bounds_b (wd h x y : Int) (w : World) (h1 : 1 ≤ wd) (h2 : wd ≤ 25600) (h3 : 1 ≤ h) (h4 : h ≤ 25600) (hx : -2560000 ≤ x ∧ x ≤ 2560000) (hy : -2560000 ≤ y ∧ y ≤ 2560000) :
 Calls Tryz.prog 69 #[s3 2 wd h, vv x y] w fun e w' => e = .returned (b4 (x - wd) (y - h) (x + wd) (y + h)) ∧ Below w.heap.size w w' := by
 have hset := cset_map
 go_enter Tryz.func69, Tryz.ntmps69
 go_wp2
 all_goals
  exact bodyPost_ret (v := b4 (x - wd) (y - h) (x + wd) (y + h)) (by simp [results, Tryz.results69, go_sem, *]) rfl ⟨rfl, bel_a⟩
end Go.Proofs.YtalkkjhehndaoaaGreat
namespace Go.Proofs.YtalkkjhehndaoaaGreat
open Go.RowKit
set_option linter.unusedVariables false
section
variable {P : Program} {md : Region.Mode} {ops : Array Oper} {Q : Exit → Act → World → Prop} {S : World → Prop}
theorem tq (i : Nat) {o1 o2 o3 o4 o5 o6} {v : Value} {fuel : Nat} {listed : Array Bool} {a a' : Act} {w : World} (hS : S w)
 (h : wpAnyH P md ops Q S fuel (listed.setIfInBounds i true) a' w)
 (hi : ops[i]? = some (Oper.mk o1 o2 o3 o4 o5 o6) := by rfl)
 (hc : (Region.noSelect ops && (Region.free md ops listed i && (Region.ready md ops listed).contains i)) = true := by kernel_rfl)
 (hQ : ∀ c a w, Q (.panic c) (a.put (Oper.mk o1 o2 o3 o4 o5 o6).dst v) w → Q (.panic c) a w := by exact fun _ _ _ h => h)
 (hw : Region.wanted (Oper.mk o1 o2 o3 o4 o5 o6) (yielded ops a.tmps) = true := by rfl)
 (hv : ∀ w, S w → (execOp a.eval (Oper.mk o1 o2 o3 o4 o5 o6)).run P w = .ok (.value v) w := by (intro w s; (try dsimp only at s); go_simp; (try with_reducible rfl)))
 (he : a.put (Oper.mk o1 o2 o3 o4 o5 o6).dst v = a' := by ((try simp only [Act.put, List.setIfInBounds_toArray, List.set_cons_zero, List.set_cons_succ]); (try with_reducible rfl))) :
 wpAnyH P md ops Q S (fuel + 1) listed a w := by
 subst he
 simp only [Bool.and_eq_true] at hc
 exact wpAnyH_take hi hc.1 hc.2.1 hc.2.2 hQ (.inl ⟨hw, hv⟩) hS h
theorem tn (i : Nat) {o1 o2 o3 o4 o5 o6} {fuel : Nat} {listed : Array Bool} {a a' : Act} {w : World} (hS : S w)
 (h : wpAnyH P md ops Q S fuel (listed.setIfInBounds i true) a' w)
 (hi : ops[i]? = some (Oper.mk o1 o2 o3 o4 o5 o6) := by rfl)
 (hc : (Region.noSelect ops && (Region.free md ops listed i && (Region.ready md ops listed).contains i)) = true := by kernel_rfl)
 (hQ : ∀ c a w, Q (.panic c) (a.put (Oper.mk o1 o2 o3 o4 o5 o6).dst undef) w → Q (.panic c) a w := by exact fun _ _ _ h => h)
 (hw : Region.wanted (Oper.mk o1 o2 o3 o4 o5 o6) (yielded ops a.tmps) = false := by rfl)
 (he : a.put (Oper.mk o1 o2 o3 o4 o5 o6).dst undef = a' := by ((try simp only [Act.put, List.setIfInBounds_toArray, List.set_cons_zero, List.set_cons_succ]); (try with_reducible rfl))) :
 wpAnyH P md ops Q S (fuel + 1) listed a w := by
 subst he
 simp only [Bool.and_eq_true] at hc
 exact wpAnyH_take hi hc.1 hc.2.1 hc.2.2 hQ (.inr ⟨hw, rfl⟩) hS h
end
section
variable {P : Program} {md : Region.Mode} {ops : Array Oper} {Q : Exit → Act → World → Prop} {S : World → Prop}
theorem tc (i : Nat) {o1 o2 o3 o4 o5 o6} {fuel : Nat} {listed : Array Bool} {a : Act} {w : World}
 (h : ∀ K' : Act → World → Prop, Shut (∀ a w, S w → (S w → wpAnyH P md ops Q S fuel (listed.setIfInBounds i true) a w) → K' a w) → if Region.wanted (Oper.mk o1 o2 o3 o4 o5 o6) (yielded ops a.tmps) = true then Oper.wp P (Oper.mk o1 o2 o3 o4 o5 o6) a w K' Q else K' (a.put (Oper.mk o1 o2 o3 o4 o5 o6).dst undef) w)
 (hr : Region.ready md ops listed = [i] := by kernel_rfl)
 (hi : ops[i]? = some (Oper.mk o1 o2 o3 o4 o5 o6) := by rfl) :
 wpAnyH P md ops Q S (fuel + 1) listed a w := wpAnyH_ready hr (by simp) (AllReadyH.cons hi h AllReadyH.nil)
theorem tr {K : Act → World → Prop} {fuel : Nat} {listed : Array Bool} (hK : Shut (∀ a w, S w → (S w → wpAnyH P md ops Q S fuel listed a w) → K a w)) {a a' : Act} {w : World}
 (h : S w → wpAnyH P md ops Q S fuel listed a' w)
 (hS : S w := by ((try dsimp only); (first | (go_simp; done) | (go_keep; done))))
 (he : a = a' := by ((try simp only [Act.put, List.setIfInBounds_toArray, List.set_cons_zero, List.set_cons_succ]); (try with_reducible rfl))) : K a w := by
 subst he
 exact hK.out _ _ hS h
end
end Go.Proofs.YtalkkjhehndaoaaGreat
namespace Go.Proofs.YtalkkjhehndaoaaGreat
open Go.RowKit
set_option linter.unusedVariables false
section
variable {P : Program} {md : Region.Mode} {ops : Array Oper} {Q : Exit → Act → World → Prop} {S : World → Prop}
theorem td (i j : Nat) {o1 o2 o3 o4 o5 o6 p1 p2 p3 p4 p5 p6} {v u : Value} {fuel : Nat} {listed : Array Bool} {a a' : Act} {w w1 : World} (hS : S w)
 (h : S w1 → wpAnyH P md ops Q S fuel ((listed.setIfInBounds i true).setIfInBounds j true) a' w1)
 (hr : (Region.ready md ops listed = [i, j] ∧ Region.ready md ops (listed.setIfInBounds i true) = [j] ∧ Region.ready md ops (listed.setIfInBounds j true) = [i]) := by exact ⟨by kernel_rfl, by kernel_rfl, by kernel_rfl⟩)
 (hi : ops[i]? = some (Oper.mk o1 o2 o3 o4 o5 o6) := by rfl) (hj : ops[j]? = some (Oper.mk p1 p2 p3 p4 p5 p6) := by rfl)
 (hc : (Region.noSelect ops && ((Oper.mk o1 o2 o3 o4 o5 o6).apart ops (Oper.mk p1 p2 p3 p4 p5 p6) && (i != j))) = true := by kernel_rfl)
 (wi : Region.wanted (Oper.mk o1 o2 o3 o4 o5 o6) (yielded ops a.tmps) = true := by rfl) (wj : Region.wanted (Oper.mk p1 p2 p3 p4 p5 p6) (yielded ops a.tmps) = true := by rfl)
 (vi : (execOp a.eval (Oper.mk o1 o2 o3 o4 o5 o6)).run P w = .ok (.value v) w := by (go_simp; (try with_reducible rfl)))
 (vj : (execOp a.eval (Oper.mk p1 p2 p3 p4 p5 p6)).run P w = .ok (.value u) w1 := by (go_simp; (first | done | exact ⟨rfl, rfl⟩ | with_reducible rfl)))
 (vi1 : (execOp a.eval (Oper.mk o1 o2 o3 o4 o5 o6)).run P w1 = .ok (.value v) w1 := by (go_simp; (try with_reducible rfl)))
 (hS1 : S w1 := by ((try dsimp only); (first | (go_simp; done) | (go_keep; done))))
 (he : (a.put (Oper.mk o1 o2 o3 o4 o5 o6).dst v).put (Oper.mk p1 p2 p3 p4 p5 p6).dst u = a' := by ((try simp only [Act.put, List.setIfInBounds_toArray, List.set_cons_zero, List.set_cons_succ]); (try with_reducible rfl))) :
 wpAnyH P md ops Q S (fuel + 2) listed a w := by
 subst he
 simp only [Bool.and_eq_true] at hc
 obtain ⟨h1, h2, h3⟩ := Oper.apart_spec hc.2.1
 have hne : i ≠ j := by simpa using hc.2.2
 have hsel := Region.noSelect_spec hc.1
 obtain ⟨r0, r1, r2⟩ := hr
 refine ⟨fun e => (by rw [r0] at e; cases e), fun x hx => ?_⟩
 rw [r0] at hx
 rcases List.mem_cons.1 hx with rfl | hx
 · unfold wpOp
   rw [hi]
   simp only [wi, if_true]
   refine .inl ?_
   simp only [Oper.wp, vi, Oper.upon]
   refine ⟨hS, ⟨fun e => (by rw [r1] at e; cases e), fun y hy => ?_⟩⟩
   rw [r1] at hy
   obtain rfl := List.mem_singleton.1 hy
   unfold wpOp
   rw [hj]
   simp only [wanted_put _ a _ v h1, wj, if_true]
   refine .inl ?_
   rw [Oper.wp, execOp_put _ (fun cs b => hsel _ _ cs b hj) a _ v h1, vj]
   exact ⟨hS1, h hS1⟩
 · obtain rfl := List.mem_singleton.1 hx
   unfold wpOp
   rw [hj]
   simp only [wj, if_true]
   refine .inl ?_
   simp only [Oper.wp, vj, Oper.upon]
   refine ⟨hS1, ⟨fun e => (by rw [r2] at e; cases e), fun y hy => ?_⟩⟩
   rw [r2] at hy
   obtain rfl := List.mem_singleton.1 hy
   unfold wpOp
   rw [hi]
   simp only [wanted_put _ a _ u h3, wi, if_true]
   refine .inl ?_
   rw [Oper.wp, execOp_put _ (fun cs b => hsel _ _ cs b hi) a _ u h3, vi1]
   refine ⟨hS1, ?_⟩
   have := h hS1
   rw [Array.setIfInBounds_comm _ _ hne, Act.put_comm a v u h2] at this
   exact this
end
end Go.Proofs.YtalkkjhehndaoaaGreat
