/- Texts of a proof. -/
import Derived.Test.YthijeiehcdoidaaGreatB4
import Derived.Test.YthijeiehcdoidaaGreatB1
import Derived.Deep.RegionHeld3
import Derived.Deep.DeepCutAuto
set_option maxHeartbeats 16000000
set_option maxRecDepth 20000
namespace Go.Proofs.YthijeiehcdoidaaGreat
open Go.RowKit
set_option linter.unusedVariables false
set_option linter.unusedSimpArgs false
theorem grown_trans {w w' w'' : World} {r : Option Nat} (h : w.grownBy w' r) (k : w'.grownBy w'' r) : w.grownBy w'' r := ⟨k.os.trans h.os, k.tape.trans h.tape, k.output.trans h.output, Nat.le_trans h.size k.size, fun i hi hn => (k.block i (Nat.lt_of_lt_of_le hi h.size) hn).trans (h.block i hi hn)⟩
theorem OwnL.setq {w : World} {base t k n g c : Nat} {U : Nat → Int} (h : OwnL w base t k (.slice (Option.some ⟨g, 0, none⟩) n c) n U) (q : Nat) (hq : q < n * k) (x : Int) : OwnL (w.setCell ⟨g, q, none⟩ (.int .i64 x)) base t k (.slice (Option.some ⟨g, 0, none⟩) n c) n (fun r => if r = q then x else U r) := by
 have h1 := (World.ownsRow.stored h q (.int .i64 x)).1
 unfold OwnL
 rw [show numL (n * k) (fun r => if r = q then x else U r) = (numL (n * k) U).set q (.int .i64 x) from ?_]
 · exact h1
 · apply List.ext_getElem?
   intro r
   rw [List.getElem?_set, numL_len]
   by_cases hr : r < n * k
   · rw [numL_get hr]
     by_cases e : q = r
     · subst e; simp; omega
     · rw [if_neg e, numL_get hr]; simp [Ne.symm e]
   · rw [List.getElem?_eq_none (by rw [numL_len]; omega)]
     by_cases e : q = r
     · omega
     · rw [if_neg e, List.getElem?_eq_none (by rw [numL_len]; omega)]
theorem OwnL.loc {w : World} {base t k n c : Nat} {a : Option Addr} {U : Nat → Int} (h : OwnL w base t k (.slice a n c) n U) (h0 : 0 < n) : ∃ g, a = Option.some ⟨g, 0, none⟩ ∧ base ≤ g ∧ g < w.heap.size := by
 rcases h.2 with ⟨hv, hn⟩ | ⟨g, cap, cur, hv, hb, hg, _⟩
 · omega
 · simp only [Value.slice.injEq, true_and] at hv
   exact ⟨g, hv.1, hb, (Array.getElem?_eq_some_iff.1 hg).1⟩
theorem OwnL.cellq {w : World} {base t k n g c : Nat} {U : Nat → Int} (h : OwnL w base t k (.slice (Option.some ⟨g, 0, none⟩) n c) n U) {q : Nat} (hq : q < n * k) : w.cell? ⟨g, q, none⟩ = Option.some (.int .i64 (U q)) := by
 rw [World.ownsRow.cellAt h q hq, numL_get hq]
abbrev mixU (p : Nat) (U : Nat → Int) : Nat → Int := fun q => if q < p then 1 + (q : Int) else U q
theorem OwnL.mark {w : World} {base t k n g c p : Nat} {U : Nat → Int} (h : OwnL w base t k (.slice (Option.some ⟨g, 0, none⟩) n c) n (mixU p U)) (hp : p < n * k) {x : Int} (hx : x = 1 + (p : Int)) : OwnL (w.setCell ⟨g, p, none⟩ (.int .i64 x)) base t k (.slice (Option.some ⟨g, 0, none⟩) n c) n (mixU (p + 1) U) :=
 (h.setq p hp x).congr fun q _ => by
   subst hx
   by_cases e : q = p
   · subst e; simp [mixU]
   · simp only [mixU, if_neg e]
     by_cases l : q < p
     · rw [if_pos l, if_pos (by omega)]
     · rw [if_neg l, if_neg (by omega)]
structure Lv (w : World) (lo hi t k : Nat) (a : Option Addr) (n c : Nat) (U : Nat → Int) : Prop where
 own : OwnL w lo t k (.slice a n c) n U
 top : ∀ b, (Value.slice a n c).ownBlock = some b → b < hi
 le : hi ≤ w.heap.size
theorem Lv.on {w w' : World} {lo hi t k : Nat} {a : Option Addr} {n c : Nat} {U : Nat → Int} (h : Lv w lo hi t k a n c U) (hb : Below w.heap.size w w') : Lv w' lo hi t k a n c U := ⟨h.own.below hb, h.top, Nat.le_trans h.le hb.size⟩
theorem Lv.flat {w : World} {lo hi t k : Nat} {a : Option Addr} {n c : Nat} {U : Nat → Int} (h : Lv w lo hi t k a n c U) : Flat w a (n * k) U := h.own.flat
theorem Lv.below {w0 w w' : World} {lo hi t k B : Nat} {a : Option Addr} {n c : Nat} {U : Nat → Int} (h : Lv w lo hi t k a n c U) (hB : Below B w0 w) (hBw : B ≤ w.heap.size) (hg : w.grownBy w' (Value.slice a n c).ownBlock) (hl : B ≤ lo) : Below B w0 w' :=
 hB.grown hg hBw (fun b e => by have := (h.own.lt b e).1; omega)
theorem Lv.row {w w' : World} {b n t k : Nat} {U : Nat → Int} (h : Row w' b t (n * k) U) (hb : w.heap.size ≤ b) (hn : n ≤ 1048576) : Lv w' w.heap.size w'.heap.size t k (some ⟨b, 0, none⟩) n n U :=
 ⟨h.own hb (by unfold maxLen; omega), fun x e => by simp [Value.ownBlock] at e; subst e; exact h.lt, Nat.le_refl _⟩
structure OutL (w w' : World) (t k : Nat) (a : Option Addr) (n c : Nat) (R : Nat → Int) : Prop where
 bel : Below w.heap.size w w'
 own : OwnL w' w.heap.size t k (.slice a n c) n R
def ofL (l : List Int) : Nat → Int := fun q => l.getD q 0
theorem ofL_app (l x : List Int) (q : Nat) (h : q < l.length) : ofL (l ++ x) q = ofL l q := by
 unfold ofL
 rw [List.getD_eq_getElem?_getD, List.getD_eq_getElem?_getD, List.getElem?_append_left h]
theorem ofL_app' (l x : List Int) (q : Nat) (h : l.length ≤ q) : ofL (l ++ x) q = ofL x (q - l.length) := by
 unfold ofL
 rw [List.getD_eq_getElem?_getD, List.getD_eq_getElem?_getD, List.getElem?_append_right h]
theorem cat_ofL (l x : List Int) : cat l.length (ofL l) (ofL x) = ofL (l ++ x) := by
 funext q
 unfold cat
 by_cases h : q < l.length
 · rw [if_pos h, ofL_app l x q h]
 · rw [if_neg h, ofL_app' l x q (by omega)]
theorem step_appk {P : Program} {w : World} {ops : Array Oper} {o : Oper} {a : Act} {K : Act → World → Prop} {Q : Exit → Act → World → Prop} {E : Prop} (hgd : o.guard = none) (s x : Operand) (t : TypeId)
 (ho : o.op = .call { callee := .builtin .append, args := #[s, x], argTypes := #[t, t] })
 (base e k bytes : Nat) (z : Value) (ht : P.underlying t = some (.slice e)) (hinfo : (P.info? e).map (fun i => (i.zero, i.size, i.bytes)) = some (some z, k, bytes)) (hzs : z.cells.size = k) (hk : 0 < k)
 (v : Value) (n : Nat) (U : Nat → Int) (hs : a.eval s = v) (h : OwnL w base e k v n U) (B c : Nat) (X : Nat → Int) (hx : a.eval x = .slice (some ⟨B, 0, none⟩) 1 c) (hv : ∀ q, q < k → w.cell? ⟨B, q, none⟩ = some (.int .i64 (X q)))
 (h63 : n + 1 ≤ maxLen) (hbytes : (n + 1) * bytes ≤ 140737488355328) (hbase : base ≤ w.heap.size) (H : Nat) (hH : w.heap.size = H)
 (hK : ∀ g cap w', OwnL w' base e k (.slice (some ⟨g, 0, none⟩) (n + 1) cap) (n + 1) (cat (n * k) U X) → w.grownBy w' v.ownBlock → (v.ownBlock = some g ∨ g = H) → g < w'.heap.size → K (a.put o.dst (.slice (some ⟨g, 0, none⟩) (n + 1) cap)) w') :
 if Region.wanted o (yielded ops a.tmps) = true then Oper.wp P o a w K Q else E := by
 obtain ⟨i, hi, hzz⟩ := Option.map_eq_some_iff.1 hinfo
 simp only [Prod.mk.injEq] at hzz
 obtain ⟨hz, hsz, hby⟩ := hzz
 refine step_append_lies w hgd s x t ho base e i z k bytes ht hi hz hsz hby hzs hk v n (numL (n * k) U) hs h ⟨B, 0, none⟩ 1 c (numL (1 * k) X) hx (numL_len _ _) ?_ (fun u hu => by obtain ⟨q, _, rfl⟩ := List.mem_map.1 hu; rfl) (by omega) h63 hbytes hbase H hH ?_
 · intro j u hu
   have hj : j < 1 * k := by have := (List.getElem?_eq_some_iff.1 hu).1; rwa [numL_len] at this
   rw [numL_get hj] at hu
   rw [Addr.add_lit, Nat.zero_add, hv j (by omega)]
   exact hu
 · intro g cap w' h2 h3 h4 h5
   refine hK g cap w' ?_ h3 h4 h5
   unfold OwnL
   rw [Nat.add_mul, ← numL_cat]
   exact h2
abbrev bodyV (V : Nat → Int) : Value := .agg #[.int .i64 (V 0), .int .i64 (V 1), .int .i64 (V 2), .int .i64 (V 3), .int .i64 (V 4), .int .i64 (V 5), .int .i64 (V 6), .int .i64 (V 7), .int .i64 (V 8), .int .i64 (V 9), .int .i64 (V 10), .int .i64 (V 11)]
structure AddN (w wx : World) (cb n : Nat) (C : Nat → Nat → Int) (V : Nat → Int) (S : Nat → Value) (k : Nat) (S' : Nat → Value) : Prop where
 body : ∀ j, j < 12 → wx.cell? ⟨w.heap.size, j, none⟩ = some (.int .i64 (V j))
 hd : ∀ i, i < 12 → wx.cell? ⟨cb, i, none⟩ = some (S' i)
 nf : ∀ i, i < 12 → wx.frozen? ⟨cb, i, none⟩ = false
 did : ∀ i, i < k → OwnL wx cb 61 1 (S' i) (n + 1) (snoc n (C i) (V i))
 todo : ∀ i, k ≤ i → i < 12 → S' i = S i ∧ OwnL wx cb 61 1 (S i) n (C i)
 dis : ∀ i j, i < 12 → j < 12 → i ≠ j → ∀ b, (S' i).ownBlock = some b → (S' j).ownBlock ≠ some b
 ncb : ∀ i, i < 12 → ∀ b, (S' i).ownBlock = some b → b ≠ cb ∧ b ≠ w.heap.size
 fr : Fr (fun k => k = cb ∨ Xc S k) w wx
 big : w.heap.size < wx.heap.size
theorem OwnL.alloc' {w : World} {base t k n : Nat} {v : Value} {U : Nat → Int} (h : OwnL w base t k v n U) (o : Obj) : OwnL (w.alloc o).drew base t k v n U := World.ownsRow.drew (World.ownsRow.alloc h o)
theorem AddN.own {w wx : World} {cb n k : Nat} {C : Nat → Nat → Int} {V : Nat → Int} {S S' : Nat → Value} (h : AddN w wx cb n C V S k S') {i : Nat} (hi : i < 12) : ∃ m U, OwnL wx cb 61 1 (S' i) m U := by
 by_cases e : i < k
 · exact ⟨_, _, h.did i e⟩
 · obtain ⟨e1, e2⟩ := h.todo i (by omega) hi
   rw [e1]
   exact ⟨_, _, e2⟩
theorem AddN.step {w wx w1 : World} {cb n k g cap : Nat} {C : Nat → Nat → Int} {V : Nat → Int} {S S' : Nat → Value} {o : Obj} (h : AddN w wx cb n C V S k S') (hk : k < 12) (hcb : cb < w.heap.size)
 (ho : OwnL w1 cb 61 1 (.slice (some ⟨g, 0, none⟩) (n + 1) cap) (n + 1) (snoc n (C k) (V k))) (hg : (wx.alloc o).drew.grownBy w1 (S k).ownBlock) (hor : (S k).ownBlock = some g ∨ g = wx.heap.size + 1) (hlt : g < w1.heap.size) :
 w1.cell? ⟨w.heap.size, k, none⟩ = some (.int .i64 (V k)) ∧ w1.cell? ⟨cb, k, none⟩ = some (S k) ∧ w1.frozen? ⟨cb, k, none⟩ = false ∧
 AddN w (w1.setCell ⟨cb, k, none⟩ (.slice (some ⟨g, 0, none⟩) (n + 1) cap)) cb n C V S (k + 1) (fun i => if i = k then .slice (some ⟨g, 0, none⟩) (n + 1) cap else S' i) := by
 obtain ⟨es, ok⟩ := h.todo k (Nat.le_refl _) hk
 have big := h.big
 have sz : (wx.alloc o).drew.heap.size = wx.heap.size + 1 := by simp
 have hne : ∀ b, (S k).ownBlock = some b → b ≠ cb ∧ b ≠ w.heap.size := fun b hb => h.ncb k hk b (by rw [es]; exact hb)
 have hX : ∀ b, (S k).ownBlock = some b → Xc S b := fun b hb => ⟨k, hk, hb⟩
 have hblk : ∀ b, b < wx.heap.size → (S k).ownBlock ≠ some b → w1.heap[b]? = wx.heap[b]? := fun b hb hn => (hg.block b (by omega) (Ne.symm hn)).trans (Below.heap_alloc _ _ _ hb)
 have F0 : Fr (fun x => x = cb ∨ Xc S x) wx (wx.alloc o).drew := Fr.of_below (Below.drew ((Below.refl _ _).alloc (Nat.le_refl _) _))
 have F1 : Fr (fun x => x = cb ∨ Xc S x) (wx.alloc o).drew w1 := Fr.grown hg (fun b hb => .inr (hX b hb)) (OwnL.isCells (ok.alloc' o))
 have F2 : Fr (fun x => x = cb ∨ Xc S x) w1 (w1.setCell ⟨cb, k, none⟩ (.slice (some ⟨g, 0, none⟩) (n + 1) cap)) := Fr.setCell (.inl rfl) _
 have cbl : cb < wx.heap.size := by omega
 have bcb : w1.heap[cb]? = wx.heap[cb]? := hblk cb cbl (fun e => (hne cb e).1 rfl)
 have bbd : w1.heap[w.heap.size]? = wx.heap[w.heap.size]? := hblk _ big (fun e => (hne _ e).2 rfl)
 have gcb : g ≠ cb ∧ g ≠ w.heap.size := by
  rcases hor with q | q
  · exact hne g q
  · omega
 have gS : ∀ i, i < 12 → i ≠ k → (S' i).ownBlock ≠ some g := fun i hi hik e => by
  rcases hor with q | q
  · exact h.dis i k hi hk hik g e (by rw [es]; exact q)
  · obtain ⟨m, U, oo⟩ := h.own hi
    have := (oo.lt g e).2
    omega
 have keep : ∀ i, i < 12 → i ≠ k → ∀ {m U}, OwnL wx cb 61 1 (S' i) m U → OwnL (w1.setCell ⟨cb, k, none⟩ (.slice (some ⟨g, 0, none⟩) (n + 1) cap)) cb 61 1 (S' i) m U := fun i hi hik m U oo => by
  refine OwnL.frame (X := fun x => x = cb ∨ (S k).ownBlock = some x) (oo.alloc' o) ((Fr.grown hg (fun b hb => .inr hb) (OwnL.isCells (ok.alloc' o))).trans (Fr.setCell (.inl rfl) _)) (fun b hb q => ?_)
  rcases q with q | q
  · exact (h.ncb i hi b hb).1 q
  · exact h.dis i k hi hk hik b hb (by rw [es]; exact q)
 refine ⟨(World.cell?_of_block bbd).trans (h.body k hk), (World.cell?_of_block bcb).trans ((h.hd k hk).trans (by rw [es])), (World.frozen?_of_block bcb).trans (h.nf k hk), ?_⟩
 have hk1 : w1.cell? ⟨cb, k, none⟩ = some (S k) := (World.cell?_of_block bcb).trans ((h.hd k hk).trans (by rw [es]))
 refine ⟨fun j hj => ?_, fun i hi => ?_, fun i hi => ?_, fun i hi => ?_, fun i hi hi' => ?_, fun i j hi hj hij b => ?_, fun i hi b => ?_, ((h.fr.trans F0).trans F1).trans F2, ?_⟩
 · rw [cset_far (by simp; omega)]
   exact (World.cell?_of_block (a := ⟨w.heap.size, j, none⟩) bbd).trans (h.body j hj)
 · by_cases e : i = k
   · subst e
     simp only [if_pos]
     exact cset_same hk1
   · simp only [if_neg e]
     rw [cset_other (by intro q; injection q with _ q; exact e q.symm)]
     exact (World.cell?_of_block (a := ⟨cb, i, none⟩) bcb).trans (h.hd i hi)
 · rw [World.frozen?_setCell]
   exact (World.frozen?_of_block (a := ⟨cb, i, none⟩) bcb).trans (h.nf i hi)
 · by_cases e : i = k
   · subst e
     simp only [if_pos]
     refine OwnL.frame (X := fun x => x = cb) ho (Fr.setCell (X := fun x => x = cb) rfl _) (fun b hb q => ?_)
     simp only [Value.ownBlock, Option.some.injEq] at hb
     omega
   · simp only [if_neg e]
     exact keep i (by omega) e (h.did i (by omega))
 · have e : i ≠ k := by omega
   obtain ⟨q1, q2⟩ := h.todo i (by omega) hi'
   simp only [if_neg e]
   refine ⟨q1, ?_⟩
   have := keep i hi' e (m := n) (U := C i) (by rw [q1]; exact q2)
   rw [q1] at this
   exact this
 · by_cases e : i = k
   · subst e
     have e2 : ¬ j = i := Ne.symm hij
     simp only [if_pos, if_neg e2]
     intro hb
     simp only [Value.ownBlock, Option.some.injEq] at hb
     subst hb
     exact gS j hj e2
   · by_cases e2 : j = k
     · subst e2
       simp only [if_pos, if_neg e]
       intro hb q
       simp only [Value.ownBlock, Option.some.injEq] at q
       subst q
       exact gS i hi e hb
     · simp only [if_neg e, if_neg e2]
       exact h.dis i j hi hj hij b
 · by_cases e : i = k
   · subst e
     simp only [if_pos]
     intro hb
     simp only [Value.ownBlock, Option.some.injEq] at hb
     subst hb
     exact gcb
   · simp only [if_neg e]
     exact h.ncb i hi b
 · have := F1.size
   simp
   omega
theorem AddN.start {w wx : World} {cb n : Nat} {C : Nat → Nat → Int} {V : Nat → Int} {S : Nat → Value} (h : Cs w cb n C S) (hb : Below w.heap.size w wx) (hbody : ∀ j, j < 12 → wx.cell? ⟨w.heap.size, j, none⟩ = some (.int .i64 (V j))) (big : w.heap.size < wx.heap.size) : AddN w wx cb n C V S 0 S := by
 have h' := h.below hb
 exact ⟨hbody, h'.hd, h'.nf, fun i hi => absurd hi (by omega), fun i _ hi => ⟨rfl, h'.own i hi⟩, h.dis, fun i hi b hb => ⟨h.ncb i hi b hb, by have := h.xlt (b := b) ⟨i, hi, hb⟩; omega⟩, Fr.of_below hb, big⟩
def snocC (n : Nat) (C : Nat → Nat → Int) (V : Nat → Int) : Nat → Nat → Int := fun i => snoc n (C i) (V i)
theorem AddN.cs {w wx : World} {cb n : Nat} {C : Nat → Nat → Int} {V : Nat → Int} {S S' : Nat → Value} (h : AddN w wx cb n C V S 12 S') : Cs wx cb (n + 1) (snocC n C V) S' :=
 ⟨h.hd, h.nf, h.did, fun i hi b hb => (h.ncb i hi b hb).1, h.dis⟩
theorem add_any (cb n : Nat) (C : Nat → Nat → Int) (V : Nat → Int) (S : Nat → Value) (w : World) (h : Cs w cb n C S) (hn : n ≤ 1048576) :
 Calls Tryz.prog 121 #[.pointer (some ⟨cb, 0, none⟩), bodyV V] w fun e w' => e = .returned (.tuple #[]) ∧ ∃ S', Cs w' cb (n + 1) (snocC n C V) S' ∧ Fr (fun k => k = cb ∨ Xc S k) w w' := by
 have hset := cset_map
 have hcb := h.lt
 go_enter Tryz.func121, Tryz.ntmps121
 go_upto_region 1 with fail
 have h0 : AddN w (w.alloc (.cells #[.int .i64 (V 0), .int .i64 (V 1), .int .i64 (V 2), .int .i64 (V 3), .int .i64 (V 4), .int .i64 (V 5), .int .i64 (V 6), .int .i64 (V 7), .int .i64 (V 8), .int .i64 (V 9), .int .i64 (V 10), .int .i64 (V 11)] 41)) cb n C V S 0 S := AddN.start h (bel_a) (by intro j hj; rcases (show j = 0 ∨ j = 1 ∨ j = 2 ∨ j = 3 ∨ j = 4 ∨ j = 5 ∨ j = 6 ∨ j = 7 ∨ j = 8 ∨ j = 9 ∨ j = 10 ∨ j = 11 by omega) with rfl | rfl | rfl | rfl | rfl | rfl | rfl | rfl | rfl | rfl | rfl | rfl <;> go_simp) (by simp)
 clear h
 generalize (w.alloc (.cells #[.int .i64 (V 0), .int .i64 (V 1), .int .i64 (V 2), .int .i64 (V 3), .int .i64 (V 4), .int .i64 (V 5), .int .i64 (V 6), .int .i64 (V 7), .int .i64 (V 8), .int .i64 (V 9), .int .i64 (V 10), .int .i64 (V 11)] 41)) = wx0 at h0 ⊢
 have b0 := h0.body 0 (by omega)
 obtain ⟨e0, o0⟩ := h0.todo 0 (by omega) (by omega)
 have c0 := h0.hd 0 (by omega)
 rw [e0] at c0
 clear e0
 have f0 := h0.nf 0 (by omega)
 have z0 := h0.big
 have l0 : cb < wx0.heap.size := by omega
 go_cut [] (fun wc => ∃ S', AddN w wc cb n C V S 1 S')
 case first =>
  refine wp_region_held_drew (S := fun w' => w'.cell? ⟨w.heap.size, 0, none⟩ = some (.int .i64 (V 0))) (by kernel_rfl) ?_ (fun hHeld => ?_)
  · (try dsimp only)
    (first | (go_simp; done) | (go_keep; done))
  refine tq 0 hHeld ?_
  refine tq 1 hHeld ?_
  refine tq 2 hHeld ?_
  refine tq 3 hHeld ?_
  refine tq 5 hHeld ?_
  refine tq 6 hHeld ?_
  refine td 4 7 hHeld (fun hHeld => ?_)
  refine tc 8 fun K hK => ?_
  refine step_app1 (by rfl) _ _ _ (by rfl) cb 61 (.int .i64 0) Tryz.underlying163 (by kernel_rfl) (by rfl) (S 0) n (C 0) (by rfl) (o0.alloc' _) wx0.heap.size _ (V 0) (by rfl) (by go_simp) hn (by simp; omega) (wx0.heap.size + 1) (by simp) ?_
  intro g cap w1 ho hg hor hlt
  obtain ⟨qb, qc, qf, hst⟩ := AddN.step h0 (by omega) hcb ho hg hor hlt
  refine tr hK (fun hHeld => ?_) (by (try dsimp only); exact qb)
  clear hK K
  refine tq 9 hHeld ?_
  refine tq 10 hHeld ?_
  (refine tc 11 fun K hK => ?_; go_simp; refine tr hK (fun hHeld => ?_) (by (try dsimp only); exact (cset_far (by simp; omega)).trans qb); clear hK K)
  refine wpAnyH_done (by kernel_rfl) ?_ _
  go_wp2_with fail
  go_meet
  exact ⟨_, hst⟩
 case rest =>
 obtain ⟨S1, h1⟩ := hcut
 clear b0 o0 c0 f0 z0 l0 h0
 go_upto_region 2 with fail
 have b0 := h1.body 1 (by omega)
 obtain ⟨e0, o0⟩ := h1.todo 1 (by omega) (by omega)
 have c0 := h1.hd 1 (by omega)
 rw [e0] at c0
 clear e0
 have f0 := h1.nf 1 (by omega)
 have z0 := h1.big
 have l0 : cb < wc.heap.size := by omega
 go_cut [] (fun wc => ∃ S', AddN w wc cb n C V S 2 S')
 case first =>
  refine wp_region_held_drew (S := fun w' => w'.cell? ⟨w.heap.size, 1, none⟩ = some (.int .i64 (V 1))) (by kernel_rfl) ?_ (fun hHeld => ?_)
  · (try dsimp only)
    (first | (go_simp; done) | (go_keep; done))
  refine tq 0 hHeld ?_
  refine tq 1 hHeld ?_
  refine tq 2 hHeld ?_
  refine tq 3 hHeld ?_
  refine tq 5 hHeld ?_
  refine tq 6 hHeld ?_
  refine tq 7 hHeld ?_
  refine td 4 8 hHeld (fun hHeld => ?_)
  refine tc 9 fun K hK => ?_
  refine step_app1 (by rfl) _ _ _ (by rfl) cb 61 (.int .i64 0) Tryz.underlying163 (by kernel_rfl) (by rfl) (S 1) n (C 1) (by rfl) (o0.alloc' _) wc.heap.size _ (V 1) (by rfl) (by go_simp) hn (by simp; omega) (wc.heap.size + 1) (by simp) ?_
  intro g cap w1 ho hg hor hlt
  obtain ⟨qb, qc, qf, hst⟩ := AddN.step h1 (by omega) hcb ho hg hor hlt
  refine tr hK (fun hHeld => ?_) (by (try dsimp only); exact qb)
  clear hK K
  refine tq 10 hHeld ?_
  refine tq 11 hHeld ?_
  (refine tc 12 fun K hK => ?_; go_simp; refine tr hK (fun hHeld => ?_) (by (try dsimp only); exact (cset_far (by simp; omega)).trans qb); clear hK K)
  refine wpAnyH_done (by kernel_rfl) ?_ _
  go_wp2_with fail
  go_meet
  exact ⟨_, hst⟩
 case rest =>
 obtain ⟨S2, h2⟩ := hcut
 clear b0 o0 c0 f0 z0 l0 h1
 go_upto_region 3 with fail
 have b0 := h2.body 2 (by omega)
 obtain ⟨e0, o0⟩ := h2.todo 2 (by omega) (by omega)
 have c0 := h2.hd 2 (by omega)
 rw [e0] at c0
 clear e0
 have f0 := h2.nf 2 (by omega)
 have z0 := h2.big
 have l0 : cb < wc.heap.size := by omega
 go_cut [] (fun wc => ∃ S', AddN w wc cb n C V S 3 S')
 case first =>
  refine wp_region_held_drew (S := fun w' => w'.cell? ⟨w.heap.size, 2, none⟩ = some (.int .i64 (V 2))) (by kernel_rfl) ?_ (fun hHeld => ?_)
  · (try dsimp only)
    (first | (go_simp; done) | (go_keep; done))
  refine tq 0 hHeld ?_
  refine tq 1 hHeld ?_
  refine tq 2 hHeld ?_
  refine tq 3 hHeld ?_
  refine tq 5 hHeld ?_
  refine tq 6 hHeld ?_
  refine tq 7 hHeld ?_
  refine td 4 8 hHeld (fun hHeld => ?_)
  refine tc 9 fun K hK => ?_
  refine step_app1 (by rfl) _ _ _ (by rfl) cb 61 (.int .i64 0) Tryz.underlying163 (by kernel_rfl) (by rfl) (S 2) n (C 2) (by rfl) (o0.alloc' _) wc.heap.size _ (V 2) (by rfl) (by go_simp) hn (by simp; omega) (wc.heap.size + 1) (by simp) ?_
  intro g cap w1 ho hg hor hlt
  obtain ⟨qb, qc, qf, hst⟩ := AddN.step h2 (by omega) hcb ho hg hor hlt
  refine tr hK (fun hHeld => ?_) (by (try dsimp only); exact qb)
  clear hK K
  refine tq 10 hHeld ?_
  refine tq 11 hHeld ?_
  (refine tc 12 fun K hK => ?_; go_simp; refine tr hK (fun hHeld => ?_) (by (try dsimp only); exact (cset_far (by simp; omega)).trans qb); clear hK K)
  refine wpAnyH_done (by kernel_rfl) ?_ _
  go_wp2_with fail
  go_meet
  exact ⟨_, hst⟩
 case rest =>
 obtain ⟨S3, h3⟩ := hcut
 clear b0 o0 c0 f0 z0 l0 h2
 go_upto_region 4 with fail
 have b0 := h3.body 3 (by omega)
 obtain ⟨e0, o0⟩ := h3.todo 3 (by omega) (by omega)
 have c0 := h3.hd 3 (by omega)
 rw [e0] at c0
 clear e0
 have f0 := h3.nf 3 (by omega)
 have z0 := h3.big
 have l0 : cb < wc.heap.size := by omega
 go_cut [] (fun wc => ∃ S', AddN w wc cb n C V S 4 S')
 case first =>
  refine wp_region_held_drew (S := fun w' => w'.cell? ⟨w.heap.size, 3, none⟩ = some (.int .i64 (V 3))) (by kernel_rfl) ?_ (fun hHeld => ?_)
  · (try dsimp only)
    (first | (go_simp; done) | (go_keep; done))
  refine tq 0 hHeld ?_
  refine tq 1 hHeld ?_
  refine tq 2 hHeld ?_
  refine tq 3 hHeld ?_
  refine tq 5 hHeld ?_
  refine tq 6 hHeld ?_
  refine tq 7 hHeld ?_
  refine td 4 8 hHeld (fun hHeld => ?_)
  refine tc 9 fun K hK => ?_
  refine step_app1 (by rfl) _ _ _ (by rfl) cb 61 (.int .i64 0) Tryz.underlying163 (by kernel_rfl) (by rfl) (S 3) n (C 3) (by rfl) (o0.alloc' _) wc.heap.size _ (V 3) (by rfl) (by go_simp) hn (by simp; omega) (wc.heap.size + 1) (by simp) ?_
  intro g cap w1 ho hg hor hlt
  obtain ⟨qb, qc, qf, hst⟩ := AddN.step h3 (by omega) hcb ho hg hor hlt
  refine tr hK (fun hHeld => ?_) (by (try dsimp only); exact qb)
  clear hK K
  refine tq 10 hHeld ?_
  refine tq 11 hHeld ?_
  (refine tc 12 fun K hK => ?_; go_simp; refine tr hK (fun hHeld => ?_) (by (try dsimp only); exact (cset_far (by simp; omega)).trans qb); clear hK K)
  refine wpAnyH_done (by kernel_rfl) ?_ _
  go_wp2_with fail
  go_meet
  exact ⟨_, hst⟩
 case rest =>
 obtain ⟨S4, h4⟩ := hcut
 clear b0 o0 c0 f0 z0 l0 h3
 go_upto_region 5 with fail
 have b0 := h4.body 4 (by omega)
 obtain ⟨e0, o0⟩ := h4.todo 4 (by omega) (by omega)
 have c0 := h4.hd 4 (by omega)
 rw [e0] at c0
 clear e0
 have f0 := h4.nf 4 (by omega)
 have z0 := h4.big
 have l0 : cb < wc.heap.size := by omega
 go_cut [] (fun wc => ∃ S', AddN w wc cb n C V S 5 S')
 case first =>
  refine wp_region_held_drew (S := fun w' => w'.cell? ⟨w.heap.size, 4, none⟩ = some (.int .i64 (V 4))) (by kernel_rfl) ?_ (fun hHeld => ?_)
  · (try dsimp only)
    (first | (go_simp; done) | (go_keep; done))
  refine tq 0 hHeld ?_
  refine tq 1 hHeld ?_
  refine tq 2 hHeld ?_
  refine tq 3 hHeld ?_
  refine tq 5 hHeld ?_
  refine tq 6 hHeld ?_
  refine tq 7 hHeld ?_
  refine td 4 8 hHeld (fun hHeld => ?_)
  refine tc 9 fun K hK => ?_
  refine step_app1 (by rfl) _ _ _ (by rfl) cb 61 (.int .i64 0) Tryz.underlying163 (by kernel_rfl) (by rfl) (S 4) n (C 4) (by rfl) (o0.alloc' _) wc.heap.size _ (V 4) (by rfl) (by go_simp) hn (by simp; omega) (wc.heap.size + 1) (by simp) ?_
  intro g cap w1 ho hg hor hlt
  obtain ⟨qb, qc, qf, hst⟩ := AddN.step h4 (by omega) hcb ho hg hor hlt
  refine tr hK (fun hHeld => ?_) (by (try dsimp only); exact qb)
  clear hK K
  refine tq 10 hHeld ?_
  refine tq 11 hHeld ?_
  (refine tc 12 fun K hK => ?_; go_simp; refine tr hK (fun hHeld => ?_) (by (try dsimp only); exact (cset_far (by simp; omega)).trans qb); clear hK K)
  refine wpAnyH_done (by kernel_rfl) ?_ _
  go_wp2_with fail
  go_meet
  exact ⟨_, hst⟩
 case rest =>
 obtain ⟨S5, h5⟩ := hcut
 clear b0 o0 c0 f0 z0 l0 h4
 go_upto_region 6 with fail
 have b0 := h5.body 5 (by omega)
 obtain ⟨e0, o0⟩ := h5.todo 5 (by omega) (by omega)
 have c0 := h5.hd 5 (by omega)
 rw [e0] at c0
 clear e0
 have f0 := h5.nf 5 (by omega)
 have z0 := h5.big
 have l0 : cb < wc.heap.size := by omega
 go_cut [] (fun wc => ∃ S', AddN w wc cb n C V S 6 S')
 case first =>
  refine wp_region_held_drew (S := fun w' => w'.cell? ⟨w.heap.size, 5, none⟩ = some (.int .i64 (V 5))) (by kernel_rfl) ?_ (fun hHeld => ?_)
  · (try dsimp only)
    (first | (go_simp; done) | (go_keep; done))
  refine tq 0 hHeld ?_
  refine tq 1 hHeld ?_
  refine tq 2 hHeld ?_
  refine tq 3 hHeld ?_
  refine tq 5 hHeld ?_
  refine tq 6 hHeld ?_
  refine tq 7 hHeld ?_
  refine td 4 8 hHeld (fun hHeld => ?_)
  refine tc 9 fun K hK => ?_
  refine step_app1 (by rfl) _ _ _ (by rfl) cb 61 (.int .i64 0) Tryz.underlying163 (by kernel_rfl) (by rfl) (S 5) n (C 5) (by rfl) (o0.alloc' _) wc.heap.size _ (V 5) (by rfl) (by go_simp) hn (by simp; omega) (wc.heap.size + 1) (by simp) ?_
  intro g cap w1 ho hg hor hlt
  obtain ⟨qb, qc, qf, hst⟩ := AddN.step h5 (by omega) hcb ho hg hor hlt
  refine tr hK (fun hHeld => ?_) (by (try dsimp only); exact qb)
  clear hK K
  refine tq 10 hHeld ?_
  refine tq 11 hHeld ?_
  (refine tc 12 fun K hK => ?_; go_simp; refine tr hK (fun hHeld => ?_) (by (try dsimp only); exact (cset_far (by simp; omega)).trans qb); clear hK K)
  refine wpAnyH_done (by kernel_rfl) ?_ _
  go_wp2_with fail
  go_meet
  exact ⟨_, hst⟩
 case rest =>
 obtain ⟨S6, h6⟩ := hcut
 clear b0 o0 c0 f0 z0 l0 h5
 go_upto_region 7 with fail
 have b0 := h6.body 6 (by omega)
 obtain ⟨e0, o0⟩ := h6.todo 6 (by omega) (by omega)
 have c0 := h6.hd 6 (by omega)
 rw [e0] at c0
 clear e0
 have f0 := h6.nf 6 (by omega)
 have z0 := h6.big
 have l0 : cb < wc.heap.size := by omega
 go_cut [] (fun wc => ∃ S', AddN w wc cb n C V S 7 S')
 case first =>
  refine wp_region_held_drew (S := fun w' => w'.cell? ⟨w.heap.size, 6, none⟩ = some (.int .i64 (V 6))) (by kernel_rfl) ?_ (fun hHeld => ?_)
  · (try dsimp only)
    (first | (go_simp; done) | (go_keep; done))
  refine tq 0 hHeld ?_
  refine tq 1 hHeld ?_
  refine tq 2 hHeld ?_
  refine tq 3 hHeld ?_
  refine tq 5 hHeld ?_
  refine tq 6 hHeld ?_
  refine tq 7 hHeld ?_
  refine td 4 8 hHeld (fun hHeld => ?_)
  refine tc 9 fun K hK => ?_
  refine step_app1 (by rfl) _ _ _ (by rfl) cb 61 (.int .i64 0) Tryz.underlying163 (by kernel_rfl) (by rfl) (S 6) n (C 6) (by rfl) (o0.alloc' _) wc.heap.size _ (V 6) (by rfl) (by go_simp) hn (by simp; omega) (wc.heap.size + 1) (by simp) ?_
  intro g cap w1 ho hg hor hlt
  obtain ⟨qb, qc, qf, hst⟩ := AddN.step h6 (by omega) hcb ho hg hor hlt
  refine tr hK (fun hHeld => ?_) (by (try dsimp only); exact qb)
  clear hK K
  refine tq 10 hHeld ?_
  refine tq 11 hHeld ?_
  (refine tc 12 fun K hK => ?_; go_simp; refine tr hK (fun hHeld => ?_) (by (try dsimp only); exact (cset_far (by simp; omega)).trans qb); clear hK K)
  refine wpAnyH_done (by kernel_rfl) ?_ _
  go_wp2_with fail
  go_meet
  exact ⟨_, hst⟩
 case rest =>
 obtain ⟨S7, h7⟩ := hcut
 clear b0 o0 c0 f0 z0 l0 h6
 go_upto_region 8 with fail
 have b0 := h7.body 7 (by omega)
 obtain ⟨e0, o0⟩ := h7.todo 7 (by omega) (by omega)
 have c0 := h7.hd 7 (by omega)
 rw [e0] at c0
 clear e0
 have f0 := h7.nf 7 (by omega)
 have z0 := h7.big
 have l0 : cb < wc.heap.size := by omega
 go_cut [] (fun wc => ∃ S', AddN w wc cb n C V S 8 S')
 case first =>
  refine wp_region_held_drew (S := fun w' => w'.cell? ⟨w.heap.size, 7, none⟩ = some (.int .i64 (V 7))) (by kernel_rfl) ?_ (fun hHeld => ?_)
  · (try dsimp only)
    (first | (go_simp; done) | (go_keep; done))
  refine tq 0 hHeld ?_
  refine tq 1 hHeld ?_
  refine tq 2 hHeld ?_
  refine tq 3 hHeld ?_
  refine tq 5 hHeld ?_
  refine tq 6 hHeld ?_
  refine tq 7 hHeld ?_
  refine td 4 8 hHeld (fun hHeld => ?_)
  refine tc 9 fun K hK => ?_
  refine step_app1 (by rfl) _ _ _ (by rfl) cb 61 (.int .i64 0) Tryz.underlying163 (by kernel_rfl) (by rfl) (S 7) n (C 7) (by rfl) (o0.alloc' _) wc.heap.size _ (V 7) (by rfl) (by go_simp) hn (by simp; omega) (wc.heap.size + 1) (by simp) ?_
  intro g cap w1 ho hg hor hlt
  obtain ⟨qb, qc, qf, hst⟩ := AddN.step h7 (by omega) hcb ho hg hor hlt
  refine tr hK (fun hHeld => ?_) (by (try dsimp only); exact qb)
  clear hK K
  refine tq 10 hHeld ?_
  refine tq 11 hHeld ?_
  (refine tc 12 fun K hK => ?_; go_simp; refine tr hK (fun hHeld => ?_) (by (try dsimp only); exact (cset_far (by simp; omega)).trans qb); clear hK K)
  refine wpAnyH_done (by kernel_rfl) ?_ _
  go_wp2_with fail
  go_meet
  exact ⟨_, hst⟩
 case rest =>
 obtain ⟨S8, h8⟩ := hcut
 clear b0 o0 c0 f0 z0 l0 h7
 go_upto_region 9 with fail
 have b0 := h8.body 8 (by omega)
 obtain ⟨e0, o0⟩ := h8.todo 8 (by omega) (by omega)
 have c0 := h8.hd 8 (by omega)
 rw [e0] at c0
 clear e0
 have f0 := h8.nf 8 (by omega)
 have z0 := h8.big
 have l0 : cb < wc.heap.size := by omega
 go_cut [] (fun wc => ∃ S', AddN w wc cb n C V S 9 S')
 case first =>
  refine wp_region_held_drew (S := fun w' => w'.cell? ⟨w.heap.size, 8, none⟩ = some (.int .i64 (V 8))) (by kernel_rfl) ?_ (fun hHeld => ?_)
  · (try dsimp only)
    (first | (go_simp; done) | (go_keep; done))
  refine tq 0 hHeld ?_
  refine tq 1 hHeld ?_
  refine tq 2 hHeld ?_
  refine tq 3 hHeld ?_
  refine tq 5 hHeld ?_
  refine tq 6 hHeld ?_
  refine td 4 7 hHeld (fun hHeld => ?_)
  refine tc 8 fun K hK => ?_
  refine step_app1 (by rfl) _ _ _ (by rfl) cb 61 (.int .i64 0) Tryz.underlying163 (by kernel_rfl) (by rfl) (S 8) n (C 8) (by rfl) (o0.alloc' _) wc.heap.size _ (V 8) (by rfl) (by go_simp) hn (by simp; omega) (wc.heap.size + 1) (by simp) ?_
  intro g cap w1 ho hg hor hlt
  obtain ⟨qb, qc, qf, hst⟩ := AddN.step h8 (by omega) hcb ho hg hor hlt
  refine tr hK (fun hHeld => ?_) (by (try dsimp only); exact qb)
  clear hK K
  refine tq 9 hHeld ?_
  refine tq 10 hHeld ?_
  (refine tc 11 fun K hK => ?_; go_simp; refine tr hK (fun hHeld => ?_) (by (try dsimp only); exact (cset_far (by simp; omega)).trans qb); clear hK K)
  refine wpAnyH_done (by kernel_rfl) ?_ _
  go_wp2_with fail
  go_meet
  exact ⟨_, hst⟩
 case rest =>
 obtain ⟨S9, h9⟩ := hcut
 clear b0 o0 c0 f0 z0 l0 h8
 go_upto_region 10 with fail
 have b0 := h9.body 9 (by omega)
 obtain ⟨e0, o0⟩ := h9.todo 9 (by omega) (by omega)
 have c0 := h9.hd 9 (by omega)
 rw [e0] at c0
 clear e0
 have f0 := h9.nf 9 (by omega)
 have z0 := h9.big
 have l0 : cb < wc.heap.size := by omega
 go_cut [] (fun wc => ∃ S', AddN w wc cb n C V S 10 S')
 case first =>
  refine wp_region_held_drew (S := fun w' => w'.cell? ⟨w.heap.size, 9, none⟩ = some (.int .i64 (V 9))) (by kernel_rfl) ?_ (fun hHeld => ?_)
  · (try dsimp only)
    (first | (go_simp; done) | (go_keep; done))
  refine tq 0 hHeld ?_
  refine tq 1 hHeld ?_
  refine tq 2 hHeld ?_
  refine tq 3 hHeld ?_
  refine tq 5 hHeld ?_
  refine tq 6 hHeld ?_
  refine td 4 7 hHeld (fun hHeld => ?_)
  refine tc 8 fun K hK => ?_
  refine step_app1 (by rfl) _ _ _ (by rfl) cb 61 (.int .i64 0) Tryz.underlying163 (by kernel_rfl) (by rfl) (S 9) n (C 9) (by rfl) (o0.alloc' _) wc.heap.size _ (V 9) (by rfl) (by go_simp) hn (by simp; omega) (wc.heap.size + 1) (by simp) ?_
  intro g cap w1 ho hg hor hlt
  obtain ⟨qb, qc, qf, hst⟩ := AddN.step h9 (by omega) hcb ho hg hor hlt
  refine tr hK (fun hHeld => ?_) (by (try dsimp only); exact qb)
  clear hK K
  refine tq 9 hHeld ?_
  refine tq 10 hHeld ?_
  (refine tc 11 fun K hK => ?_; go_simp; refine tr hK (fun hHeld => ?_) (by (try dsimp only); exact (cset_far (by simp; omega)).trans qb); clear hK K)
  refine wpAnyH_done (by kernel_rfl) ?_ _
  go_wp2_with fail
  go_meet
  exact ⟨_, hst⟩
 case rest =>
 obtain ⟨S10, h10⟩ := hcut
 clear b0 o0 c0 f0 z0 l0 h9
 go_upto_region 11 with fail
 have b0 := h10.body 10 (by omega)
 obtain ⟨e0, o0⟩ := h10.todo 10 (by omega) (by omega)
 have c0 := h10.hd 10 (by omega)
 rw [e0] at c0
 clear e0
 have f0 := h10.nf 10 (by omega)
 have z0 := h10.big
 have l0 : cb < wc.heap.size := by omega
 go_cut [] (fun wc => ∃ S', AddN w wc cb n C V S 11 S')
 case first =>
  refine wp_region_held_drew (S := fun w' => w'.cell? ⟨w.heap.size, 10, none⟩ = some (.int .i64 (V 10))) (by kernel_rfl) ?_ (fun hHeld => ?_)
  · (try dsimp only)
    (first | (go_simp; done) | (go_keep; done))
  refine tq 0 hHeld ?_
  refine tq 1 hHeld ?_
  refine tq 2 hHeld ?_
  refine tq 3 hHeld ?_
  refine tq 5 hHeld ?_
  refine tq 6 hHeld ?_
  refine td 4 7 hHeld (fun hHeld => ?_)
  refine tc 8 fun K hK => ?_
  refine step_app1 (by rfl) _ _ _ (by rfl) cb 61 (.int .i64 0) Tryz.underlying163 (by kernel_rfl) (by rfl) (S 10) n (C 10) (by rfl) (o0.alloc' _) wc.heap.size _ (V 10) (by rfl) (by go_simp) hn (by simp; omega) (wc.heap.size + 1) (by simp) ?_
  intro g cap w1 ho hg hor hlt
  obtain ⟨qb, qc, qf, hst⟩ := AddN.step h10 (by omega) hcb ho hg hor hlt
  refine tr hK (fun hHeld => ?_) (by (try dsimp only); exact qb)
  clear hK K
  refine tq 9 hHeld ?_
  refine tq 10 hHeld ?_
  (refine tc 11 fun K hK => ?_; go_simp; refine tr hK (fun hHeld => ?_) (by (try dsimp only); exact (cset_far (by simp; omega)).trans qb); clear hK K)
  refine wpAnyH_done (by kernel_rfl) ?_ _
  go_wp2_with fail
  go_meet
  exact ⟨_, hst⟩
 case rest =>
 obtain ⟨S11, h11⟩ := hcut
 clear b0 o0 c0 f0 z0 l0 h10
 go_upto_region 12 with fail
 have b0 := h11.body 11 (by omega)
 obtain ⟨e0, o0⟩ := h11.todo 11 (by omega) (by omega)
 have c0 := h11.hd 11 (by omega)
 rw [e0] at c0
 clear e0
 have f0 := h11.nf 11 (by omega)
 have z0 := h11.big
 have l0 : cb < wc.heap.size := by omega
 refine wp_region_held_drew (S := fun w' => w'.cell? ⟨w.heap.size, 11, none⟩ = some (.int .i64 (V 11))) (by kernel_rfl) ?_ (fun hHeld => ?_)
 · (try dsimp only)
   (first | (go_simp; done) | (go_keep; done))
 refine tq 0 hHeld ?_
 refine tq 1 hHeld ?_
 refine tq 2 hHeld ?_
 refine tq 3 hHeld ?_
 refine tq 5 hHeld ?_
 refine tq 6 hHeld ?_
 refine td 4 7 hHeld (fun hHeld => ?_)
 refine tc 8 fun K hK => ?_
 refine step_app1 (by rfl) _ _ _ (by rfl) cb 61 (.int .i64 0) Tryz.underlying163 (by kernel_rfl) (by rfl) (S 11) n (C 11) (by rfl) (o0.alloc' _) wc.heap.size _ (V 11) (by rfl) (by go_simp) hn (by simp; omega) (wc.heap.size + 1) (by simp) ?_
 intro g cap w1 ho hg hor hlt
 obtain ⟨qb, qc, qf, hst⟩ := AddN.step h11 (by omega) hcb ho hg hor hlt
 refine tr hK (fun hHeld => ?_) (by (try dsimp only); exact qb)
 clear hK K
 refine tq 9 hHeld ?_
 refine tq 10 hHeld ?_
 (refine tc 11 fun K hK => ?_; go_simp; refine tr hK (fun hHeld => ?_) (by (try dsimp only); exact (cset_far (by simp; omega)).trans qb); clear hK K)
 refine wpAnyH_done (by kernel_rfl) ?_ _
 go_wp2_with fail
 go_end0
 exact ⟨rfl, _, hst.cs, hst.fr⟩
def colOf (U : Nat → Int) : Nat → Nat → Int := fun i k => U (k * 12 + i)
theorem snoc_col (U : Nat → Int) (n : Nat) {i k : Nat} (hk : k < n + 1) : snocC n (colOf U) (fun j => U (n * 12 + j)) i k = colOf U i k := by
 unfold snocC snoc colOf
 by_cases e : k = n
 · rw [if_pos e, e]
 · rw [if_neg e]
theorem rowsOf_any (a : Option Addr) (n c : Nat) (U : Nat → Int) (w : World) (h : Flat w a (n * 12) U) (hn : n ≤ 1048575) :
 Calls Tryz.prog 98 #[.slice a n c] w fun e w' => e = .returned (.pointer (some ⟨w.heap.size, 0, none⟩)) ∧ Below w.heap.size w w' ∧ ∃ S, Cs w' w.heap.size n (colOf U) S := by
 have hset := cset_map
 go_enter Tryz.func98, Tryz.ntmps98
 go_wp2
 go_loopw [5, 10] (fun _ i wr => ∃ k : Nat, k ≤ n ∧ i = .int .i64 (k : Int) ∧ Below w.heap.size w wr ∧ ∃ S, Cs wr w.heap.size k (colOf U) S) (fun _ i _ => n - (intOf i).toNat)
 case atStart =>
  refine ⟨0, Nat.zero_le _, rfl, (Below.refl _ _).alloc (Nat.le_refl _) _, fun _ => .slice none 0 0, fun i hi => ?_, fun i hi => ?_, fun i hi => OwnL.nil _ _ _ _ _, (fun _ _ _ e => by cases e), (fun _ _ _ _ _ _ e => by cases e)⟩
  · rcases (show i = 0 ∨ i = 1 ∨ i = 2 ∨ i = 3 ∨ i = 4 ∨ i = 5 ∨ i = 6 ∨ i = 7 ∨ i = 8 ∨ i = 9 ∨ i = 10 ∨ i = 11 by omega) with rfl | rfl | rfl | rfl | rfl | rfl | rfl | rfl | rfl | rfl | rfl | rfl <;> go_simp
  · go_simp
 case round =>
  obtain ⟨k, hk, rfl, hB, S, hC⟩ := hrel
  by_cases hlt : k < n
  · obtain ⟨b, o, rfl, hbl, hc⟩ := h (by omega)
    have hc' : ∀ q, q < n * 12 → wr.cell? ⟨b, o + q, none⟩ = some (.int .i64 (U q)) := fun q hq => (hB.cell (p := ⟨b, o + q, none⟩) hbl).trans (hc q hq)
    clear hc
    have c0 := hc' (k * 12) (by omega)
    have c1 := hc' (k * 12 + 1) (by omega)
    have c2 := hc' (k * 12 + 2) (by omega)
    have c3 := hc' (k * 12 + 3) (by omega)
    have c4 := hc' (k * 12 + 4) (by omega)
    have c5 := hc' (k * 12 + 5) (by omega)
    have c6 := hc' (k * 12 + 6) (by omega)
    have c7 := hc' (k * 12 + 7) (by omega)
    have c8 := hc' (k * 12 + 8) (by omega)
    have c9 := hc' (k * 12 + 9) (by omega)
    have c10 := hc' (k * 12 + 10) (by omega)
    have c11 := hc' (k * 12 + 11) (by omega)
    simp only [← Nat.add_assoc] at c0 c1 c2 c3 c4 c5 c6 c7 c8 c9 c10 c11
    clear hc'
    go_upto_region 5 with fail
    have hE : Below wr.heap.size wr (wr.alloc (Obj.cells #[.int .i64 (U (k * 12)), .int .i64 (U (k * 12 + 1)), .int .i64 (U (k * 12 + 2)), .int .i64 (U (k * 12 + 3)), .int .i64 (U (k * 12 + 4)), .int .i64 (U (k * 12 + 5)), .int .i64 (U (k * 12 + 6)), .int .i64 (U (k * 12 + 7)), .int .i64 (U (k * 12 + 8)), .int .i64 (U (k * 12 + 9)), .int .i64 (U (k * 12 + 10)), .int .i64 (U (k * 12 + 11))] 41)) := (Below.refl _ _).alloc (Nat.le_refl _) _
    have hB2 := hB.trans (hE.mono hB.size)
    have hC2 := hC.below hE
    have x0 : (wr.alloc (Obj.cells #[.int .i64 (U (k * 12)), .int .i64 (U (k * 12 + 1)), .int .i64 (U (k * 12 + 2)), .int .i64 (U (k * 12 + 3)), .int .i64 (U (k * 12 + 4)), .int .i64 (U (k * 12 + 5)), .int .i64 (U (k * 12 + 6)), .int .i64 (U (k * 12 + 7)), .int .i64 (U (k * 12 + 8)), .int .i64 (U (k * 12 + 9)), .int .i64 (U (k * 12 + 10)), .int .i64 (U (k * 12 + 11))] 41)).cell? ⟨wr.heap.size, 0, none⟩ = some (.int .i64 (U (k * 12))) := by go_simp
    have x1 : (wr.alloc (Obj.cells #[.int .i64 (U (k * 12)), .int .i64 (U (k * 12 + 1)), .int .i64 (U (k * 12 + 2)), .int .i64 (U (k * 12 + 3)), .int .i64 (U (k * 12 + 4)), .int .i64 (U (k * 12 + 5)), .int .i64 (U (k * 12 + 6)), .int .i64 (U (k * 12 + 7)), .int .i64 (U (k * 12 + 8)), .int .i64 (U (k * 12 + 9)), .int .i64 (U (k * 12 + 10)), .int .i64 (U (k * 12 + 11))] 41)).cell? ⟨wr.heap.size, 1, none⟩ = some (.int .i64 (U (k * 12 + 1))) := by go_simp
    have x2 : (wr.alloc (Obj.cells #[.int .i64 (U (k * 12)), .int .i64 (U (k * 12 + 1)), .int .i64 (U (k * 12 + 2)), .int .i64 (U (k * 12 + 3)), .int .i64 (U (k * 12 + 4)), .int .i64 (U (k * 12 + 5)), .int .i64 (U (k * 12 + 6)), .int .i64 (U (k * 12 + 7)), .int .i64 (U (k * 12 + 8)), .int .i64 (U (k * 12 + 9)), .int .i64 (U (k * 12 + 10)), .int .i64 (U (k * 12 + 11))] 41)).cell? ⟨wr.heap.size, 2, none⟩ = some (.int .i64 (U (k * 12 + 2))) := by go_simp
    have x3 : (wr.alloc (Obj.cells #[.int .i64 (U (k * 12)), .int .i64 (U (k * 12 + 1)), .int .i64 (U (k * 12 + 2)), .int .i64 (U (k * 12 + 3)), .int .i64 (U (k * 12 + 4)), .int .i64 (U (k * 12 + 5)), .int .i64 (U (k * 12 + 6)), .int .i64 (U (k * 12 + 7)), .int .i64 (U (k * 12 + 8)), .int .i64 (U (k * 12 + 9)), .int .i64 (U (k * 12 + 10)), .int .i64 (U (k * 12 + 11))] 41)).cell? ⟨wr.heap.size, 3, none⟩ = some (.int .i64 (U (k * 12 + 3))) := by go_simp
    have x4 : (wr.alloc (Obj.cells #[.int .i64 (U (k * 12)), .int .i64 (U (k * 12 + 1)), .int .i64 (U (k * 12 + 2)), .int .i64 (U (k * 12 + 3)), .int .i64 (U (k * 12 + 4)), .int .i64 (U (k * 12 + 5)), .int .i64 (U (k * 12 + 6)), .int .i64 (U (k * 12 + 7)), .int .i64 (U (k * 12 + 8)), .int .i64 (U (k * 12 + 9)), .int .i64 (U (k * 12 + 10)), .int .i64 (U (k * 12 + 11))] 41)).cell? ⟨wr.heap.size, 4, none⟩ = some (.int .i64 (U (k * 12 + 4))) := by go_simp
    have x5 : (wr.alloc (Obj.cells #[.int .i64 (U (k * 12)), .int .i64 (U (k * 12 + 1)), .int .i64 (U (k * 12 + 2)), .int .i64 (U (k * 12 + 3)), .int .i64 (U (k * 12 + 4)), .int .i64 (U (k * 12 + 5)), .int .i64 (U (k * 12 + 6)), .int .i64 (U (k * 12 + 7)), .int .i64 (U (k * 12 + 8)), .int .i64 (U (k * 12 + 9)), .int .i64 (U (k * 12 + 10)), .int .i64 (U (k * 12 + 11))] 41)).cell? ⟨wr.heap.size, 5, none⟩ = some (.int .i64 (U (k * 12 + 5))) := by go_simp
    have x6 : (wr.alloc (Obj.cells #[.int .i64 (U (k * 12)), .int .i64 (U (k * 12 + 1)), .int .i64 (U (k * 12 + 2)), .int .i64 (U (k * 12 + 3)), .int .i64 (U (k * 12 + 4)), .int .i64 (U (k * 12 + 5)), .int .i64 (U (k * 12 + 6)), .int .i64 (U (k * 12 + 7)), .int .i64 (U (k * 12 + 8)), .int .i64 (U (k * 12 + 9)), .int .i64 (U (k * 12 + 10)), .int .i64 (U (k * 12 + 11))] 41)).cell? ⟨wr.heap.size, 6, none⟩ = some (.int .i64 (U (k * 12 + 6))) := by go_simp
    have x7 : (wr.alloc (Obj.cells #[.int .i64 (U (k * 12)), .int .i64 (U (k * 12 + 1)), .int .i64 (U (k * 12 + 2)), .int .i64 (U (k * 12 + 3)), .int .i64 (U (k * 12 + 4)), .int .i64 (U (k * 12 + 5)), .int .i64 (U (k * 12 + 6)), .int .i64 (U (k * 12 + 7)), .int .i64 (U (k * 12 + 8)), .int .i64 (U (k * 12 + 9)), .int .i64 (U (k * 12 + 10)), .int .i64 (U (k * 12 + 11))] 41)).cell? ⟨wr.heap.size, 7, none⟩ = some (.int .i64 (U (k * 12 + 7))) := by go_simp
    have x8 : (wr.alloc (Obj.cells #[.int .i64 (U (k * 12)), .int .i64 (U (k * 12 + 1)), .int .i64 (U (k * 12 + 2)), .int .i64 (U (k * 12 + 3)), .int .i64 (U (k * 12 + 4)), .int .i64 (U (k * 12 + 5)), .int .i64 (U (k * 12 + 6)), .int .i64 (U (k * 12 + 7)), .int .i64 (U (k * 12 + 8)), .int .i64 (U (k * 12 + 9)), .int .i64 (U (k * 12 + 10)), .int .i64 (U (k * 12 + 11))] 41)).cell? ⟨wr.heap.size, 8, none⟩ = some (.int .i64 (U (k * 12 + 8))) := by go_simp
    have x9 : (wr.alloc (Obj.cells #[.int .i64 (U (k * 12)), .int .i64 (U (k * 12 + 1)), .int .i64 (U (k * 12 + 2)), .int .i64 (U (k * 12 + 3)), .int .i64 (U (k * 12 + 4)), .int .i64 (U (k * 12 + 5)), .int .i64 (U (k * 12 + 6)), .int .i64 (U (k * 12 + 7)), .int .i64 (U (k * 12 + 8)), .int .i64 (U (k * 12 + 9)), .int .i64 (U (k * 12 + 10)), .int .i64 (U (k * 12 + 11))] 41)).cell? ⟨wr.heap.size, 9, none⟩ = some (.int .i64 (U (k * 12 + 9))) := by go_simp
    have x10 : (wr.alloc (Obj.cells #[.int .i64 (U (k * 12)), .int .i64 (U (k * 12 + 1)), .int .i64 (U (k * 12 + 2)), .int .i64 (U (k * 12 + 3)), .int .i64 (U (k * 12 + 4)), .int .i64 (U (k * 12 + 5)), .int .i64 (U (k * 12 + 6)), .int .i64 (U (k * 12 + 7)), .int .i64 (U (k * 12 + 8)), .int .i64 (U (k * 12 + 9)), .int .i64 (U (k * 12 + 10)), .int .i64 (U (k * 12 + 11))] 41)).cell? ⟨wr.heap.size, 10, none⟩ = some (.int .i64 (U (k * 12 + 10))) := by go_simp
    have x11 : (wr.alloc (Obj.cells #[.int .i64 (U (k * 12)), .int .i64 (U (k * 12 + 1)), .int .i64 (U (k * 12 + 2)), .int .i64 (U (k * 12 + 3)), .int .i64 (U (k * 12 + 4)), .int .i64 (U (k * 12 + 5)), .int .i64 (U (k * 12 + 6)), .int .i64 (U (k * 12 + 7)), .int .i64 (U (k * 12 + 8)), .int .i64 (U (k * 12 + 9)), .int .i64 (U (k * 12 + 10)), .int .i64 (U (k * 12 + 11))] 41)).cell? ⟨wr.heap.size, 11, none⟩ = some (.int .i64 (U (k * 12 + 11))) := by go_simp
    generalize (wr.alloc (Obj.cells #[.int .i64 (U (k * 12)), .int .i64 (U (k * 12 + 1)), .int .i64 (U (k * 12 + 2)), .int .i64 (U (k * 12 + 3)), .int .i64 (U (k * 12 + 4)), .int .i64 (U (k * 12 + 5)), .int .i64 (U (k * 12 + 6)), .int .i64 (U (k * 12 + 7)), .int .i64 (U (k * 12 + 8)), .int .i64 (U (k * 12 + 9)), .int .i64 (U (k * 12 + 10)), .int .i64 (U (k * 12 + 11))] 41)) = wx at hE hB2 hC2 x0 x1 x2 x3 x4 x5 x6 x7 x8 x9 x10 x11 ⊢
    clear c0 c1 c2 c3 c4 c5 c6 c7 c8 c9 c10 c11 hE hC hB
    go_wp2_with (go_at_call 121; refine (add_any w.heap.size k (colOf U) (fun j => U (k * 12 + j)) S _ hC2 (by omega)).mono ?_; rintro e w1 ⟨rfl, S1, hC1, hF1⟩)
    go_roundw
    case rel => exact ⟨k + 1, by omega, by go_num, hB2.trans (hF1.below hB2.size (fun x q => q.elim (fun q => Nat.le_of_eq q.symm) (fun q => Nat.le_of_lt (hC2.xlt q).1))), S1, hC1.congr fun i q _ hq => snoc_col U k hq⟩
    case measure => simp [intOf]; omega
  · go_wp2
    go_ret
    obtain rfl : k = n := by omega
    exact ⟨rfl, hB, S, hC⟩
end Go.Proofs.YthijeiehcdoidaaGreat
