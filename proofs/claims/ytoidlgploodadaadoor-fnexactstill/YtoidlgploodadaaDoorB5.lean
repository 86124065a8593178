/- Lists in memory of their own, beside others; marks. Lists of bodies, row by row: copies, one row replaced; speeds and sleep by the specification. Lists of bodies changed row by row: plain mathematics. Whether all is still: both sides, and the exact law. Lemmas on whatever program: from the head of its cut's word to the closed facts. Closed facts of the loaded program, each a theorem of its own. Slices of things that are numbers alone, as they come in. Lists of bodies, as they come in. -/
import Derived.Test.YtoidlgploodadaaDoorB1
import Derived.Test.YtoidlgploodadaaDoorB4
import Derived.Test.YtoidlgploodadaaDoorB2
import Derived.Deep.RegionHeld3
import Derived.Deep.DeepCutAuto
import Derived.Test.YtoidlgploodadaaDoorRows
import Derived.WalkKit
import Derived.JoinedOf
import Derived.ProofKit
import Derived.Deep.Slices
import Derived.ChangeSame
import Derived.ChangeArms
namespace Go.Proofs.YtoidlgploodadaaDoor
open Go.RowKit
set_option linter.unusedVariables false
set_option linter.unusedSimpArgs false
theorem grown_setG (w : World) (g q : Nat) (v : Value) : w.grownBy (w.setCell ⟨g, q, none⟩ v) (some g) := ⟨rfl, rfl, rfl, by simp, fun k hk hn => Below.heap_setCell _ _ _ _ (fun e => hn (by rw [e]))⟩
theorem grown_trans {w w' w'' : World} {r : Option Nat} (h : w.grownBy w' r) (k : w'.grownBy w'' r) : w.grownBy w'' r := ⟨k.os.trans h.os, k.tape.trans h.tape, k.output.trans h.output, Nat.le_trans h.size k.size, fun i hi hn => (k.block i (Nat.lt_of_lt_of_le hi h.size) hn).trans (h.block i hi hn)⟩
theorem grown_refl (w : World) (r : Option Nat) : w.grownBy w r := ⟨rfl, rfl, rfl, Nat.le_refl _, fun _ _ _ => rfl⟩
theorem OwnL.setq {w : World} {base t k n g c : Nat} {U : Nat → Int} (h : OwnL w base t k (.slice (Option.some ⟨g, 0, none⟩) n c) n U) (q : Nat) (hq : q < n * k) (x : Int) : OwnL (w.setCell ⟨g, q, none⟩ (.int .i64 x)) base t k (.slice (Option.some ⟨g, 0, none⟩) n c) n (fun r => if r = q then x else U r) := by
  have h1 := (World.ownsRow.stored h q (.int .i64 x)).1
  unfold OwnL
  rw [show numL (n * k) (fun r => if r = q then x else U r) = (numL (n * k) U).set q (.int .i64 x) from ?_]
  · exact h1
  · apply List.ext_getElem?
    intro r
    rw [List.getElem?_set, numL_len]
    by_cases hr : r < n * k
    · rw [numL_get hr]
      by_cases e : q = r
      · subst e; simp; omega
      · rw [if_neg e, numL_get hr]; simp [Ne.symm e]
    · rw [List.getElem?_eq_none (by rw [numL_len]; omega)]
      by_cases e : q = r
      · omega
      · rw [if_neg e, List.getElem?_eq_none (by rw [numL_len]; omega)]
theorem OwnL.loc {w : World} {base t k n c : Nat} {a : Option Addr} {U : Nat → Int} (h : OwnL w base t k (.slice a n c) n U) (h0 : 0 < n) : ∃ g, a = Option.some ⟨g, 0, none⟩ ∧ base ≤ g ∧ g < w.heap.size := by
  rcases h.2 with ⟨hv, hn⟩ | ⟨g, cap, cur, hv, hb, hg, _⟩
  · omega
  · simp only [Value.slice.injEq, true_and] at hv
    exact ⟨g, hv.1, hb, (Array.getElem?_eq_some_iff.1 hg).1⟩
theorem OwnL.cellq {w : World} {base t k n g c : Nat} {U : Nat → Int} (h : OwnL w base t k (.slice (Option.some ⟨g, 0, none⟩) n c) n U) {q : Nat} (hq : q < n * k) : w.cell? ⟨g, q, none⟩ = Option.some (.int .i64 (U q)) := by
  rw [World.ownsRow.cellAt h q hq, numL_get hq]
/-- marked up to p -/
abbrev mixU (p : Nat) (U : Nat → Int) : Nat → Int := fun q => if q < p then 1 + (q : Int) else U q
theorem OwnL.mark {w : World} {base t k n g c p : Nat} {U : Nat → Int} (h : OwnL w base t k (.slice (Option.some ⟨g, 0, none⟩) n c) n (mixU p U)) (hp : p < n * k) {x : Int} (hx : x = 1 + (p : Int)) : OwnL (w.setCell ⟨g, p, none⟩ (.int .i64 x)) base t k (.slice (Option.some ⟨g, 0, none⟩) n c) n (mixU (p + 1) U) :=
  (h.setq p hp x).congr fun q _ => by
    subst hx
    by_cases e : q = p
    · subst e; simp [mixU]
    · simp only [mixU, if_neg e]
      by_cases l : q < p
      · rw [if_pos l, if_pos (by omega)]
      · rw [if_neg l, if_neg (by omega)]
/-- a list whose block lies from lo on and below hi -/
structure Lv (w : World) (lo hi t k : Nat) (a : Option Addr) (n c : Nat) (U : Nat → Int) : Prop where
  own : OwnL w lo t k (.slice a n c) n U
  top : ∀ b, (Value.slice a n c).ownBlock = some b → b < hi
  le : hi ≤ w.heap.size
theorem Lv.on {w w' : World} {lo hi t k : Nat} {a : Option Addr} {n c : Nat} {U : Nat → Int} (h : Lv w lo hi t k a n c U) (hb : Below w.heap.size w w') : Lv w' lo hi t k a n c U := ⟨h.own.below hb, h.top, Nat.le_trans h.le hb.size⟩
theorem Lv.flat {w : World} {lo hi t k : Nat} {a : Option Addr} {n c : Nat} {U : Nat → Int} (h : Lv w lo hi t k a n c U) : Flat w a (n * k) U := h.own.flat
/-- another list is marked -/
theorem Lv.gr {w w' : World} {lo hi t k lo' hi' t' k' n' c' : Nat} {a' : Option Addr} {a : Option Addr} {n c : Nat} {U U' : Nat → Int} (h : Lv w lo hi t k a n c U) (h' : Lv w lo' hi' t' k' a' n' c' U') (hg : w.grownBy w' (Value.slice a' n' c').ownBlock) (hs : hi ≤ lo' ∨ hi' ≤ lo) : Lv w' lo hi t k a n c U := by
  refine ⟨?_, h.top, Nat.le_trans h.le hg.size⟩
  cases e : (Value.slice a n c).ownBlock with
  | none => exact h.own.kept hg (.inl e)
  | some b => exact h.own.kept hg (.inr (fun q => by
      have k1 := (h'.own.lt b (q ▸ e)).1
      have k1' := h'.top b (q ▸ e)
      have k2 := (h.own.lt b e).1
      have k3 := h.top b e
      omega))
/-- itself is marked -/
theorem Lv.me {w w' : World} {lo hi t k : Nat} {a : Option Addr} {n c : Nat} {U U' : Nat → Int} (h : Lv w lo hi t k a n c U) (hg : w.grownBy w' (Value.slice a n c).ownBlock) (ho : OwnL w' lo t k (.slice a n c) n U') : Lv w' lo hi t k a n c U' := ⟨ho, h.top, Nat.le_trans h.le hg.size⟩
/-- what lies below the first list -/
theorem Lv.below {w0 w w' : World} {lo hi t k B : Nat} {a : Option Addr} {n c : Nat} {U : Nat → Int} (h : Lv w lo hi t k a n c U) (hB : Below B w0 w) (hBw : B ≤ w.heap.size) (hg : w.grownBy w' (Value.slice a n c).ownBlock) (hl : B ≤ lo) : Below B w0 w' :=
  hB.grown hg hBw (fun b e => by have := (h.own.lt b e).1; omega)
theorem Lv.row {w w' : World} {b n t k : Nat} {U : Nat → Int} (h : Row w' b t (n * k) U) (hb : w.heap.size ≤ b) (hn : n ≤ 1048576) : Lv w' w.heap.size w'.heap.size t k (some ⟨b, 0, none⟩) n n U :=
  ⟨h.own hb (by unfold maxLen; omega), fun x e => by simp [Value.ownBlock] at e; subst e; exact h.lt, Nat.le_refl _⟩
/-- what a function hands out that makes a list -/
structure OutL (w w' : World) (t k : Nat) (a : Option Addr) (n c : Nat) (R : Nat → Int) : Prop where
  bel : Below w.heap.size w w'
  own : OwnL w' w.heap.size t k (.slice a n c) n R
theorem OutL.lv {w w' : World} {t k : Nat} {a : Option Addr} {n c : Nat} {R : Nat → Int} (h : OutL w w' t k a n c R) : Lv w' w.heap.size w'.heap.size t k a n c R := ⟨h.own, fun b e => (h.own.lt b e).2, Nat.le_refl _⟩
/-- a list's numbers -/
def ofL (l : List Int) : Nat → Int := fun q => l.getD q 0
theorem ofL_app (l x : List Int) (q : Nat) (h : q < l.length) : ofL (l ++ x) q = ofL l q := by
  unfold ofL
  rw [List.getD_eq_getElem?_getD, List.getD_eq_getElem?_getD, List.getElem?_append_left h]
theorem ofL_app' (l x : List Int) (q : Nat) (h : l.length ≤ q) : ofL (l ++ x) q = ofL x (q - l.length) := by
  unfold ofL
  rw [List.getD_eq_getElem?_getD, List.getD_eq_getElem?_getD, List.getElem?_append_right h]
theorem cat_ofL (l x : List Int) : cat l.length (ofL l) (ofL x) = ofL (l ++ x) := by
  funext q
  unfold cat
  by_cases h : q < l.length
  · rw [if_pos h, ofL_app l x q h]
  · rw [if_neg h, ofL_app' l x q (by omega)]
/-- APPEND of one thing of k numbers: where the list lies then -/
theorem step_appk {P : Program} {w : World} {ops : Array Oper} {o : Oper} {a : Act} {K : Act → World → Prop} {Q : Exit → Act → World → Prop} {E : Prop} (hgd : o.guard = none) (s x : Operand) (t : TypeId)
    (ho : o.op = .call { callee := .builtin .append, args := #[s, x], argTypes := #[t, t] })
    (base e k bytes : Nat) (z : Value) (ht : P.underlying t = some (.slice e)) (hinfo : (P.info? e).map (fun i => (i.zero, i.size, i.bytes)) = some (some z, k, bytes)) (hzs : z.cells.size = k) (hk : 0 < k)
    (v : Value) (n : Nat) (U : Nat → Int) (hs : a.eval s = v) (h : OwnL w base e k v n U) (B c : Nat) (X : Nat → Int) (hx : a.eval x = .slice (some ⟨B, 0, none⟩) 1 c) (hv : ∀ q, q < k → w.cell? ⟨B, q, none⟩ = some (.int .i64 (X q)))
    (h63 : n + 1 ≤ maxLen) (hbytes : (n + 1) * bytes ≤ 140737488355328) (hbase : base ≤ w.heap.size) (H : Nat) (hH : w.heap.size = H)
    (hK : ∀ g cap w', OwnL w' base e k (.slice (some ⟨g, 0, none⟩) (n + 1) cap) (n + 1) (cat (n * k) U X) → w.grownBy w' v.ownBlock → (v.ownBlock = some g ∨ g = H) → g < w'.heap.size → K (a.put o.dst (.slice (some ⟨g, 0, none⟩) (n + 1) cap)) w') :
    if Region.wanted o (yielded ops a.tmps) = true then Oper.wp P o a w K Q else E := by
  obtain ⟨i, hi, hzz⟩ := Option.map_eq_some_iff.1 hinfo
  simp only [Prod.mk.injEq] at hzz
  obtain ⟨hz, hsz, hby⟩ := hzz
  refine step_append_lies w hgd s x t ho base e i z k bytes ht hi hz hsz hby hzs hk v n (numL (n * k) U) hs h ⟨B, 0, none⟩ 1 c (numL (1 * k) X) hx (numL_len _ _) ?_ (fun u hu => by obtain ⟨q, _, rfl⟩ := List.mem_map.1 hu; rfl) (by omega) h63 hbytes hbase H hH ?_
  · intro j u hu
    have hj : j < 1 * k := by have := (List.getElem?_eq_some_iff.1 hu).1; rwa [numL_len] at this
    rw [numL_get hj] at hu
    rw [Addr.add_lit, Nat.zero_add, hv j (by omega)]
    exact hu
  · intro g cap w' h2 h3 h4 h5
    refine hK g cap w' ?_ h3 h4 h5
    unfold OwnL
    rw [Nat.add_mul, ← numL_cat]
    exact h2
end Go.Proofs.YtoidlgploodadaaDoor
namespace Go.Proofs.YtoidlgploodadaaDoor
open Go.RowKit
set_option linter.unusedVariables false
set_option linter.unusedSimpArgs false
theorem OwnL.fresh0 (w : World) (base t k : Nat) (U : Nat → Int) (s : Nat) (e : w.heap.size = s) (h : base ≤ w.heap.size) : OwnL (w.alloc (.cells #[] t)) base t k (.slice (Option.some ⟨s, 0, none⟩) 0 0) 0 U := by
  subst e
  exact ⟨by simp [numL], .inr ⟨w.heap.size, 0, #[], rfl, h, Go.Deep.blk_alloc_new _ _, Nat.le_refl _, Nat.zero_le _, by simp, by simp [numL]⟩⟩
theorem OwnL.drewO {w : World} {base t k n : Nat} {v : Value} {U : Nat → Int} (h : OwnL w base t k v n U) : OwnL w.drew base t k v n U := World.ownsRow.drew h
theorem cat_0 (k : Nat) (X Y : Nat → Int) : ∀ q, cat (0 * k) X Y q = Y q := by intro q; simp [cat]
section
variable {P : Program} {ops : Array Oper} {o : Oper} {a : Act} {w : World} {Q : Exit → Act → World → Prop}
theorem wpList_app0 {rest : List Oper} (hgd : o.guard = none) (s x : Operand) (t : TypeId) (ho : o.op = .call { callee := .builtin .append, args := #[s, x], argTypes := #[t, t] })
    (base e k bytes : Nat) (z : Value) (ht : P.underlying t = some (.slice e)) (hinfo : (P.info? e).map (fun i => (i.zero, i.size, i.bytes)) = some (some z, k, bytes)) (hzs : z.cells.size = k) (hk : 0 < k)
    (v : Value) (U : Nat → Int) (hs : a.eval s = v) (h : OwnL w base e k v 0 U) (ad : Option Addr) (m c : Nat) (X : Nat → Int) (hxx : a.eval x = .slice ad m c) (hx : Flat w ad (m * k) X)
    (h63 : m ≤ maxLen) (hbytes : m * bytes ≤ 140737488355328) (hbase : base ≤ w.heap.size)
    (hK : ∀ a' c' w', OwnL w' base e k (.slice a' m c') m X → w.grownBy w' v.ownBlock → wpList P ops Q rest (a.put o.dst (.slice a' m c')) w') : wpList P ops Q (o :: rest) a w :=
  wpList_app hgd s x t ho base e k bytes z ht hinfo hzs hk v 0 U hs h ad m c X hxx hx (by rw [Nat.zero_add]; exact h63) (by rw [Nat.zero_add]; exact hbytes) hbase fun a' c' w' h1 h2 => by
    rw [Nat.zero_add] at h1 ⊢
    exact hK a' c' w' (h1.congr fun q _ => cat_0 k _ _ q) h2
theorem step_app0 {K : Act → World → Prop} {E : Prop} (hgd : o.guard = none) (s x : Operand) (t : TypeId) (ho : o.op = .call { callee := .builtin .append, args := #[s, x], argTypes := #[t, t] })
    (base e k bytes : Nat) (z : Value) (ht : P.underlying t = some (.slice e)) (hinfo : (P.info? e).map (fun i => (i.zero, i.size, i.bytes)) = some (some z, k, bytes)) (hzs : z.cells.size = k) (hk : 0 < k)
    (v : Value) (U : Nat → Int) (hs : a.eval s = v) (h : OwnL w base e k v 0 U) (ad : Option Addr) (m c : Nat) (X : Nat → Int) (hxx : a.eval x = .slice ad m c) (hx : Flat w ad (m * k) X)
    (h63 : m ≤ maxLen) (hbytes : m * bytes ≤ 140737488355328) (hbase : base ≤ w.heap.size)
    (hK : ∀ a' c' w', OwnL w' base e k (.slice a' m c') m X → w.grownBy w' v.ownBlock → K (a.put o.dst (.slice a' m c')) w') :
    if Region.wanted o (yielded ops a.tmps) = true then Oper.wp P o a w K Q else E :=
  step_app hgd s x t ho base e k bytes z ht hinfo hzs hk v 0 U hs h ad m c X hxx hx (by rw [Nat.zero_add]; exact h63) (by rw [Nat.zero_add]; exact hbytes) hbase fun a' c' w' h1 h2 => by
    rw [Nat.zero_add] at h1 ⊢
    exact hK a' c' w' (h1.congr fun q _ => cat_0 k _ _ q) h2
end
/-- a list of which one thing was replaced -/
def putRow (U : Nat → Int) (p : Nat) (V : Nat → Int) : Nat → Int := fun q => if p * 12 ≤ q ∧ q < p * 12 + 12 then V (q - p * 12) else U q
theorem put12 {w4 : World} {base n g c p : Nat} {U : Nat → Int} (h : OwnL w4 base 34 12 (.slice (some ⟨g, 0, none⟩) n c) n U) (hp : p < n) (V : Nat → Int) :
    OwnL ((((((((((((w4.setCell ⟨g, p * 12, none⟩ (.int .i64 (V 0))).setCell ⟨g, p * 12 + 1, none⟩ (.int .i64 (V 1))).setCell ⟨g, p * 12 + 2, none⟩ (.int .i64 (V 2))).setCell ⟨g, p * 12 + 3, none⟩ (.int .i64 (V 3))).setCell ⟨g, p * 12 + 4, none⟩ (.int .i64 (V 4))).setCell ⟨g, p * 12 + 5, none⟩ (.int .i64 (V 5))).setCell ⟨g, p * 12 + 6, none⟩ (.int .i64 (V 6))).setCell ⟨g, p * 12 + 7, none⟩ (.int .i64 (V 7))).setCell ⟨g, p * 12 + 8, none⟩ (.int .i64 (V 8))).setCell ⟨g, p * 12 + 9, none⟩ (.int .i64 (V 9))).setCell ⟨g, p * 12 + 10, none⟩ (.int .i64 (V 10))).setCell ⟨g, p * 12 + 11, none⟩ (.int .i64 (V 11))) base 34 12 (.slice (some ⟨g, 0, none⟩) n c) n (putRow U p V) := by
  have q1 := h.setq (p * 12) (by omega) (V 0)
  have q2 := q1.setq (p * 12 + 1) (by omega) (V 1)
  have q3 := q2.setq (p * 12 + 2) (by omega) (V 2)
  have q4 := q3.setq (p * 12 + 3) (by omega) (V 3)
  have q5 := q4.setq (p * 12 + 4) (by omega) (V 4)
  have q6 := q5.setq (p * 12 + 5) (by omega) (V 5)
  have q7 := q6.setq (p * 12 + 6) (by omega) (V 6)
  have q8 := q7.setq (p * 12 + 7) (by omega) (V 7)
  have q9 := q8.setq (p * 12 + 8) (by omega) (V 8)
  have q10 := q9.setq (p * 12 + 9) (by omega) (V 9)
  have q11 := q10.setq (p * 12 + 10) (by omega) (V 10)
  have q12 := q11.setq (p * 12 + 11) (by omega) (V 11)
  refine q12.congr fun q _ => ?_
  unfold putRow
  by_cases e : p * 12 ≤ q ∧ q < p * 12 + 12
  · rw [if_pos e]
    obtain ⟨d, rfl⟩ : ∃ d, q = p * 12 + d := ⟨q - p * 12, by omega⟩
    rw [Nat.add_sub_cancel_left]
    rcases (show d = 0 ∨ d = 1 ∨ d = 2 ∨ d = 3 ∨ d = 4 ∨ d = 5 ∨ d = 6 ∨ d = 7 ∨ d = 8 ∨ d = 9 ∨ d = 10 ∨ d = 11 by omega) with rfl | rfl | rfl | rfl | rfl | rfl | rfl | rfl | rfl | rfl | rfl | rfl <;> simp
  · rw [if_neg e]
    repeat rw [if_neg (by omega)]
theorem putFr {w4 : World} {g p : Nat} (V : Nat → Int) : Fr (fun b => b = g) w4 ((((((((((((w4.setCell ⟨g, p * 12, none⟩ (.int .i64 (V 0))).setCell ⟨g, p * 12 + 1, none⟩ (.int .i64 (V 1))).setCell ⟨g, p * 12 + 2, none⟩ (.int .i64 (V 2))).setCell ⟨g, p * 12 + 3, none⟩ (.int .i64 (V 3))).setCell ⟨g, p * 12 + 4, none⟩ (.int .i64 (V 4))).setCell ⟨g, p * 12 + 5, none⟩ (.int .i64 (V 5))).setCell ⟨g, p * 12 + 6, none⟩ (.int .i64 (V 6))).setCell ⟨g, p * 12 + 7, none⟩ (.int .i64 (V 7))).setCell ⟨g, p * 12 + 8, none⟩ (.int .i64 (V 8))).setCell ⟨g, p * 12 + 9, none⟩ (.int .i64 (V 9))).setCell ⟨g, p * 12 + 10, none⟩ (.int .i64 (V 10))).setCell ⟨g, p * 12 + 11, none⟩ (.int .i64 (V 11))) :=
  (((((((((((((Fr.refl (fun b => b = g) w4).trans (Fr.setCell (X := fun b => b = g) rfl _)).trans (Fr.setCell (X := fun b => b = g) rfl _)).trans (Fr.setCell (X := fun b => b = g) rfl _)).trans (Fr.setCell (X := fun b => b = g) rfl _)).trans (Fr.setCell (X := fun b => b = g) rfl _)).trans (Fr.setCell (X := fun b => b = g) rfl _)).trans (Fr.setCell (X := fun b => b = g) rfl _)).trans (Fr.setCell (X := fun b => b = g) rfl _)).trans (Fr.setCell (X := fun b => b = g) rfl _)).trans (Fr.setCell (X := fun b => b = g) rfl _)).trans (Fr.setCell (X := fun b => b = g) rfl _)).trans (Fr.setCell (X := fun b => b = g) rfl _))
theorem OutL.on {w w1 w2 : World} {t k n c : Nat} {a : Option Addr} {R : Nat → Int} (h : OutL w w1 t k a n c R) (hb : Below w1.heap.size w1 w2) : OutL w w2 t k a n c R := ⟨h.bel.trans (hb.mono h.bel.size), h.own.below hb⟩
set_option maxHeartbeats 2000000 in
theorem l6Sleeps_k (V : Nat → Int) (w : World) (b : Bool) (e : decide (8 ≤ V 11) = b) :
    Calls Tryd.prog 9 #[bodyW V] w fun e w' => e = .returned (.bool b) ∧ Below w.heap.size w w' := by
  have hset := cset_map
  subst e
  go_enter Tryd.func9, Tryd.ntmps9
  go_wp2_with fail
  go_ret
  exact ⟨ret_bool (by simp), bel_a⟩
end Go.Proofs.YtoidlgploodadaaDoor
namespace Go.Proofs.YtoidlgploodadaaDoor
open Go.RowKit
set_option linter.unusedVariables false
set_option linter.unusedSimpArgs false
/-- the first k rows changed -/
def mapR (f : Nat → (Nat → Int) → Nat → Int) (U : Nat → Int) (k : Nat) : Nat → Int := fun q => if q < k * 12 then f (q / 12) (fun j => U (q / 12 * 12 + j)) (q % 12) else U q
theorem mapR_0 (f : Nat → (Nat → Int) → Nat → Int) (U : Nat → Int) : mapR f U 0 = U := by funext q; unfold mapR; rw [if_neg (by omega)]
theorem mapR_row (f : Nat → (Nat → Int) → Nat → Int) (U : Nat → Int) (k j : Nat) : mapR f U k (k * 12 + j) = U (k * 12 + j) := by unfold mapR; rw [if_neg (by omega)]
theorem mapR_in {f : Nat → (Nat → Int) → Nat → Int} {U : Nat → Int} {k n j : Nat} (h : k < n) (hj : j < 12) : mapR f U n (k * 12 + j) = f k (fun j => U (k * 12 + j)) j := by
  unfold mapR
  rw [if_pos (by omega), show (k * 12 + j) / 12 = k by omega, show (k * 12 + j) % 12 = j by omega]
theorem mapR_set (f : Nat → (Nat → Int) → Nat → Int) (U : Nat → Int) (k : Nat) : putRow (mapR f U k) k (f k (fun j => U (k * 12 + j))) = mapR f U (k + 1) := by
  funext q
  unfold putRow
  by_cases h : k * 12 ≤ q ∧ q < k * 12 + 12
  · rw [if_pos h]
    obtain ⟨d, rfl⟩ : ∃ d, q = k * 12 + d := ⟨q - k * 12, by omega⟩
    rw [mapR_in (by omega) (by omega), Nat.add_sub_cancel_left]
  · rw [if_neg h]
    unfold mapR
    by_cases l : q < k * 12
    · rw [if_pos l, if_pos (by omega)]
    · rw [if_neg l, if_neg (by omega)]
theorem mapR_same {f : Nat → (Nat → Int) → Nat → Int} {U : Nat → Int} {k : Nat} (h : ∀ j, j < 12 → f k (fun j => U (k * 12 + j)) j = U (k * 12 + j)) : mapR f U (k + 1) = mapR f U k := by
  rw [← mapR_set]
  funext q
  unfold putRow
  by_cases e : k * 12 ≤ q ∧ q < k * 12 + 12
  · rw [if_pos e]
    obtain ⟨d, rfl⟩ : ∃ d, q = k * 12 + d := ⟨q - k * 12, by omega⟩
    rw [Nat.add_sub_cancel_left, h d (by omega), mapR_row]
  · rw [if_neg e]
theorem mapR_one {f : Nat → (Nat → Int) → Nat → Int} {U : Nat → Int} {k j : Nat} {x : Int} (hj : j < 12) (h : ∀ i, i < 12 → f k (fun j => U (k * 12 + j)) i = if i = j then x else U (k * 12 + i)) : (fun r => if r = k * 12 + j then x else mapR f U k r) = mapR f U (k + 1) := by
  rw [← mapR_set]
  funext q
  unfold putRow
  by_cases e : k * 12 ≤ q ∧ q < k * 12 + 12
  · rw [if_pos e]
    obtain ⟨d, rfl⟩ : ∃ d, q = k * 12 + d := ⟨q - k * 12, by omega⟩
    rw [Nat.add_sub_cancel_left, h d (by omega), mapR_row]
    by_cases e2 : d = j
    · rw [if_pos e2, if_pos (by omega)]
    · rw [if_neg e2, if_neg (by omega)]
  · rw [if_neg e, if_neg (by omega)]
theorem bodyB_cong {V W : Nat → Int} (h : ∀ j, j < 12 → V j = W j) : bodyB V = bodyB W := by
  unfold bodyB restB
  simp only [h 0 (by omega), h 1 (by omega), h 2 (by omega), h 3 (by omega), h 4 (by omega), h 5 (by omega), h 6 (by omega), h 7 (by omega), h 8 (by omega), h 9 (by omega), h 10 (by omega), h 11 (by omega)]
/-- bodies that are ok, said row by row -/
structure Bods (n : Nat) (U : Nat → Int) : Prop where
  le : n ≤ 12
  ok : ∀ k, k < n → bodyB (fun j => U (k * 12 + j)) = true
  asc : ∀ k, k + 1 < n → U (k * 12) < U ((k + 1) * 12)
theorem Bods.of {n : Nat} {U : Nat → Int} (h : bodsB n U = true) : Bods n U := by
  unfold bodsB at h
  rw [Bool.and_eq_true] at h
  have key : ∀ m, allBB U m = true → ∀ k, k < m → stepBB U k = true := by
    intro m
    induction m with
    | zero => intro _ k l; omega
    | succ m ih =>
      intro hm k l
      unfold allBB at hm
      rw [Bool.and_eq_true] at hm
      by_cases e : k = m
      · subst e; exact hm.2
      · exact ih hm.1 k (by omega)
  refine ⟨of_decide_eq_true h.1, fun k hk => ?_, fun k hk => ?_⟩
  · have := key n h.2 k hk
    unfold stepBB at this
    rw [Bool.and_eq_true] at this
    exact this.1
  · have := key n h.2 (k + 1) hk
    unfold stepBB at this
    simp at this
    exact this.2
theorem Bods.to {n : Nat} {U : Nat → Int} (h : Bods n U) : bodsB n U = true := by
  have key : ∀ m, m ≤ n → allBB U m = true := by
    intro m
    induction m with
    | zero => intro _; rfl
    | succ m ih =>
      intro hm
      unfold allBB
      rw [ih (by omega), Bool.true_and]
      unfold stepBB
      rw [h.ok m (by omega), Bool.true_and]
      by_cases e : m = 0
      · simp [e]
      · obtain ⟨k, rfl⟩ : ∃ k, m = k + 1 := ⟨m - 1, by omega⟩
        have := h.asc k (by omega)
        simp
        exact this
  unfold bodsB
  rw [key n (Nat.le_refl _), decide_eq_true h.le]
  rfl
/-- rows changed, each still a body, its number kept -/
theorem Bods.map {n : Nat} {U : Nat → Int} {f : Nat → (Nat → Int) → Nat → Int} (h : Bods n U) (hf : ∀ k, k < n → bodyB (f k (fun j => U (k * 12 + j))) = true) (h0 : ∀ k, k < n → f k (fun j => U (k * 12 + j)) 0 = U (k * 12)) : Bods n (mapR f U n) := by
  refine ⟨h.le, fun k hk => ?_, fun k hk => ?_⟩
  · rw [bodyB_cong (W := f k (fun j => U (k * 12 + j))) (fun j hj => mapR_in hk hj)]; exact hf k hk
  · have e1 := mapR_in (f := f) (U := U) (k := k) (n := n) (j := 0) (by omega) (by omega)
    have e2 := mapR_in (f := f) (U := U) (k := k + 1) (n := n) (j := 0) hk (by omega)
    rw [Nat.add_zero] at e1 e2
    rw [e1, e2, h0 k (by omega), h0 (k + 1) hk]
    exact h.asc k hk
end Go.Proofs.YtoidlgploodadaaDoor
namespace Go.Proofs.YtoidlgploodadaaDoor
open Go.RowKit
set_option linter.unusedVariables false
set_option linter.unusedSimpArgs false
/-- a body that can move and is awake -/
def lsB (U : Nat → Int) (k : Nat) : Bool := decide (0 < U (k * 12 + 8)) && !decide (8 ≤ U (k * 12 + 11))
def noLs (U : Nat → Int) : Nat → Bool
  | 0 => true
  | k + 1 => noLs U k && !lsB U k
theorem noLs_no {U : Nat → Int} {k : Nat} (h : lsB U k = true) : ∀ n, k < n → noLs U n = false
  | 0, l => absurd l (Nat.not_lt_zero _)
  | n + 1, l => by
    rw [noLs]
    by_cases e : k = n
    · subst e; rw [h]; simp
    · rw [noLs_no h n (by omega)]; rfl
def stB (n : Nat) (U : Nat → Int) : Bool := noLs U n && bodsB n U
theorem ls_ok {U : Nat → Int} {n k : Nat} (h : Bods n U) (hk : k < n) : (0 ≤ U (k * 12 + 8)) ∧ (0 ≤ U (k * 12 + 11) ∧ U (k * 12 + 11) ≤ 8) := by
  have q := h.ok k hk
  unfold bodyB restB at q
  simp only [Bool.and_eq_true, decide_eq_true_eq] at q
  omega
set_option maxRecDepth 20000 in
set_option maxHeartbeats 8000000 in
theorem bodiesOf_t (a : Option Addr) (n c : Nat) (U : Nat → Int) (w : World) (h : Flat w a (n * 12) U) (hn : n ≤ 1048576) (hB : bodsB n U = true) :
    Calls Tryd.prog 12 #[.slice a n c] w fun e w' => ∃ cb S, e = .returned (.tuple #[.pointer (some ⟨cb, 0, none⟩), Value.nilIface]) ∧ w.heap.size ≤ cb ∧ Cs w' cb n (colOf U) S ∧ Below w.heap.size w w' := by
  have hset := cset_map
  go_enter Tryd.func12, Tryd.ntmps12
  go_wp2_with (go_at_call 20; refine (columnsOf_any a n c U _ h hn).mono ?_; rintro e w1 ⟨hb1, (⟨_, cb, S, rfl, hcb, hCs⟩ | ⟨hF, rfl⟩)⟩)
  all_goals (try (exfalso; rw [hB] at hF; cases hF))
  exact bodyPost_ret (v := .tuple #[.pointer (some ⟨cb, 0, none⟩), Value.nilIface]) (by simp [results, Tryd.results12, go_sem]) rfl ⟨cb, S, rfl, hcb, hCs, hb1⟩
set_option maxRecDepth 20000 in
set_option maxHeartbeats 8000000 in
theorem bodiesOf_f (a : Option Addr) (n c : Nat) (U : Nat → Int) (w : World) (h : Flat w a (n * 12) U) (hn : n ≤ 1048576) (hB : bodsB n U = false) :
    Calls Tryd.prog 12 #[.slice a n c] w fun e w' => ∃ x : Addr, e = .returned (.tuple #[.pointer none, .iface 57 (.pointer (some x))]) ∧ Below w.heap.size w w' := by
  have hset := cset_map
  go_enter Tryd.func12, Tryd.ntmps12
  go_wp2_with (go_at_call 20; refine (columnsOf_any a n c U _ h hn).mono ?_; rintro e w1 ⟨hb1, (⟨hT, cb, S, rfl, hcb, hCs⟩ | ⟨_, rfl⟩)⟩)
  all_goals (try (exfalso; rw [hB] at hT; cases hT))
  exact bodyPost_ret (v := .tuple #[.pointer none, .iface 57 (.pointer (some ⟨w1.heap.size, 0, none⟩))]) (by simp [results, Tryd.results12, go_sem]) rfl ⟨_, rfl, hb1.alloc hb1.size _⟩
set_option maxRecDepth 20000 in
set_option maxHeartbeats 8000000 in
theorem kLive {cb n k : Nat} {V : Nat → Int} {G : Nat → Nat} {w : World} (h : HAt w cb n k V G) {b : Bool} (e : (!decide (V 8 = 0) && !decide (V 11 = 8)) = b) :
    Calls Tryd.prog 15 #[hdk cb k] w fun e w' => e = .returned (.bool b) ∧ Below w.heap.size w w' := by
  have hset := cset_map
  have hE : Below w.heap.size w (w.alloc (Obj.cells #[.int .i64 (k : Int), .pointer (some ⟨cb, 0, none⟩)] 50)) := (Below.refl _ _).alloc (Nat.le_refl _) _
  have h1 := h.below hE
  subst e
  cases h8 : decide (V 8 = 0) with
  | true =>
    go_enter Tryd.func15, Tryd.ntmps15
    go_wp2_with (go_at_call 23; refine (kFixed h1).mono ?_; rw [h8]; rintro e w1 ⟨rfl, hb1⟩)
    go_ret
    exact ⟨rfl, hE.trans (hb1.mono hE.size)⟩
  | false =>
    go_enter Tryd.func15, Tryd.ntmps15
    go_wp2_with (first
      | (have _ := hb1; go_at_call 24; refine (kSleeps (h1.below hb1)).mono ?_; rintro e w2 ⟨rfl, hb2⟩)
      | (go_at_call 23; refine (kFixed h1).mono ?_; rw [h8]; rintro e w1 ⟨rfl, hb1⟩; have k0 := hb1.cell (p := ⟨w.heap.size, 0, none⟩) (by simp); have k1 := hb1.cell (p := ⟨w.heap.size, 1, none⟩) (by simp)))
    go_ret
    exact ⟨by simp, (hE.trans (hb1.mono hE.size)).trans (hb2.mono (Nat.le_trans hE.size hb1.size))⟩
set_option maxRecDepth 20000 in
set_option maxHeartbeats 8000000 in
theorem still_q (a : Option Addr) (n c : Nat) (U : Nat → Int) (v : Bool) (w : World) (h : Flat w a (n * 12) U) (hn : n ≤ 1048576) (hg : w.cell? ⟨0, 0, none⟩ = some (.iface 94 (.agg #[.pointer (some ⟨1, 43, none⟩)]))) (hv : stB n U = v) :
    Calls Tryd.prog 7 #[.slice a n c] w fun e w' => e = .returned (.bool v) ∧ Below w.heap.size w w' := by
  have hset := cset_map
  have hE : Below w.heap.size w (w.alloc (Obj.cells #[.bool false] 4)) := (Below.refl _ _).alloc (Nat.le_refl _) _
  have hlt : 0 < w.heap.size := cell_lt (a := ⟨0, 0, none⟩) hg
  have h1 := h.below hE
  have hg1 := (hE.cell (p := ⟨0, 0, none⟩) hlt).trans hg
  have h0z : 0 < (w.alloc (Obj.cells #[.bool false] 4)).heap.size := by simp
  have r2 : (w.alloc (Obj.cells #[.bool false] 4)).cell? ⟨w.heap.size, 0, none⟩ = some (.bool false) := by go_simp
  have f2 : (w.alloc (Obj.cells #[.bool false] 4)).frozen? ⟨w.heap.size, 0, none⟩ = false := by go_simp
  cases hB : bodsB n U with
  | false =>
    obtain rfl : v = false := by rw [← hv]; unfold stB; rw [hB]; simp
    clear hv
    refine calls_of_wp_marks Tryd.func7 rfl ?_
    simp only [Tryd.ntmps7, List.size_toArray, List.length_cons, List.length_nil, Nat.reduceAdd, Nat.reduceSub, Array.replicate_succ, Array.replicate_zero, List.push_toArray, List.append_toArray, List.nil_append, List.cons_append]
    go_wp2_with (first
      | (have _ := hb1; go_at_call 13; refine (refused_yes x _ ((hb1.cell (p := ⟨0, 0, none⟩) h0z).trans hg1)).mono ?_; rintro e w2 ⟨rfl, hb2⟩; have hb12 := hb1.trans (hb2.mono hb1.size); have q2 := (hb12.cell (p := ⟨w.heap.size, 0, none⟩) (by simp)).trans r2; have p2 := (hb12.frozen (p := ⟨w.heap.size, 0, none⟩) (by simp)).trans f2)
      | (go_at_call 12; refine (bodiesOf_f a n c U _ h1 hn hB).mono ?_; rintro e w1 ⟨x, rfl, hb1⟩))
    refine marks_ret0 (v := .bool false) rfl (by simp [results, Tryd.results7, go_sem, *]) ?_
    exact ⟨rfl, ((hE.trans (hb1.mono hE.size)).trans (hb2.mono (Nat.le_trans hE.size hb1.size))).setCell (Nat.le_refl _) _⟩
  | true =>
    have hBd := Bods.of hB
    have hv' : noLs U n = v := by rw [← hv]; unfold stB; rw [hB, Bool.and_true]
    clear hv
    refine calls_of_wp_marks Tryd.func7 rfl ?_
    simp only [Tryd.ntmps7, List.size_toArray, List.length_cons, List.length_nil, Nat.reduceAdd, Nat.reduceSub, Array.replicate_succ, Array.replicate_zero, List.push_toArray, List.append_toArray, List.nil_append, List.cons_append]
    go_wp2_with (first
      | (have _ := hb1; go_at_call 13; refine (refused_nil _).mono ?_; rintro e w2 ⟨rfl, hb2⟩)
      | (go_at_call 12; refine (bodiesOf_t a n c U _ h1 hn hB).mono ?_; rintro e w1 ⟨cb, S, rfl, hcb, hCs, hb1⟩))
    have hb12 := hb1.trans (hb2.mono hb1.size)
    have q2 := (hb12.cell (p := ⟨w.heap.size, 0, none⟩) (by simp)).trans r2
    have p2 := (hb12.frozen (p := ⟨w.heap.size, 0, none⟩) (by simp)).trans f2
    have hB2 : Below w.heap.size w w2 := hE.trans (hb12.mono hE.size)
    have hC2 := hCs.below hb2
    have hcl := hC2.lt
    have hcb' : w.heap.size < cb := by simp only [World.size_alloc] at hcb; omega
    clear hb1 hb2 hb12 hCs hE h1 hg1 r2 f2 hcb
    obtain ⟨ad, cc, hS0⟩ := (hC2.own 0 (by omega)).is
    have hd0 := hC2.hd 0 (by omega)
    rw [hS0] at hd0
    refine wp_range_out (gf := 14) (bound := #[.pointer (some ⟨cb, 0, none⟩)]) rfl each_enters (each_it cb n _ _ w2 hcl hd0 hn) (fun _ => rfl) (fun k W => Below w2.heap.size w2 W ∧ noLs U k = true)
      (fun c W => c = .ret ∧ Below w.heap.size w W ∧ W.cell? ⟨w.heap.size, 0, none⟩ = some (.bool false) ∧ noLs U n = false) ?_ ?_ ⟨Below.refl _ _, rfl⟩ ?round ?done ?stop
    · rintro k A B ⟨h1, h2⟩ hs
      exact ⟨h1.trans hs.below, h2⟩
    · rintro c A B ⟨h1, h2, h3, h4⟩ hs
      exact ⟨h1, h2.trans (hs.below.mono hB2.size), hs.cell h3, h4⟩
    case round =>
      rintro l k W hl ⟨hbW, hall⟩ hk
      simp only [List.zip_toArray, List.zip_cons_cons, List.zip_nil_left, List.foldl_toArray, List.foldl_cons, List.foldl_nil, List.setIfInBounds_toArray, List.set_cons_succ, List.set_cons_zero]
      refine wpIn_region_plain (by rintro ⟨_, _, h⟩; exact h) (by kernel_rfl) ?_
      go_wp2
      refine ⟨(KeepsOthers.alloc _ _).from _, fun W2 hS hr => ?_⟩
      have hbX : Below w2.heap.size w2 (W.alloc (Obj.cells #[.int .i64 (k : Int), .pointer (some ⟨cb, 0, none⟩)] 50)) := hbW.alloc hbW.size _
      have hb2 := hbX.trans hS.below
      have hzW := hbW.size
      have v0 : W2.cell? ⟨W.heap.size, 0, none⟩ = some (.int .i64 (k : Int)) := hS.cell (by go_simp)
      have v1 : W2.cell? ⟨W.heap.size, 1, none⟩ = some (.pointer (some ⟨cb, 0, none⟩)) := hS.cell (by go_simp)
      have hC3 := hC2.below hb2
      clear hS hbX hr
      have hh := hC3.hat hk (by omega)
      have hok := ls_ok hBd hk
      have hlv : (!decide (colOf U 8 k = 0) && !decide (colOf U 11 k = 8)) = lsB U k := by
        unfold lsB
        show (!decide (U (k * 12 + 8) = 0) && !decide (U (k * 12 + 11) = 8)) = _
        rw [Bool.eq_iff_iff]
        simp only [Bool.and_eq_true, Bool.not_eq_true', decide_eq_true_eq, decide_eq_false_iff_not]
        omega
      obtain ⟨LB, hLB⟩ : ∃ b, lsB U k = b := ⟨_, rfl⟩
      rw [hLB] at hlv
      have HLB : Shut (lsB U k = LB) := hLB
      have HLV : Shut ((!decide (colOf U 8 k = 0) && !decide (colOf U 11 k = 8)) = LB) := hlv
      have HALL : Shut (noLs U k = true) := hall
      clear hLB hlv hall hok
      refine wpIn_block ?_
      refine wpIn_seq_k fun K hK => ?_
      refine wpIn_region_plain (by rintro ⟨_, _, h⟩; exact h) (by kernel_rfl) ?_
      go_wp2_with (go_at_call 15; refine (kLive hh HLV.out).mono ?_; rintro e w5 ⟨rfl, hb5⟩)
      have hb25 := hb2.trans (hb5.mono hb2.size)
      cases LB with
      | true =>
        refine wpIn_cond_true rfl ?_
        refine wpIn_seq_k fun K2 hK2 => ?_
        refine wpIn_region_plain (by rintro ⟨_, _, h⟩; exact h) (by kernel_rfl) ?_
        have hBB : Below w.heap.size w w5 := hB2.trans (hb25.mono hB2.size)
        have hwl : w.heap.size < w2.heap.size := by omega
        have x2 : w5.cell? ⟨w.heap.size, 0, none⟩ = some (.bool false) := (hb25.cell (p := ⟨w.heap.size, 0, none⟩) hwl).trans q2
        have y2 : w5.frozen? ⟨w.heap.size, 0, none⟩ = false := (hb25.frozen (p := ⟨w.heap.size, 0, none⟩) hwl).trans p2
        go_wp2
        refine wpIn_ret ?_
        exact ⟨(KeepsFrom.of_below hb5).trans ((KeepsOthers.setCell _ _ _).from _), rfl, hBB.setCell (Nat.le_refl _) _, by go_simp, noLs_no HLB.out n hk⟩
      | false =>
        refine wpIn_cond_false rfl ?_
        refine wpIn_skip ?_
        exact ⟨KeepsFrom.of_below hb5, hb25, by rw [noLs, HALL.out, HLB.out]; rfl⟩
    case done =>
      rintro D W hD ⟨hbW, hall⟩ hK
      have hwl : w.heap.size < w2.heap.size := by omega
      have x2 := (hbW.cell (p := ⟨w.heap.size, 0, none⟩) hwl).trans q2
      have y2 := (hbW.frozen (p := ⟨w.heap.size, 0, none⟩) hwl).trans p2
      have hBW : Below w.heap.size w W := hB2.trans (hbW.mono hB2.size)
      obtain rfl : v = true := by rw [← hv']; exact hall
      clear hall hv'
      go_wp2
      have hF : Fr (fun b => b = w.heap.size) W (W.setCell ⟨w.heap.size, 0, none⟩ (.bool true)) := Fr.setCell (X := fun b => b = w.heap.size) rfl _
      refine marks_ret (B := w2.heap.size) hD rfl (hF.kind _ _ hK rfl) fun W' hS => ⟨.bool true, ?_, rfl, ?_⟩
      · have z2 : W'.cell? ⟨w.heap.size, 0, none⟩ = some (.bool true) := hS.cell (by go_simp)
        simp [results, Tryd.results7, go_sem, *]
      · exact (hBW.setCell (Nat.le_refl _) _).trans (hS.below.mono (by omega))
    case stop =>
      rintro D c W hD ⟨rfl, hbW, x2, hno⟩ hK
      obtain rfl : v = false := by rw [← hv']; exact hno
      clear hno hv'
      go_wp2
      refine marks_ret (B := w2.heap.size) hD rfl hK fun W' hS => ⟨.bool false, ?_, rfl, hbW.trans (hS.below.mono (by omega))⟩
      have z2 := hS.cell x2
      simp [results, Tryd.results7, go_sem, *]
set_option maxRecDepth 20000 in
set_option maxHeartbeats 8000000 in
theorem sStill_q (a : Option Addr) (n c : Nat) (U : Nat → Int) (v : Bool) (w : World) (h : Flat w a (n * 12) U) (hn : n ≤ 1048576) (hv : stB n U = v) :
    Calls Tryd.prog 5 #[.slice a n c] w fun e w' => e = .returned (.bool v) ∧ Below w.heap.size w w' := by
  have hset := cset_map
  have HV : Shut (stB n U = v) := hv
  clear hv
  go_enter Tryd.func5, Tryd.ntmps5
  go_upto_region 2 with fail
  go_loopw [3] (fun s wr => ∃ k : Nat, k ≤ n ∧ s = .int .i64 (k : Int) ∧ noLs U k = true ∧ Below w.heap.size w wr) (fun s _ => n - (intOf s).toNat)
  case atStart => exact ⟨0, Nat.zero_le _, rfl, rfl, Below.refl _ _⟩
  case round =>
    obtain ⟨k, hk, rfl, hall0, hw⟩ := hrel
    have HALL : Shut (noLs U k = true) := hall0
    clear hall0
    by_cases hlt : k < n
    · have hkn : (k : Int) < (n : Int) := by omega
      obtain ⟨b1, o1, e1, _, hc1⟩ := (h.below hw) (by omega)
      have t0 : wr.cell? ⟨b1, o1 + k * 12, none⟩ = some (.int .i64 (U (k * 12))) := by have q := hc1 (k * 12 + 0) (by omega); simpa [Nat.add_assoc] using q
      have t1 : wr.cell? ⟨b1, o1 + k * 12 + 1, none⟩ = some (.int .i64 (U (k * 12 + 1))) := by have q := hc1 (k * 12 + 1) (by omega); simpa [Nat.add_assoc] using q
      have t2 : wr.cell? ⟨b1, o1 + k * 12 + 2, none⟩ = some (.int .i64 (U (k * 12 + 2))) := by have q := hc1 (k * 12 + 2) (by omega); simpa [Nat.add_assoc] using q
      have t3 : wr.cell? ⟨b1, o1 + k * 12 + 3, none⟩ = some (.int .i64 (U (k * 12 + 3))) := by have q := hc1 (k * 12 + 3) (by omega); simpa [Nat.add_assoc] using q
      have t4 : wr.cell? ⟨b1, o1 + k * 12 + 4, none⟩ = some (.int .i64 (U (k * 12 + 4))) := by have q := hc1 (k * 12 + 4) (by omega); simpa [Nat.add_assoc] using q
      have t5 : wr.cell? ⟨b1, o1 + k * 12 + 5, none⟩ = some (.int .i64 (U (k * 12 + 5))) := by have q := hc1 (k * 12 + 5) (by omega); simpa [Nat.add_assoc] using q
      have t6 : wr.cell? ⟨b1, o1 + k * 12 + 6, none⟩ = some (.int .i64 (U (k * 12 + 6))) := by have q := hc1 (k * 12 + 6) (by omega); simpa [Nat.add_assoc] using q
      have t7 : wr.cell? ⟨b1, o1 + k * 12 + 7, none⟩ = some (.int .i64 (U (k * 12 + 7))) := by have q := hc1 (k * 12 + 7) (by omega); simpa [Nat.add_assoc] using q
      have t8 : wr.cell? ⟨b1, o1 + k * 12 + 8, none⟩ = some (.int .i64 (U (k * 12 + 8))) := by have q := hc1 (k * 12 + 8) (by omega); simpa [Nat.add_assoc] using q
      have t9 : wr.cell? ⟨b1, o1 + k * 12 + 9, none⟩ = some (.int .i64 (U (k * 12 + 9))) := by have q := hc1 (k * 12 + 9) (by omega); simpa [Nat.add_assoc] using q
      have t10 : wr.cell? ⟨b1, o1 + k * 12 + 10, none⟩ = some (.int .i64 (U (k * 12 + 10))) := by have q := hc1 (k * 12 + 10) (by omega); simpa [Nat.add_assoc] using q
      have t11 : wr.cell? ⟨b1, o1 + k * 12 + 11, none⟩ = some (.int .i64 (U (k * 12 + 11))) := by have q := hc1 (k * 12 + 11) (by omega); simpa [Nat.add_assoc] using q
      clear hc1
      subst e1
      obtain ⟨SL, hSL0⟩ : ∃ b, decide (8 ≤ (fun j => U (k * 12 + j)) 11) = b := ⟨_, rfl⟩
      have hSL : Shut (decide (8 ≤ (fun j => U (k * 12 + j)) 11) = SL) := hSL0
      by_cases hm : 0 < U (k * 12 + 8)
      · have hlsk : Shut (lsB U k = !SL) := by show lsB U k = !SL; unfold lsB; rw [decide_eq_true hm, Bool.true_and, ← hSL0]
        clear hSL0
        cases SL with
        | true =>
          have hl2 : Shut (lsB U k = false) := by show _ = _; rw [hlsk.out]; rfl
          clear hlsk
          go_wp2_with (go_at_call 9; refine (l6Sleeps_k (fun j => U (k * 12 + j)) _ _ hSL.out).mono ?_; rintro e w2 ⟨rfl, hb2⟩)
          go_roundw
          case rel => exact ⟨k + 1, by omega, by go_num, by rw [noLs, HALL.out, hl2.out]; rfl, hw.trans (hb2.mono hw.size)⟩
          case measure => simp [intOf]; omega
        | false =>
          have hl2 : Shut (lsB U k = true) := by show _ = _; rw [hlsk.out]; rfl
          clear hlsk
          have hvf : v = false := by rw [← HV.out]; unfold stB; rw [noLs_no hl2.out n hlt]; rfl
          subst hvf
          go_wp2_with (go_at_call 9; refine (l6Sleeps_k (fun j => U (k * 12 + j)) _ _ hSL.out).mono ?_; rintro e w2 ⟨rfl, hb2⟩)
          go_ret
          exact ⟨rfl, hw.trans (hb2.mono hw.size)⟩
      · have hlsk : Shut (lsB U k = false) := by show lsB U k = false; unfold lsB; rw [decide_eq_false hm, Bool.false_and]
        have hm' : ¬ (0 : Int) < U (k * 12 + 8) := hm
        clear hSL0
        go_wp2_with fail
        go_roundw
        case rel => exact ⟨k + 1, by omega, by go_num, by rw [noLs, HALL.out, hlsk.out]; rfl, hw⟩
        case measure => simp [intOf]; omega
    · obtain rfl : k = n := by omega
      have hv2 : bodsB k U = v := by rw [← HV.out]; unfold stB; rw [HALL.out, Bool.true_and]
      go_wp2_with (go_at_call 10; refine (sBodiesOk_q a k c U v _ (h.below hw) hn hv2).mono ?_; rintro e w2 ⟨rfl, hb2⟩)
      go_ret
      exact ⟨rfl, hw.trans (hb2.mono hw.size)⟩
set_option maxRecDepth 20000 in
set_option maxHeartbeats 8000000 in
theorem fnExactStill_walk (a : Option Addr) (n c : Nat) (U : Nat → Int) (w : World) (h : Flat w a (n * 12) U) (hn : (n : Int) ≤ 9223372036854775807) (hg : w.cell? ⟨0, 0, none⟩ = some (.iface 94 (.agg #[.pointer (some ⟨1, 43, none⟩)]))) :
    Calls Tryd.prog 3 #[.slice a n c] w fun e w' => e = .returned (.bool true) ∧ Below w.heap.size w w' := by
  have hset := cset_map
  have hlt : 0 < w.heap.size := cell_lt (a := ⟨0, 0, none⟩) hg
  by_cases h20 : n ≤ 1048576
  · have h1 : ¬ (1048576 - (n : Int) < 0) := by omega
    go_enter Tryd.func3, Tryd.ntmps3
    go_upto_region 5 with (go_at_call 4; refine (szBodyS_any _ _ _ _ hn).mono ?_; rw [if_pos h20]; rintro e w0 ⟨rfl, rfl⟩)
    generalize hv : stB n U = v
    go_cut [4] (fun s4 wc => s4 = .bool v ∧ Below w0.heap.size w0 wc)
    case first =>
      go_wp2_with (first
        | (go_at_call 6; refine (toBodyS_any _ _ _ U _ h h20).mono ?_; rintro e w2 ⟨b2, rfl, hl2, hr2, hb2⟩)
        | (go_at_call 5; refine (sStill_q _ _ _ U v _ hr2.flat h20 hv).mono ?_; rintro e w3 ⟨rfl, hb3⟩))
      go_meet
      exact ⟨rfl, hb2.trans (hb3.mono hb2.size)⟩
    case rest =>
    obtain ⟨rfl, hB⟩ := hcut
    go_upto_region 6 with fail
    go_cut [5] (fun s5 wd => ∃ b, s5 = .slice (some ⟨b, 0, none⟩) n n ∧ Row wd b 34 (n * 12) U ∧ Below w0.heap.size w0 wd)
    case first =>
      go_wp2_with (go_at_call 6; refine (toBodyS_any _ _ _ U _ (h.below hB) h20).mono ?_; rintro e w2 ⟨b2, rfl, hl2, hr2, hb2⟩)
      go_meet
      exact ⟨b2, rfl, hr2, hB.trans (hb2.mono hB.size)⟩
    case rest =>
    clear hB
    obtain ⟨b, rfl, hr, hB⟩ := hcut
    have hgB := (hB.cell (p := ⟨0, 0, none⟩) hlt).trans hg
    go_wp2_with (first
      | (go_at_call 7; refine (still_q _ _ _ U v _ hr.flat h20 hgB hv).mono ?_; rintro e w3 ⟨rfl, hb3⟩; have hr3 := hr.below hb3; have hB3 := hB.trans (hb3.mono hB.size))
      | (go_at_call 6; refine (toBodyS_any _ _ _ U _ (h.below hB3) h20).mono ?_; rintro e w4 ⟨b4, rfl, hl4, hr4, hb4⟩; have hr34 := hr3.below hb4; have hB4 := hB3.trans (hb4.mono hB3.size))
      | (go_at_call 8; refine (eqBodyS_same _ _ _ _ _ U _ hr34.flat hr4.flat h20).mono ?_; rintro e w5 ⟨rfl, hb5⟩))
    all_goals (try cases v)
    all_goals (first | (go_ret; exact ⟨rfl, hB4.trans (hb5.mono hB4.size)⟩) | skip)
  · have h1 : (1048576 - (n : Int) < 0) := by omega
    go_enter Tryd.func3, Tryd.ntmps3
    go_wp2_with (go_at_call 4; refine (szBodyS_any _ _ _ _ hn).mono ?_; rw [if_neg h20]; rintro e w0 ⟨rfl, rfl⟩)
    go_ret
    exact ⟨rfl, Below.refl _ _⟩
end Go.Proofs.YtoidlgploodadaaDoor
namespace Go.Proofs.YtoidlgploodadaaDoor
theorem head_cut {l : List (List Char)} {c : List Char} (h : (l.head? == some c) = true) : ∃ rest, l = c :: rest := by
  cases l with
  | nil => simp at h
  | cons a r => simp at h; exact ⟨r, by rw [h]⟩
theorem strip_cut (rest : List (List Char)) : stripLifts liftWords ("cut".toList :: rest) = ([], "cut".toList :: rest) := by kernel_rfl
theorem make_of {P : Program} {l : List Char} (h0 : P.initOrder.toList = l) (h1 : ((behindMainWord (wordsSigns l)).head? == some "cut".toList) = true) : P.make = some .cut := by
  obtain ⟨rest, hr⟩ := head_cut h1
  unfold Program.make
  rw [h0, hr]
  rfl
theorem headLifts_of {P : Program} {l : List Char} (h0 : P.initOrder.toList = l) (h1 : ((behindMainWord (wordsSigns l)).head? == some "cut".toList) = true) : P.headLifts = [] := by
  obtain ⟨rest, hr⟩ := head_cut h1
  unfold Program.headLifts
  rw [h0, hr, strip_cut]
  rfl
theorem liftsFinal_of {P : Program} {l : List Char} (h0 : P.initOrder.toList = l) (h1 : ((behindMainWord (wordsSigns l)).head? == some "cut".toList) = true) : P.liftsFinal = false := by
  have hh := headLifts_of h0 h1
  obtain ⟨rest, hr⟩ := head_cut h1
  unfold Program.liftsFinal
  rw [h0, hr, hh]
  rfl
theorem mayEnter_of {P : Program} {l : List Char} (h0 : P.initOrder.toList = l) (h1 : ((behindMainWord (wordsSigns l)).head? == some "cut".toList) = true) (h2 : P.laysLater = false) (h3 : P.bearsReflect = false) (h4 : P.doorFits [] = true) : P.mayEnter = true := by
  obtain ⟨rest, hr⟩ := head_cut h1
  unfold Program.mayEnter
  rw [h0, hr]
  simp only [strip_cut, h2, h3, h4]
  simp
end Go.Proofs.YtoidlgploodadaaDoor
namespace Go.Proofs.YtoidlgploodadaaDoor
set_option maxRecDepth 100000
def ordL : { l : List Char // Tryd.prog.initOrder = String.ofList l } := ⟨_, rfl⟩
theorem ordT : Tryd.prog.initOrder.toList = ordL.1 := (congrArg String.toList ordL.2).trans String.toList_ofList
theorem headE : ((behindMainWord (wordsSigns ordL.1)).head? == some "cut".toList) = true := by kernel_rfl
theorem makeT : Tryd.prog.make = some .cut := make_of ordT headE
theorem liftsFinalT : Tryd.prog.liftsFinal = false := liftsFinal_of ordT headE
theorem laysLaterT : Tryd.prog.laysLater = false := by kernel_rfl
theorem bearsReflectT : Tryd.prog.bearsReflect = false := by kernel_rfl
theorem doorFitsT : Tryd.prog.doorFits [] = true := by kernel_rfl
theorem mayEnterT : Tryd.prog.mayEnter = true := mayEnter_of ordT headE laysLaterT bearsReflectT doorFitsT
theorem ownT : ownKnob Tryd.prog.godebug = none := by kernel_rfl
theorem laidOutT : laidOutB Tryd.prog = true := by kernel_rfl
theorem mapsRowedT : mapsRowed Tryd.prog = true := by kernel_rfl
theorem stopsHeardT : Tryd.prog.stopsHeard = true := by kernel_rfl
theorem plainKeysT : Tryd.prog.plainKeys = true := by kernel_rfl
end Go.Proofs.YtoidlgploodadaaDoor
namespace Go.Proofs.YtoidlgploodadaaDoor
open Go.RowKit Go.ChangeShapes Go.WideShapes Go.Deep
set_option linter.unusedVariables false
set_option linter.unusedSimpArgs false
/-- what is read at the type is k numbers -/
def IntsOf (P : Program) (e : TypeId) (k : Nat) : Prop :=
  ∀ (H : Type) (enc : TypeId × Value → H) (w : World) (base : Nat) (spare : Nat → Bool) (held : Bool) (fuel : Nat) (cs : List Value) (x : DataW H × List MemPlace),
    DataW.trod enc P w base spare held fuel e cs = some x → cs.length = k ∧ ∀ j, j < k → ∃ v : Int, cs[j]? = some (.int .i64 v) ∧ (Lit.int .i64 v).wf = true
theorem IntsOf.int {P : Program} {e : TypeId} (h : P.underlying e = some (.int .i64)) : IntsOf P e 1 := by
  intro H enc w base spare held fuel cs x hx
  obtain ⟨v, h1, _, h3⟩ := DataW.trod_int h hx
  subst h1
  refine ⟨rfl, fun j hj => ?_⟩
  obtain rfl : j = 0 := by omega
  exact ⟨v, rfl, h3⟩
theorem IntsOf.struct {P : Program} {t : TypeId} {k : Nat} {fs : Array Field} (cs_ : List Nat) (ht : P.underlying t = some (.struct fs)) (hk : P.cellsOf t = k)
    (hf : ∀ (i : Nat) (f : Field) (c : Nat), fs[i]? = some f → cs_[i]? = some c → P.cellsOf f.type = c ∧ IntsOf P f.type c)
    (cover : (List.range k).all (fun j => (List.range fs.size).any fun i => match fs[i]?, cs_[i]? with | some f, some c => decide (f.offset ≤ j ∧ j < f.offset + c) | _, _ => false) = true) : IntsOf P t k := by
  intro H enc w base spare held fuel cs x hx
  obtain ⟨xs, n, _, _, hl, hlen, hg⟩ := DataW.trod_struct ht hx
  rw [hk] at hl
  refine ⟨hl, fun j hj => ?_⟩
  rw [List.all_eq_true] at cover
  have c1 := cover j (List.mem_range.2 hj)
  rw [List.any_eq_true] at c1
  obtain ⟨i, hi, hm⟩ := c1
  have hi' := List.mem_range.1 hi
  cases hfi : fs[i]? with
  | none => simp [hfi] at hm
  | some f =>
    cases hci : cs_[i]? with
    | none => simp [hfi, hci] at hm
    | some c =>
      simp only [hfi, hci, decide_eq_true_eq] at hm
      obtain ⟨hc, hI⟩ := hf i f c hfi hci
      have g := hg i f hfi
      rw [hc] at g
      have hxi : i < xs.length := by rw [hlen]; exact hi'
      rw [List.getElem?_eq_getElem hxi] at g
      obtain ⟨_, q⟩ := hI H enc w base spare held _ _ _ g
      obtain ⟨v, hv, hw⟩ := q (j - f.offset) (by omega)
      refine ⟨v, ?_, hw⟩
      rw [List.getElem?_take, if_pos (by omega), List.getElem?_drop, show f.offset + (j - f.offset) = j by omega] at hv
      exact hv
theorem open_flat {P : Program} {t e : TypeId} {k : Nat} (hk0 : 0 < k) (ht : P.underlying t = some (.slice e)) (hk : P.cellsOf e = k) (hE : IntsOf P e k)
    {H : Type} {enc : TypeId × Value → H} {w : World} {base : Nat} {spare : Nat → Bool} {held : Bool} {fuel : Nat} {v : Value} {x : DataW H × List MemPlace}
    (h : DataW.trod enc P w base spare held fuel t [v] = some x) :
    ∃ (a : Option Addr) (n c : Nat) (U : Nat → Int), v = .slice a n c ∧ (n : Int) ≤ 9223372036854775807 ∧ Flat w a (n * k) U ∧ ∀ q, q < n * k → (Lit.int .i64 (U q)).wf = true := by
  rcases open_slice ht h with ⟨hc, _⟩ | ⟨a, len, cap, m, fu, D, Pl, hc, hb, hl, hm, hmm, _, hall⟩
  · simp only [List.cons.injEq, and_true] at hc
    subst hc
    exact ⟨none, 0, 0, fun _ => 0, rfl, by omega, by rw [Nat.zero_mul]; exact Flat.nil, fun q hq => by omega⟩
  · simp only [List.cons.injEq, and_true] at hc
    subst hc
    have hlm : len ≤ m := by rw [hmm]; split <;> omega
    have one : ∀ q, q < len * k → ∃ z : Int, w.cell? (a.add q) = some (.int .i64 z) ∧ (Lit.int .i64 z).wf = true := by
      intro q hq
      have hi : q / k < len := Nat.div_lt_of_lt_mul (by rw [Nat.mul_comm]; exact hq)
      obtain ⟨cs', h1, h2⟩ := hall (q / k) (by omega)
      obtain ⟨_, hlen, hcell⟩ := World.cells?_some h1
      obtain ⟨_, hv⟩ := hE H enc w base spare held _ _ _ h2
      obtain ⟨z, hz, hw⟩ := hv (q % k) (Nat.mod_lt _ hk0)
      have := hcell (q % k) (by rw [hk]; exact Nat.mod_lt _ hk0)
      rw [hz, hk, add_add, Nat.mul_comm, Nat.div_add_mod] at this
      exact ⟨z, this, hw⟩
    obtain ⟨U, hU⟩ := choose_lt one
    refine ⟨some a, len, cap, U, rfl, by unfold maxLen at hm; omega, ?_, fun q hq => (hU q hq).2⟩
    intro h0
    obtain ⟨b, o, spot⟩ := a
    have g0 := (hU 0 h0).1
    have hspot : spot = none := by simpa [Addr.add] using World.cell?_spot g0
    subst hspot
    have hbl := World.block_lt_of_cell? w _ g0
    simp only [Addr.add, if_true] at hbl
    refine ⟨b, o, rfl, hbl, fun q hq => ?_⟩
    have := (hU q hq).1
    by_cases hq0 : q = 0
    · subst hq0; simpa [Addr.add] using this
    · simpa [Addr.add, hq0] using this
end Go.Proofs.YtoidlgploodadaaDoor
namespace Go.Proofs.YtoidlgploodadaaDoor
open Go.RowKit Go.ChangeShapes Go.WideShapes Go.Deep
set_option linter.unusedVariables false
set_option linter.unusedSimpArgs false
theorem cellsI : Tryd.prog.cellsOf 3 = 1 := by kernel_rfl
theorem cellsV : Tryd.prog.cellsOf 38 = 2 := by kernel_rfl
theorem cellsSh : Tryd.prog.cellsOf 37 = 3 := by kernel_rfl
theorem cellsBd : Tryd.prog.cellsOf 40 = 12 := by kernel_rfl
theorem cellsSlB : Tryd.prog.cellsOf 22 = 1 := by kernel_rfl
theorem intsI : IntsOf Tryd.prog 3 1 := IntsOf.int Tryd.underlying3
theorem intsV : IntsOf Tryd.prog 38 2 := IntsOf.struct [1, 1] Tryd.underlying38 (by kernel_rfl) (fun i f c h1 h2 => match i, h1, h2 with
  | 0, h1, h2 => by cases h1; cases h2; exact ⟨cellsI, intsI⟩
  | 1, h1, h2 => by cases h1; cases h2; exact ⟨cellsI, intsI⟩
  | _ + 2, h1, h2 => by simp at h2) (by decide)
theorem intsSh : IntsOf Tryd.prog 37 3 := IntsOf.struct [1, 1, 1] Tryd.underlying37 (by kernel_rfl) (fun i f c h1 h2 => match i, h1, h2 with
  | 0, h1, h2 => by cases h1; cases h2; exact ⟨cellsI, intsI⟩
  | 1, h1, h2 => by cases h1; cases h2; exact ⟨cellsI, intsI⟩
  | 2, h1, h2 => by cases h1; cases h2; exact ⟨cellsI, intsI⟩
  | _ + 3, h1, h2 => by simp at h2) (by decide)
theorem intsBd : IntsOf Tryd.prog 40 12 := IntsOf.struct [1, 3, 2, 2, 1, 1, 1, 1] Tryd.underlying40 (by kernel_rfl) (fun i f c h1 h2 => match i, h1, h2 with
  | 0, h1, h2 => by cases h1; cases h2; exact ⟨cellsI, intsI⟩
  | 1, h1, h2 => by cases h1; cases h2; exact ⟨cellsSh, intsSh⟩
  | 2, h1, h2 => by cases h1; cases h2; exact ⟨cellsV, intsV⟩
  | 3, h1, h2 => by cases h1; cases h2; exact ⟨cellsV, intsV⟩
  | 4, h1, h2 => by cases h1; cases h2; exact ⟨cellsI, intsI⟩
  | 5, h1, h2 => by cases h1; cases h2; exact ⟨cellsI, intsI⟩
  | 6, h1, h2 => by cases h1; cases h2; exact ⟨cellsI, intsI⟩
  | 7, h1, h2 => by cases h1; cases h2; exact ⟨cellsI, intsI⟩
  | _ + 8, h1, h2 => by simp at h2) (by decide)
set_option maxRecDepth 100000 in
theorem open_bodies {H : Type} {enc : TypeId × Value → H} {W : World} {base b0 : Nat} {spare : Nat → Bool} {held : Bool} {v : Value} {d : DataW H} {p : List MemPlace}
    (hv : Value.okWide Tryd.prog W .any b0 22 v) (h : DataW.Trod enc Tryd.prog W base spare held 22 v d p) :
    ∃ (a : Option Addr) (n c : Nat) (U : Nat → Int), v = .slice a n c ∧ (n : Int) ≤ 9223372036854775807 ∧ Flat W a (n * 12) U ∧ ∀ q, q < n * 12 → (Lit.int .i64 (U q)).wf = true := by
  obtain ⟨a0, len, cap, rfl⟩ := okWide_slice Tryd.underlying22 hv
  obtain ⟨fuel, hf⟩ := h
  exact open_flat (by decide) Tryd.underlying22 cellsBd intsBd hf
end Go.Proofs.YtoidlgploodadaaDoor
