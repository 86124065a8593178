/- Lists in memory of their own, beside others; marks. What meets a box: both sides. Boxes with their numbers: marked, and held against the marks. A list in its own memory, beside others. A list that a function makes. All that meet, two by two, as a list: what the range over the tree's iterator keeps. -/
import Derived.Test.YtcbgcochpflblaaB11
import Derived.Test.YtcbgcochpflblaaB10
import Derived.Test.YtcbgcochpflblaaB12
import Derived.Deep.RegionHeld3
import Derived.Deep.DeepCutAuto
import Derived.Deep.AppendLies
namespace Go.Proofs.Ytcbgcochpflblaa
open Go.RowKit
set_option linter.unusedVariables false
set_option linter.unusedSimpArgs false
theorem grown_setG (w : World) (g q : Nat) (v : Value) : w.grownBy (w.setCell ⟨g, q, none⟩ v) (some g) := ⟨rfl, rfl, rfl, by simp, fun k hk hn => Below.heap_setCell _ _ _ _ (fun e => hn (by rw [e]))⟩
theorem grown_trans {w w' w'' : World} {r : Option Nat} (h : w.grownBy w' r) (k : w'.grownBy w'' r) : w.grownBy w'' r := ⟨k.os.trans h.os, k.tape.trans h.tape, k.output.trans h.output, Nat.le_trans h.size k.size, fun i hi hn => (k.block i (Nat.lt_of_lt_of_le hi h.size) hn).trans (h.block i hi hn)⟩
theorem grown_refl (w : World) (r : Option Nat) : w.grownBy w r := ⟨rfl, rfl, rfl, Nat.le_refl _, fun _ _ _ => rfl⟩
theorem OwnL.setq {w : World} {base t k n g c : Nat} {U : Nat → Int} (h : OwnL w base t k (.slice (Option.some ⟨g, 0, none⟩) n c) n U) (q : Nat) (hq : q < n * k) (x : Int) : OwnL (w.setCell ⟨g, q, none⟩ (.int .i64 x)) base t k (.slice (Option.some ⟨g, 0, none⟩) n c) n (fun r => if r = q then x else U r) := by
  have h1 := (World.ownsRow.stored h q (.int .i64 x)).1
  unfold OwnL
  rw [show numL (n * k) (fun r => if r = q then x else U r) = (numL (n * k) U).set q (.int .i64 x) from ?_]
  · exact h1
  · apply List.ext_getElem?
    intro r
    rw [List.getElem?_set, numL_len]
    by_cases hr : r < n * k
    · rw [numL_get hr]
      by_cases e : q = r
      · subst e; simp; omega
      · rw [if_neg e, numL_get hr]; simp [Ne.symm e]
    · rw [List.getElem?_eq_none (by rw [numL_len]; omega)]
      by_cases e : q = r
      · omega
      · rw [if_neg e, List.getElem?_eq_none (by rw [numL_len]; omega)]
theorem OwnL.loc {w : World} {base t k n c : Nat} {a : Option Addr} {U : Nat → Int} (h : OwnL w base t k (.slice a n c) n U) (h0 : 0 < n) : ∃ g, a = Option.some ⟨g, 0, none⟩ ∧ base ≤ g ∧ g < w.heap.size := by
  rcases h.2 with ⟨hv, hn⟩ | ⟨g, cap, cur, hv, hb, hg, _⟩
  · omega
  · simp only [Value.slice.injEq, true_and] at hv
    exact ⟨g, hv.1, hb, (Array.getElem?_eq_some_iff.1 hg).1⟩
theorem OwnL.cellq {w : World} {base t k n g c : Nat} {U : Nat → Int} (h : OwnL w base t k (.slice (Option.some ⟨g, 0, none⟩) n c) n U) {q : Nat} (hq : q < n * k) : w.cell? ⟨g, q, none⟩ = Option.some (.int .i64 (U q)) := by
  rw [World.ownsRow.cellAt h q hq, numL_get hq]
/-- marked up to p -/
abbrev mixU (p : Nat) (U : Nat → Int) : Nat → Int := fun q => if q < p then 1 + (q : Int) else U q
theorem OwnL.mark {w : World} {base t k n g c p : Nat} {U : Nat → Int} (h : OwnL w base t k (.slice (Option.some ⟨g, 0, none⟩) n c) n (mixU p U)) (hp : p < n * k) {x : Int} (hx : x = 1 + (p : Int)) : OwnL (w.setCell ⟨g, p, none⟩ (.int .i64 x)) base t k (.slice (Option.some ⟨g, 0, none⟩) n c) n (mixU (p + 1) U) :=
  (h.setq p hp x).congr fun q _ => by
    subst hx
    by_cases e : q = p
    · subst e; simp [mixU]
    · simp only [mixU, if_neg e]
      by_cases l : q < p
      · rw [if_pos l, if_pos (by omega)]
      · rw [if_neg l, if_neg (by omega)]
/-- a list whose block lies from lo on and below hi -/
structure Lv (w : World) (lo hi t k : Nat) (a : Option Addr) (n c : Nat) (U : Nat → Int) : Prop where
  own : OwnL w lo t k (.slice a n c) n U
  top : ∀ b, (Value.slice a n c).ownBlock = some b → b < hi
  le : hi ≤ w.heap.size
theorem Lv.on {w w' : World} {lo hi t k : Nat} {a : Option Addr} {n c : Nat} {U : Nat → Int} (h : Lv w lo hi t k a n c U) (hb : Below w.heap.size w w') : Lv w' lo hi t k a n c U := ⟨h.own.below hb, h.top, Nat.le_trans h.le hb.size⟩
theorem Lv.flat {w : World} {lo hi t k : Nat} {a : Option Addr} {n c : Nat} {U : Nat → Int} (h : Lv w lo hi t k a n c U) : Flat w a (n * k) U := h.own.flat
/-- another list is marked -/
theorem Lv.gr {w w' : World} {lo hi t k lo' hi' t' k' n' c' : Nat} {a' : Option Addr} {a : Option Addr} {n c : Nat} {U U' : Nat → Int} (h : Lv w lo hi t k a n c U) (h' : Lv w lo' hi' t' k' a' n' c' U') (hg : w.grownBy w' (Value.slice a' n' c').ownBlock) (hs : hi ≤ lo' ∨ hi' ≤ lo) : Lv w' lo hi t k a n c U := by
  refine ⟨?_, h.top, Nat.le_trans h.le hg.size⟩
  cases e : (Value.slice a n c).ownBlock with
  | none => exact h.own.kept hg (.inl e)
  | some b => exact h.own.kept hg (.inr (fun q => by
      have k1 := (h'.own.lt b (q ▸ e)).1
      have k1' := h'.top b (q ▸ e)
      have k2 := (h.own.lt b e).1
      have k3 := h.top b e
      omega))
/-- itself is marked -/
theorem Lv.me {w w' : World} {lo hi t k : Nat} {a : Option Addr} {n c : Nat} {U U' : Nat → Int} (h : Lv w lo hi t k a n c U) (hg : w.grownBy w' (Value.slice a n c).ownBlock) (ho : OwnL w' lo t k (.slice a n c) n U') : Lv w' lo hi t k a n c U' := ⟨ho, h.top, Nat.le_trans h.le hg.size⟩
/-- what lies below the first list -/
theorem Lv.below {w0 w w' : World} {lo hi t k B : Nat} {a : Option Addr} {n c : Nat} {U : Nat → Int} (h : Lv w lo hi t k a n c U) (hB : Below B w0 w) (hBw : B ≤ w.heap.size) (hg : w.grownBy w' (Value.slice a n c).ownBlock) (hl : B ≤ lo) : Below B w0 w' :=
  hB.grown hg hBw (fun b e => by have := (h.own.lt b e).1; omega)
theorem Lv.row {w w' : World} {b n t k : Nat} {U : Nat → Int} (h : Row w' b t (n * k) U) (hb : w.heap.size ≤ b) (hn : n ≤ 1048576) : Lv w' w.heap.size w'.heap.size t k (some ⟨b, 0, none⟩) n n U :=
  ⟨h.own hb (by unfold maxLen; omega), fun x e => by simp [Value.ownBlock] at e; subst e; exact h.lt, Nat.le_refl _⟩
/-- what a function hands out that makes a list -/
structure OutL (w w' : World) (t k : Nat) (a : Option Addr) (n c : Nat) (R : Nat → Int) : Prop where
  bel : Below w.heap.size w w'
  own : OwnL w' w.heap.size t k (.slice a n c) n R
theorem OutL.lv {w w' : World} {t k : Nat} {a : Option Addr} {n c : Nat} {R : Nat → Int} (h : OutL w w' t k a n c R) : Lv w' w.heap.size w'.heap.size t k a n c R := ⟨h.own, fun b e => (h.own.lt b e).2, Nat.le_refl _⟩
/-- a list's numbers -/
def ofL (l : List Int) : Nat → Int := fun q => l.getD q 0
theorem ofL_app (l x : List Int) (q : Nat) (h : q < l.length) : ofL (l ++ x) q = ofL l q := by
  unfold ofL
  rw [List.getD_eq_getElem?_getD, List.getD_eq_getElem?_getD, List.getElem?_append_left h]
theorem ofL_app' (l x : List Int) (q : Nat) (h : l.length ≤ q) : ofL (l ++ x) q = ofL x (q - l.length) := by
  unfold ofL
  rw [List.getD_eq_getElem?_getD, List.getD_eq_getElem?_getD, List.getElem?_append_right h]
theorem cat_ofL (l x : List Int) : cat l.length (ofL l) (ofL x) = ofL (l ++ x) := by
  funext q
  unfold cat
  by_cases h : q < l.length
  · rw [if_pos h, ofL_app l x q h]
  · rw [if_neg h, ofL_app' l x q (by omega)]
/-- APPEND of one thing of k numbers: where the list lies then -/
theorem step_appk {P : Program} {w : World} {ops : Array Oper} {o : Oper} {a : Act} {K : Act → World → Prop} {Q : Exit → Act → World → Prop} {E : Prop} (hgd : o.guard = none) (s x : Operand) (t : TypeId)
    (ho : o.op = .call { callee := .builtin .append, args := #[s, x], argTypes := #[t, t] })
    (base e k bytes : Nat) (z : Value) (ht : P.underlying t = some (.slice e)) (hinfo : (P.info? e).map (fun i => (i.zero, i.size, i.bytes)) = some (some z, k, bytes)) (hzs : z.cells.size = k) (hk : 0 < k)
    (v : Value) (n : Nat) (U : Nat → Int) (hs : a.eval s = v) (h : OwnL w base e k v n U) (B c : Nat) (X : Nat → Int) (hx : a.eval x = .slice (some ⟨B, 0, none⟩) 1 c) (hv : ∀ q, q < k → w.cell? ⟨B, q, none⟩ = some (.int .i64 (X q)))
    (h63 : n + 1 ≤ maxLen) (hbytes : (n + 1) * bytes ≤ 140737488355328) (hbase : base ≤ w.heap.size) (H : Nat) (hH : w.heap.size = H)
    (hK : ∀ g cap w', OwnL w' base e k (.slice (some ⟨g, 0, none⟩) (n + 1) cap) (n + 1) (cat (n * k) U X) → w.grownBy w' v.ownBlock → (v.ownBlock = some g ∨ g = H) → g < w'.heap.size → K (a.put o.dst (.slice (some ⟨g, 0, none⟩) (n + 1) cap)) w') :
    if Region.wanted o (yielded ops a.tmps) = true then Oper.wp P o a w K Q else E := by
  obtain ⟨i, hi, hzz⟩ := Option.map_eq_some_iff.1 hinfo
  simp only [Prod.mk.injEq] at hzz
  obtain ⟨hz, hsz, hby⟩ := hzz
  refine step_append_lies w hgd s x t ho base e i z k bytes ht hi hz hsz hby hzs hk v n (numL (n * k) U) hs h ⟨B, 0, none⟩ 1 c (numL (1 * k) X) hx (numL_len _ _) ?_ (fun u hu => by obtain ⟨q, _, rfl⟩ := List.mem_map.1 hu; rfl) (by omega) h63 hbytes hbase H hH ?_
  · intro j u hu
    have hj : j < 1 * k := by have := (List.getElem?_eq_some_iff.1 hu).1; rwa [numL_len] at this
    rw [numL_get hj] at hu
    rw [Addr.add_lit, Nat.zero_add, hv j (by omega)]
    exact hu
  · intro g cap w' h2 h3 h4 h5
    refine hK g cap w' ?_ h3 h4 h5
    unfold OwnL
    rw [Nat.add_mul, ← numL_cat]
    exact h2
end Go.Proofs.Ytcbgcochpflblaa
namespace Go.Proofs.Ytcbgcochpflblaa
open Go.RowKit
set_option linter.unusedVariables false
set_option linter.unusedSimpArgs false
theorem allB_at {U : Nat → Int} : ∀ {n k : Nat}, allB U n = true → k < n → stepB U k = true
  | 0, _, _, l => absurd l (Nat.not_lt_zero _)
  | n + 1, k, h, l => by
    unfold allB at h
    rw [Bool.and_eq_true] at h
    rcases Nat.lt_succ_iff_lt_or_eq.1 l with l | rfl
    · exact allB_at h.1 l
    · exact h.2
theorem broadB_n {n : Nat} {U : Nat → Int} (h : broadB n U = true) : n ≤ 24 := by unfold broadB at h; rw [Bool.and_eq_true] at h; exact of_decide_eq_true h.1
theorem broadB_bd {n : Nat} {U : Nat → Int} (h : broadB n U = true) : ∀ q, q < n * 5 → B1 (U q) := by
  intro q hq
  unfold broadB at h
  rw [Bool.and_eq_true] at h
  have hs := allB_at h.2 (k := q / 5) (by omega)
  unfold stepB itemB at hs
  rw [Bool.and_eq_true, Bool.and_eq_true] at hs
  obtain ⟨⟨h1, h2⟩, -⟩ := hs
  have h1 := of_decide_eq_true h1
  unfold bokB at h2
  rw [Bool.and_eq_true, Bool.and_eq_true] at h2
  obtain ⟨h3, h4, -⟩ := h2
  unfold vokB at h3 h4
  simp only [Bool.and_eq_true, decide_eq_true_eq, Nat.add_zero] at h1 h3 h4
  have hq5 : q / 5 * 5 + q % 5 = q := by omega
  unfold B1
  rcases (show q % 5 = 0 ∨ q % 5 = 1 ∨ q % 5 = 2 ∨ q % 5 = 3 ∨ q % 5 = 4 by omega) with e | e | e | e | e <;> rw [e] at hq5 <;> rw [← hq5] <;> (try simp only [Nat.add_zero]) <;> omega
def askL (n : Nat) (U : Nat → Int) (a b c d : Int) : List Int := bif broadB n U && bokB a b c d then ((List.range n).filter (Mt U a b c d)).map (fun i => U (i * 5)) else []
theorem LI.own {w : World} {base n c : Nat} {a : Option Addr} {zs : List Int} (h : LI w base (.slice a n c) n zs) : OwnL w base 3 1 (.slice a n c) n (ofL zs) := by
  have e : zs.map (Value.int .i64) = numL (n * 1) (ofL zs) := by
    have hl := h.1
    apply List.ext_getElem?
    intro j
    by_cases hj : j < n
    · rw [numL_get (by omega), List.getElem?_map, List.getElem?_eq_getElem (by omega)]
      unfold ofL
      simp [List.getD, List.getElem?_eq_getElem (show j < zs.length by omega)]
    · rw [List.getElem?_eq_none (by rw [List.length_map]; omega), List.getElem?_eq_none (by rw [numL_len]; omega)]
  unfold OwnL
  rw [← e]
  exact h.2
theorem LI.new (w : World) (base : Nat) (hb : base ≤ w.heap.size) : LI (w.alloc (.cells #[] 3)) base (.slice (some ⟨w.heap.size, 0, none⟩) 0 0) 0 [] :=
  ⟨rfl, by simp, .inr ⟨w.heap.size, 0, #[], rfl, hb, Go.Deep.blk_alloc_new _ _, Nat.le_refl _, Nat.zero_le _, by simp, by simp⟩⟩
theorem LI.newAt (w : World) (base s : Nat) (hb : base ≤ w.heap.size) (e : w.heap.size = s) : LI (w.alloc (.cells #[] 3)) base (.slice (some ⟨s, 0, none⟩) 0 0) 0 [] := by subst e; exact LI.new w base hb
theorem filt_next (M : Nat → Bool) (f : Nat → Int) (k : Nat) : ((List.range (k + 1)).filter M).map f = ((List.range k).filter M).map f ++ (if M k = true then [f k] else []) := by
  rw [List.range_succ, List.filter_append, List.map_append]
  congr 1
  by_cases h : M k = true <;> simp [List.filter, h]
theorem sBoxOk_qq (a b c d : Int) (r : Bool) (w : World) (e : bokB a b c d = r) : Calls Try.prog 29 #[b4 a b c d] w fun e w' => e = .returned (.bool r) ∧ Below w.heap.size w w' := by subst e; exact sBoxOk_any a b c d w
theorem boxOk_qq (a b c d : Int) (r : Bool) (w : World) (e : bokB a b c d = r) : Calls Try.prog 40 #[b4 a b c d] w fun e w' => e = .returned (.bool r) ∧ Below w.heap.size w w' := by subst e; exact boxOk_any a b c d w
/-- what lies where inside: the boxes, the box, and the answer's memory behind them -/
structure AQ (w wr : World) (ai : Option Addr) (n ci : Nat) (a b c d : Int) : Prop where
  bel : Below w.heap.size w wr
  big : w.heap.size + 1 < wr.heap.size
  box : wr.cell? ⟨w.heap.size, 0, none⟩ = some (.slice ai n ci)
  q0 : wr.cell? ⟨w.heap.size + 1, 0, none⟩ = some (.int .i64 a)
  q1 : wr.cell? ⟨w.heap.size + 1, 1, none⟩ = some (.int .i64 b)
  q2 : wr.cell? ⟨w.heap.size + 1, 2, none⟩ = some (.int .i64 c)
  q3 : wr.cell? ⟨w.heap.size + 1, 3, none⟩ = some (.int .i64 d)
theorem AQ.new (w : World) (ai : Option Addr) (n ci : Nat) (a b c d : Int) : AQ w ((w.alloc (.cells #[.slice ai n ci] 30)).alloc (.cells #[.int .i64 a, .int .i64 b, .int .i64 c, .int .i64 d] 57)) ai n ci a b c d :=
  ⟨bel_a, by simp, by go_simp, by go_simp, by go_simp, by go_simp, by go_simp⟩
theorem AQ.on {w wr w' : World} {ai : Option Addr} {n ci : Nat} {a b c d : Int} (h : AQ w wr ai n ci a b c d) (hb : Below wr.heap.size wr w') : AQ w w' ai n ci a b c d :=
  ⟨h.bel.trans (hb.mono (by have := h.big; omega)), Nat.lt_of_lt_of_le h.big hb.size, keepc hb h.box, keepc hb h.q0, keepc hb h.q1, keepc hb h.q2, keepc hb h.q3⟩
theorem AQ.gr {w wr w' : World} {ai : Option Addr} {n ci : Nat} {a b c d : Int} {row : Option Nat} (h : AQ w wr ai n ci a b c d) (hg : wr.grownBy w' row) (hr : ∀ k, row = some k → w.heap.size + 1 < k) : AQ w w' ai n ci a b c d := by
  have hb : Below (w.heap.size + 2) wr w' := (Below.refl _ _).grown hg (by have := h.big; omega) (fun k e => by have := hr k e; omega)
  exact ⟨h.bel.trans (hb.mono (by omega)), Nat.lt_of_lt_of_le h.big hb.size, (hb.cell (p := ⟨w.heap.size, 0, none⟩) (by show w.heap.size < _; omega)).trans h.box, (hb.cell (p := ⟨w.heap.size + 1, 0, none⟩) (by show w.heap.size + 1 < _; omega)).trans h.q0, (hb.cell (p := ⟨w.heap.size + 1, 1, none⟩) (by show w.heap.size + 1 < _; omega)).trans h.q1, (hb.cell (p := ⟨w.heap.size + 1, 2, none⟩) (by show w.heap.size + 1 < _; omega)).trans h.q2, (hb.cell (p := ⟨w.heap.size + 1, 3, none⟩) (by show w.heap.size + 1 < _; omega)).trans h.q3⟩
theorem filt_len (M : Nat → Bool) (n : Nat) : ((List.range n).filter M).length ≤ n := Nat.le_trans (List.length_filter_le _ _) (by rw [List.length_range]; exact Nat.le_refl _)
theorem map_take_next (f : Int → Int) (zs : List Int) (k : Nat) (hk : k < zs.length) : (zs.take (k + 1)).map f = (zs.take k).map f ++ [f zs[k]] := by
  rw [← List.take_append_getElem hk, List.map_append]
  rfl
end Go.Proofs.Ytcbgcochpflblaa
namespace Go.Proofs.Ytcbgcochpflblaa
open Go.RowKit
set_option linter.unusedVariables false
set_option linter.unusedSimpArgs false
theorem grown_set (w : World) (a : Addr) (v : Value) : w.grownBy (w.setCell a v) (some a.block) := ⟨rfl, rfl, rfl, by simp, fun k hk hn => Below.heap_setCell _ _ _ _ (fun e => hn (by rw [e]))⟩
theorem OwnL.set {w : World} {base t k n g c : Nat} {U : Nat → Int} (h : OwnL w base t k (.slice (Option.some ⟨g, 0, none⟩) n c) n U) (q : Nat) (hq : q < n * k) (x : Int) : OwnL (w.setCell ⟨g, q, none⟩ (.int .i64 x)) base t k (.slice (Option.some ⟨g, 0, none⟩) n c) n (fun r => if r = q then x else U r) := by
  rcases h.2 with ⟨hv, hn⟩ | ⟨g', cap, cur, hv, hb, hg, hle, hm, hs, ht⟩
  · simp at hv
  · simp only [Value.slice.injEq, Option.some.injEq, Addr.mk.injEq, and_true, true_and] at hv
    obtain ⟨rfl, rfl⟩ := hv
    refine ⟨by rw [numL_len], .inr ⟨g, c, cur.setIfInBounds q (.int .i64 x), rfl, hb, ?_, hle, hm, by simpa using hs, ?_⟩⟩
    · simp [World.setCell, Array.getElem?_modify, hg]
    · apply List.ext_getElem?
      intro r
      by_cases hr : r < n * k
      · have h1 : cur.toList[r]? = Option.some (.int .i64 (U r)) := by
          have := congrArg (fun l => l[r]?) ht
          simpa [List.getElem?_take, hr, numL_get hr] using this
        rw [List.getElem?_take, if_pos hr, numL_get hr, Array.toList_setIfInBounds, List.getElem?_set]
        by_cases e : q = r
        · subst e
          have : q < cur.toList.length := (List.getElem?_eq_some_iff.1 h1).1
          rw [if_pos rfl, if_pos (by simpa using this)]; simp
        · rw [if_neg e, h1, if_neg (fun z => e z.symm)]
      · rw [List.getElem?_eq_none (by simp; omega), List.getElem?_eq_none (by rw [numL_len]; omega)]
theorem OwnL.at {w : World} {base t k n c : Nat} {a : Option Addr} {U : Nat → Int} (h : OwnL w base t k (.slice a n c) n U) (h0 : 0 < n) : ∃ g, a = Option.some ⟨g, 0, none⟩ ∧ base ≤ g ∧ g < w.heap.size := by
  rcases h.2 with ⟨hv, hn⟩ | ⟨g, cap, cur, hv, hb, hg, _⟩
  · omega
  · simp only [Value.slice.injEq, true_and] at hv
    exact ⟨g, hv.1, hb, (Array.getElem?_eq_some_iff.1 hg).1⟩
theorem OwnL.cell {w : World} {base t k n g c : Nat} {U : Nat → Int} (h : OwnL w base t k (.slice (Option.some ⟨g, 0, none⟩) n c) n U) {q : Nat} (hq : q < n * k) : w.cell? ⟨g, q, none⟩ = Option.some (.int .i64 (U q)) := by
  obtain ⟨b, o, e, _, cc⟩ := h.flat (by omega)
  simp only [Option.some.injEq, Addr.mk.injEq, and_true] at e
  obtain ⟨rfl, rfl⟩ := e
  have := cc q hq
  rwa [Nat.zero_add] at this
theorem mark5 {w wr : World} {base g n c j : Nat} {U : Nat → Int} (hlt : j < n) (ho : OwnL wr base 59 5 (.slice (some ⟨g, 0, none⟩) n c) n (mixU (j * 5) U)) (hg : w.grownBy wr (Value.slice (some ⟨g, 0, none⟩) n c).ownBlock) :
    OwnL (((((wr.setCell ⟨g, j * 5, none⟩ (.int .i64 (1 + (j : Int) * 5))).setCell ⟨g, j * 5 + 1, none⟩ (.int .i64 (1 + (j : Int) * 5 + 1))).setCell ⟨g, j * 5 + 2, none⟩ (.int .i64 (1 + (j : Int) * 5 + 1 + 1))).setCell ⟨g, j * 5 + 3, none⟩ (.int .i64 (1 + (j : Int) * 5 + 1 + 1 + 1))).setCell ⟨g, j * 5 + 4, none⟩ (.int .i64 (1 + (j : Int) * 5 + 1 + 1 + 1 + 1))) base 59 5 (.slice (some ⟨g, 0, none⟩) n c) n (mixU ((j + 1) * 5) U) ∧
    w.grownBy (((((wr.setCell ⟨g, j * 5, none⟩ (.int .i64 (1 + (j : Int) * 5))).setCell ⟨g, j * 5 + 1, none⟩ (.int .i64 (1 + (j : Int) * 5 + 1))).setCell ⟨g, j * 5 + 2, none⟩ (.int .i64 (1 + (j : Int) * 5 + 1 + 1))).setCell ⟨g, j * 5 + 3, none⟩ (.int .i64 (1 + (j : Int) * 5 + 1 + 1 + 1))).setCell ⟨g, j * 5 + 4, none⟩ (.int .i64 (1 + (j : Int) * 5 + 1 + 1 + 1 + 1))) (Value.slice (some ⟨g, 0, none⟩) n c).ownBlock := by
  have q1 := ho.mark (by omega) (x := 1 + (j : Int) * 5) (by omega)
  have q2 := q1.mark (by omega) (x := 1 + (j : Int) * 5 + 1) (by omega)
  have q3 := q2.mark (by omega) (x := 1 + (j : Int) * 5 + 1 + 1) (by omega)
  have q4 := q3.mark (by omega) (x := 1 + (j : Int) * 5 + 1 + 1 + 1) (by omega)
  have q5 := q4.mark (by omega) (x := 1 + (j : Int) * 5 + 1 + 1 + 1 + 1) (by omega)
  refine ⟨?_, ?_⟩
  · rw [show (j + 1) * 5 = j * 5 + 1 + 1 + 1 + 1 + 1 by omega]
    exact q5
  · have h0 : w.grownBy wr (some g) := hg
    exact grown_trans (grown_trans (grown_trans (grown_trans (grown_trans h0 (grown_setG _ _ _ _)) (grown_setG _ _ _ _)) (grown_setG _ _ _ _)) (grown_setG _ _ _ _)) (grown_setG _ _ _ _)
set_option maxHeartbeats 1000000 in
theorem markItemS_any (base : Nat) (a : Option Addr) (n c : Nat) (U : Nat → Int) (w : World) (h : OwnL w base 59 5 (.slice a n c) n U) (hn : n ≤ 2097152) :
    Calls Try.prog 25 #[.slice a n c, .int .i64 1] w fun e w' => e = .returned (.int .i64 (1 + (n : Int) * 5)) ∧ OwnL w' base 59 5 (.slice a n c) n (fun q => 1 + (q : Int)) ∧ w.grownBy w' (Value.slice a n c).ownBlock := by
  have hset := cset_map
  go_enter Try.func25, Try.ntmps25
  go_wp2
  go_loopw [1, 5] (fun s i wr => ∃ j : Nat, j ≤ n ∧ i = .int .i64 (j : Int) ∧ s = .int .i64 (1 + (j : Int) * 5) ∧ OwnL wr base 59 5 (.slice a n c) n (mixU (j * 5) U) ∧ w.grownBy wr (Value.slice a n c).ownBlock) (fun _ i _ => n - (intOf i).toNat)
  case atStart => exact ⟨0, Nat.zero_le _, rfl, rfl, h.congr (fun q _ => by simp [mixU]), grown_refl _ _⟩
  case round =>
    obtain ⟨j, hj, rfl, rfl, ho, hg⟩ := hrel
    by_cases hlt : j < n
    · have hjn : (j : Int) < (n : Int) := by omega
      obtain ⟨g, rfl, hgb, hgl⟩ := ho.at (by omega)
      have c0 := ho.cell (q := j * 5) (by omega)
      have c1 := ho.cell (q := j * 5 + 1) (by omega)
      have c2 := ho.cell (q := j * 5 + 2) (by omega)
      have c3 := ho.cell (q := j * 5 + 3) (by omega)
      have c4 := ho.cell (q := j * 5 + 4) (by omega)
      have f0 := ho.fro
      go_wp2
      go_roundw
      case rel =>
        obtain ⟨r1, r2⟩ := mark5 hlt ho hg
        exact ⟨j + 1, by omega, by go_num, congrArg (Value.int .i64) (by omega), r1, r2⟩
      case measure => simp [intOf]; omega
    · obtain rfl : j = n := by omega
      go_wp2
      go_ret
      exact ⟨rfl, ho.congr (fun q hq => by simp [mixU, hq]), hg⟩
theorem markBroad_any (base : Nat) (a : Option Addr) (n c : Nat) (U : Nat → Int) (w : World) (h : OwnL w base 59 5 (.slice a n c) n U) (hn : n ≤ 2097152) :
    Calls Try.prog 11 #[.agg #[.slice a n c], .int .i64 1] w fun e w' => e = .returned (.int .i64 (1 + (n : Int) * 5)) ∧ OwnL w' base 59 5 (.slice a n c) n (fun q => 1 + (q : Int)) ∧ w.grownBy w' (Value.slice a n c).ownBlock := by
  have hset := cset_map
  have h3 := h.below ((Below.refl _ w).alloc (Nat.le_refl _) (.cells #[.slice a n c] 30))
  go_enter Try.func11, Try.ntmps11
  go_wp2_with (go_at_call 25; refine (markItemS_any base _ _ _ U _ h3 hn).mono ?_; rintro e w1 ⟨rfl, ho1, hg1⟩)
  go_ret
  exact ⟨rfl, ho1, grown_trans (World.grownBy_alloc w _ _) hg1⟩
end Go.Proofs.Ytcbgcochpflblaa
namespace Go.Proofs.Ytcbgcochpflblaa
open Go.RowKit
set_option linter.unusedVariables false
set_option linter.unusedSimpArgs false
structure Lk (w : World) (lo bx : Nat) (a : Option Addr) (n c : Nat) (U : Nat → Int) : Prop where
  own : OwnL w lo 59 5 (.slice a n c) n U
  top : ∀ b, (Value.slice a n c).ownBlock = some b → b < bx
  box : w.cell? ⟨bx, 0, none⟩ = some (.slice a n c)
  lt : bx < w.heap.size
theorem Lk.on {w w' : World} {lo bx : Nat} {a : Option Addr} {n c : Nat} {U : Nat → Int} (h : Lk w lo bx a n c U) (hb : Below w.heap.size w w') : Lk w' lo bx a n c U :=
  ⟨h.own.below hb, h.top, (hb.cell (p := ⟨bx, 0, none⟩) h.lt).trans h.box, Nat.lt_of_lt_of_le h.lt hb.size⟩
theorem Lk.flat {w : World} {lo bx : Nat} {a : Option Addr} {n c : Nat} {U : Nat → Int} (h : Lk w lo bx a n c U) : Flat w a (n * 5) U := h.own.flat
/-- another list is marked -/
theorem Lk.gr {w w' : World} {lo bx lo' bx' n' c' : Nat} {a' : Option Addr} {a : Option Addr} {n c : Nat} {U U' : Nat → Int} (h : Lk w lo bx a n c U) (h' : Lk w lo' bx' a' n' c' U') (hg : w.grownBy w' (Value.slice a' n' c').ownBlock) (hs : bx < lo' ∨ bx' < lo) (hl : lo ≤ bx) : Lk w' lo bx a n c U := by
  have key : ∀ b, (Value.slice a' n' c').ownBlock = some b → lo' ≤ b ∧ b < bx' := fun b e => ⟨(h'.own.lt b e).1, h'.top b e⟩
  refine ⟨?_, h.top, hg.cell h.box (fun e => ?_), Nat.lt_of_lt_of_le h.lt hg.size⟩
  · cases e : (Value.slice a n c).ownBlock with
    | none => exact h.own.kept hg (.inl e)
    | some b => exact h.own.kept hg (.inr (fun q => by
        have k1 := key b (q ▸ e)
        have k2 := (h.own.lt b e).1
        have k3 := h.top b e
        omega))
  · have := key bx e.symm
    omega
/-- itself is marked -/
theorem Lk.me {w w' : World} {lo bx : Nat} {a : Option Addr} {n c : Nat} {U U' : Nat → Int} (h : Lk w lo bx a n c U) (hg : w.grownBy w' (Value.slice a n c).ownBlock) (ho : OwnL w' lo 59 5 (.slice a n c) n U') : Lk w' lo bx a n c U' :=
  ⟨ho, h.top, hg.cell h.box (fun e => by have := h.top bx e.symm; omega), Nat.lt_of_lt_of_le h.lt hg.size⟩
theorem BrR.gr {w wr w' : World} {a : Option Addr} {n c : Nat} {U : Nat → Int} {lo' bx' n' c' : Nat} {a' : Option Addr} {U' : Nat → Int} (h : BrR w a n c U wr) (h' : Lk wr lo' bx' a' n' c' U') (hg : wr.grownBy w' (Value.slice a' n' c').ownBlock) (hl : w.heap.size < lo') : BrR w a n c U w' := by
  have key : ∀ b, (Value.slice a' n' c').ownBlock = some b → lo' ≤ b := fun b e => (h'.own.lt b e).1
  refine ⟨h.bel.grown hg (Nat.le_of_lt h.big) (fun b e => by have := key b e; omega), Nat.lt_of_lt_of_le h.big hg.size, hg.cell h.box (fun e => ?_)⟩
  have := key _ e.symm
  simp at this
  omega
theorem Lk.of {w w' : World} {a : Option Addr} {n c : Nat} {R : Nat → Int} (h : Out w w' a n c R) (t : TypeId) : Lk (w'.alloc (.cells #[.slice a n c] t)) w.heap.size w'.heap.size a n c R :=
  ⟨h.own.below ((Below.refl _ _).alloc (Nat.le_refl _) _), fun b e => (h.own.lt b e).2, by go_simp, by simp⟩
theorem Lk.row {w w' : World} {b n : Nat} {U : Nat → Int} (h : Row w' b 59 (n * 5) U) (hb : w.heap.size ≤ b) (hn : n ≤ 1048576) (t : TypeId) : Lk (w'.alloc (.cells #[.slice (some ⟨b, 0, none⟩) n n] t)) w.heap.size w'.heap.size (some ⟨b, 0, none⟩) n n U :=
  ⟨(h.own hb (by unfold maxLen; omega)).below ((Below.refl _ _).alloc (Nat.le_refl _) _), fun x e => by simp [Value.ownBlock] at e; subst e; exact h.lt, by go_simp, by simp⟩
end Go.Proofs.Ytcbgcochpflblaa
namespace Go.Proofs.Ytcbgcochpflblaa
open Go.RowKit
set_option linter.unusedVariables false
set_option linter.unusedSimpArgs false
/-- a list that a function makes, in its own memory -/
structure LsV (w wr : World) (t k : Nat) (a : Option Addr) (m c : Nat) (l : List Int) : Prop where
  bel : Below w.heap.size w wr
  len : l.length = m * k
  own : OwnL wr w.heap.size t k (.slice a m c) m (ofL l)
theorem LsV.below {w wr w' : World} {t k m c : Nat} {a : Option Addr} {l : List Int} (h : LsV w wr t k a m c l) (hb : Below wr.heap.size wr w') : LsV w w' t k a m c l := ⟨h.bel.trans (hb.mono h.bel.size), h.len, h.own.below hb⟩
theorem LsV.push {w wr w1 : World} {t k m c c' : Nat} {a a' : Option Addr} {l x : List Int} (h : LsV w wr t k a m c l) (hx : x.length = k) (hg : wr.grownBy w1 (Value.slice a m c).ownBlock) (ho : OwnL w1 w.heap.size t k (.slice a' (m + 1) c') (m + 1) (cat (m * k) (ofL l) (ofL x))) : LsV w w1 t k a' (m + 1) c' (l ++ x) :=
  ⟨h.bel.grown hg h.bel.size (fun b e => (h.own.lt b e).1), by rw [List.length_append, h.len, hx, Nat.succ_mul], by rw [← cat_ofL, h.len]; exact ho⟩
theorem LsV.new (w : World) (t k : Nat) : LsV w (w.alloc (.cells #[] t)) t k (some ⟨w.heap.size, 0, none⟩) 0 0 [] :=
  ⟨(Below.refl _ _).alloc (Nat.le_refl _) _, by simp, ⟨by simp [numL], .inr ⟨w.heap.size, 0, #[], rfl, Nat.le_refl _, Go.Deep.blk_alloc_new _ _, Nat.le_refl _, Nat.zero_le _, by simp, by simp [numL]⟩⟩⟩
theorem LsV.newAt (w : World) (t k s : Nat) (e : w.heap.size = s) : LsV w (w.alloc (.cells #[] t)) t k (some ⟨s, 0, none⟩) 0 0 [] := by subst e; exact LsV.new w t k
theorem LsV.nil (w : World) (t k : Nat) : LsV w w t k none 0 0 [] := ⟨Below.refl _ _, by simp, OwnL.nil _ _ _ _ _⟩
theorem LsV.out {w0 w wr : World} {t k m c : Nat} {a : Option Addr} {l : List Int} (h : LsV w wr t k a m c l) (hb : Below w0.heap.size w0 w) : OutL w0 wr t k a m c (ofL l) := ⟨hb.trans (h.bel.mono hb.size), h.own.base hb.size⟩
theorem flat1 (w : World) (p : Int) (t : TypeId) : Flat (w.alloc (Obj.cells #[.int .i64 p] t)) (some ⟨w.heap.size, 0, none⟩) (1 * 1) (ofL [p]) := by
  intro _
  refine ⟨w.heap.size, 0, rfl, by simp, fun j hj => ?_⟩
  rw [Nat.zero_add]
  obtain rfl : j = 0 := by omega
  simp only [ofL]; go_simp; (try rfl)
end Go.Proofs.Ytcbgcochpflblaa
namespace Go.Proofs.Ytcbgcochpflblaa
open Go.RowKit
set_option linter.unusedVariables false
set_option linter.unusedSimpArgs false
/-- the numbers of the two -/
def bpV (U : Nat → Int) : List (Nat × Nat) → List Int
  | [] => []
  | p :: l => U (p.1 * 5) :: U (p.2 * 5) :: bpV U l
theorem bpV_len (U : Nat → Int) : ∀ l : List (Nat × Nat), (bpV U l).length = l.length * 2
  | [] => rfl
  | p :: l => by rw [bpV, List.length_cons, List.length_cons, bpV_len U l, List.length_cons]; omega
theorem bpV_app (U : Nat → Int) : ∀ l r : List (Nat × Nat), bpV U (l ++ r) = bpV U l ++ bpV U r
  | [], _ => rfl
  | p :: l, r => by rw [List.cons_append, bpV, bpV_app U l r, bpV]; rfl
theorem bpOf_len (i : Nat) (l : List Nat) : (bpOf i l).length ≤ l.length := by unfold bpOf; rw [List.length_map]; exact List.length_filter_le _ _
theorem bpL_len (N : Nat) (U : Nat → Int) : ∀ m, (bpL N U m).length ≤ m * N
  | 0 => Nat.zero_le _
  | m + 1 => by
    have h1 := bpL_len N U m
    have h2 := bpOf_len m (bpIn N U m)
    have h3 : (bpIn N U m).length ≤ (List.range N).length := List.length_filter_le _ _
    rw [List.length_range] at h3
    rw [bpL, List.length_append, Nat.succ_mul]
    omega
abbrev zcPr2 : Value := .agg #[.int .i64 0, .int .i64 0]
theorem infoPr2 : (Try.prog.info? 48).map (fun i => (i.zero, i.size, i.bytes)) = some (some zcPr2, 2, 16) := by kernel_rfl
/-- APPEND of one thing: its block is the old one, or new -/
theorem wpList_appx {P : Program} {ops : Array Oper} {o : Oper} {a : Act} {Q : Exit → Act → World → Prop} {w : World} {rest : List Oper} (hgd : o.guard = none) (s x : Operand) (t : TypeId) (ho : o.op = .call { callee := .builtin .append, args := #[s, x], argTypes := #[t, t] })
    (base e k bytes : Nat) (z : Value) (ht : P.underlying t = some (.slice e)) (hinfo : (P.info? e).map (fun i => (i.zero, i.size, i.bytes)) = some (some z, k, bytes)) (hzs : z.cells.size = k) (hk : 0 < k)
    (v : Value) (n : Nat) (U : Nat → Int) (hs : a.eval s = v) (h : OwnL w base e k v n U) (b : Nat) (X : Nat → Int) (hxx : a.eval x = .slice (some ⟨b, 0, none⟩) 1 1) (hx : ∀ j, j < k → w.cell? ⟨b, j, none⟩ = some (.int .i64 (X j)))
    (h63 : n + 1 ≤ maxLen) (hbytes : (n + 1) * bytes ≤ 140737488355328) (hbase : base ≤ w.heap.size)
    (hK : ∀ g c' w', OwnL w' base e k (.slice (some ⟨g, 0, none⟩) (n + 1) c') (n + 1) (cat (n * k) U X) → w.grownBy w' v.ownBlock → (v.ownBlock = some g ∨ g = w.heap.size) → wpList P ops Q rest (a.put o.dst (.slice (some ⟨g, 0, none⟩) (n + 1) c')) w') : wpList P ops Q (o :: rest) a w := by
  obtain ⟨i, hi, hzz⟩ := Option.map_eq_some_iff.1 hinfo
  simp only [Prod.mk.injEq] at hzz
  obtain ⟨hz, hsz, hb8⟩ := hzz
  refine wpList_plain hgd fun K' hK' => wp_append_lies w s x t ho base e i z k bytes ht hi hz hsz hb8 hzs hk v n (numL (n * k) U) hs h ⟨b, 0, none⟩ 1 1 (numL (1 * k) X) hxx (numL_len _ _) ?_ ?_ (by decide) h63 hbytes hbase _ rfl ?_
  · intro j u hu
    have hj : j < 1 * k := by have := (List.getElem?_eq_some_iff.1 hu).1; rwa [numL_len] at this
    rw [numL_get hj] at hu
    rw [Addr.add_lit, Nat.zero_add, hx j (by omega)]; exact hu
  · intro u hu
    obtain ⟨q, _, rfl⟩ := List.mem_map.1 hu; rfl
  · intro g cap w' r1 r2 r3 r4
    refine hK' _ _ (hK g cap w' ?_ r2 r3)
    unfold OwnL
    rw [Nat.add_mul, ← numL_cat]
    exact r1
/-- a list in a variable beside an iterator's blocks -/
structure Vs (w A : World) (H : Nat → Prop) (B lb t k : Nat) (v : Value) (m : Nat) (l : List Int) : Prop where
  bel : Below w.heap.size w A
  box : A.cell? ⟨lb, 0, none⟩ = some v
  nf : A.frozen? ⟨lb, 0, none⟩ = false
  own : OwnL A B t k v m (ofL l)
  lo : w.heap.size ≤ lb
  hi : lb < B
  len : l.length = m * k
  out : ∀ b, v.ownBlock = some b → ¬ H b
section
variable {w A A' : World} {H H' : Nat → Prop} {B lb t k m : Nat} {v : Value} {l : List Int}
theorem Vs.lt (h : Vs w A H B lb t k v m l) : lb < A.heap.size := cell_lt (a := ⟨lb, 0, none⟩) h.box
theorem Vs.isCells (h : Vs w A H B lb t k v m l) : ∀ b o, v.ownBlock = some b → A.heap[b]? = some o → o.isCells = true := by
  intro b o hb ho
  rcases h.own.2 with ⟨hv, _⟩ | ⟨g, cap, cur, hv, _, hg, _⟩
  · subst hv; cases hb
  · subst hv
    simp only [Value.ownBlock, Option.some.injEq] at hb
    subst hb
    rw [hg] at ho; cases ho; rfl
theorem Vs.kxs (h : Vs w A H B lb t k v m l) (K : Kxs B H A A') (g : Gr A H H') (hB : w.heap.size ≤ B) : Vs w A' H' B lb t k v m l := by
  refine ⟨h.bel.trans (K.below.mono hB), (K.below.cell (p := ⟨lb, 0, none⟩) h.hi).trans h.box, (K.below.frozen (p := ⟨lb, 0, none⟩) h.hi).trans h.nf, ⟨h.own.1, ?_⟩, h.lo, h.hi, h.len, fun b hb hh => (g b hh).elim (h.out b hb) (fun e => by have := (h.own.lt b hb).2; omega)⟩
  rcases h.own.2 with q | ⟨gg, cap, cur, hv, hb, hg, rest⟩
  · exact .inl q
  · exact .inr ⟨gg, cap, cur, hv, hb, K.cells _ _ hg rfl (h.out gg (by rw [hv]; rfl)), rest⟩
theorem Vs.sm {B' : Nat} (h : Vs w A H B lb t k v m l) (K : Sm B' A A') (hB : w.heap.size ≤ B') : Vs w A' H B lb t k v m l := by
  refine ⟨h.bel.trans (K.below.mono hB), K.cell h.box, K.frozen h.box h.nf, ⟨h.own.1, ?_⟩, h.lo, h.hi, h.len, h.out⟩
  rcases h.own.2 with q | ⟨gg, cap, cur, hv, hb, hg, rest⟩
  · exact .inl q
  · exact .inr ⟨gg, cap, cur, hv, hb, K.cells _ _ hg rfl, rest⟩
theorem Vs.on (h : Vs w A H B lb t k v m l) (K : Below A.heap.size A A') : Vs w A' H B lb t k v m l :=
  ⟨h.bel.trans (K.mono h.bel.size), (K.cell (p := ⟨lb, 0, none⟩) h.lt).trans h.box, (K.frozen (p := ⟨lb, 0, none⟩) h.lt).trans h.nf, h.own.below K, h.lo, h.hi, h.len, h.out⟩
theorem Vs.push (h : Vs w A H B lb t k v m l) {Y w7 : World} (hE : Below A.heap.size A Y) (hw : w.heap.size ≤ B) (hH : ∀ b, H b → b < A.heap.size) {g c' : Nat} {x : List Int} (hx : x.length = k) (ho : OwnL w7 B t k (.slice (some ⟨g, 0, none⟩) (m + 1) c') (m + 1) (cat (m * k) (ofL l) (ofL x))) (hg : Y.grownBy w7 v.ownBlock) (hgg : v.ownBlock = some g ∨ g = Y.heap.size) :
    (w7.cell? ⟨lb, 0, none⟩ = some v ∧ w7.frozen? ⟨lb, 0, none⟩ = false) ∧ Vs w (w7.setCell ⟨lb, 0, none⟩ (.slice (some ⟨g, 0, none⟩) (m + 1) c')) H B lb t k (.slice (some ⟨g, 0, none⟩) (m + 1) c') (m + 1) (l ++ x) ∧ Fr (fun b => b = lb ∨ v.ownBlock = some b) A (w7.setCell ⟨lb, 0, none⟩ (.slice (some ⟨g, 0, none⟩) (m + 1) c')) := by
  have h7 := h.on hE
  have hlo : ∀ b, v.ownBlock = some b → B ≤ b := fun b e => (h7.own.lt b e).1
  have hF7 : Fr (fun b => v.ownBlock = some b) Y w7 := Fr.grown hg (fun b e => e) h7.isCells
  have hi := h.hi
  have nlb : ¬ (v.ownBlock = some lb) := fun e => by have := hlo _ e; omega
  have c := (hF7.cell (p := ⟨lb, 0, none⟩) h7.lt nlb).trans h7.box
  have f := (hF7.frozen (p := ⟨lb, 0, none⟩) h7.lt nlb).trans h7.nf
  have hF : Fr (fun b => b = lb ∨ v.ownBlock = some b) A (w7.setCell ⟨lb, 0, none⟩ (.slice (some ⟨g, 0, none⟩) (m + 1) c')) := ((Fr.of_below hE).trans (hF7.mono (fun _ _ e => .inr e))).trans (Fr.setCell (p := ⟨lb, 0, none⟩) (.inl rfl) _)
  have hlo' := h.lo
  refine ⟨⟨c, f⟩, ⟨h.bel.trans (hF.below h.bel.size (fun b e => e.elim (fun e => by omega) (fun e => by have := hlo _ e; omega))), ?_, ?_, ⟨?_, ?_⟩, h.lo, h.hi, by rw [List.length_append, h.len, hx, Nat.succ_mul], ?_⟩, hF⟩
  · rw [cset_map, c]; rfl
  · rw [World.frozen?_setCell]; exact f
  · rw [numL_len]
  · have ho' : OwnL w7 B t k (.slice (some ⟨g, 0, none⟩) (m + 1) c') (m + 1) (ofL (l ++ x)) := ho.congr fun q hq => by rw [← cat_ofL, h.len]
    rcases ho'.2 with q | ⟨gg, cap, cur, hv, hb, hg', rest⟩
    · exact .inl q
    · exact .inr ⟨gg, cap, cur, hv, hb, (Below.heap_setCell w7 ⟨lb, 0, none⟩ _ gg (by show ¬ gg = lb; omega)).trans hg', rest⟩
  · intro b hb hh
    simp only [Value.ownBlock, Option.some.injEq] at hb
    subst hb
    rcases hgg with e | e
    · exact h.out g e hh
    · have := hH g hh
      have := hE.size
      omega
end
theorem But.trans' {w A A' : World} {lb B m k t : Nat} {v : Value} (h : But lb w A) {U : Nat → Int} (ho : OwnL A B t k v m U) (hB : w.heap.size ≤ B) (K : Fr (fun b => b = lb ∨ v.ownBlock = some b) A A') : But lb w A' :=
  ⟨K.os.trans h.os, K.tape.trans h.tape, K.output.trans h.output, Nat.le_trans h.size K.size, fun q hk hn => (K.block q (by have := h.size; omega) (fun e => e.elim (fun e => hn e) (fun e => by have := (ho.lt q e).1; omega))).trans (h.block q hk hn)⟩
theorem But.up {w A A' : World} {lb B : Nat} (h : But lb w A) (K : Below B A A') (hB : w.heap.size ≤ B) : But lb w A' :=
  ⟨K.os.trans h.os, K.tape.trans h.tape, K.output.trans h.output, Nat.le_trans h.size K.size, fun k hk hn => (K.block k (by omega)).trans (h.block k hk hn)⟩
theorem PrC.but {tb N ci base lb : Nat} {ai : Option Addr} {U : Nat → Int} {v : Value} {A A' : World} (h : PrC tb N ci base ai U v A) (hb : But lb A A') (ht : tb ≠ lb) (hl : lb < base) (hai : ∀ b o, ai = some ⟨b, o, none⟩ → 0 < N * 5 → b ≠ lb) : PrC tb N ci base ai U v A' := by
  obtain ⟨h1, h2, h3, h4⟩ := h
  refine ⟨fun h0 => ?_, (hb.cell (p := ⟨tb, 0, none⟩) (cell_lt h2) ht).trans h2, (hb.cell (p := ⟨tb, 1, none⟩) (cell_lt h3) ht).trans h3, ?_⟩
  · obtain ⟨b, o, e, hbl, hc⟩ := h1 h0
    exact ⟨b, o, e, Nat.lt_of_lt_of_le hbl hb.size, fun j hj => (hb.cell (p := ⟨b, o + j, none⟩) hbl (hai b o e h0)).trans (hc j hj)⟩
  · rcases h4 with q | ⟨q, m, D, hN, hr⟩
    · exact .inl q
    · exact .inr ⟨q, m, D, hN.keep (fun g hg => hb.block g (hN.lt g hg).2 (by have := (hN.lt g hg).1; omega)), hr⟩
end Go.Proofs.Ytcbgcochpflblaa
