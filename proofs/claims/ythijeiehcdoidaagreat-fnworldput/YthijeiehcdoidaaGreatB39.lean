/- Texts of a proof. -/
import Derived.Test.YthijeiehcdoidaaGreatB38
import Derived.Test.YthijeiehcdoidaaGreatB1
import Derived.Laws.Externs
import Derived.Laws.CopyRow
import Derived.Lib.Overlaps
import Derived.Lib.AppendZerosOnto
import Derived.Deep.RegionHeld3
import Derived.Deep.DeepCutAuto
import Derived.Test.YthijeiehcdoidaaGreatB7
set_option maxHeartbeats 16000000
set_option maxRecDepth 20000
namespace Go.Proofs.YthijeiehcdoidaaGreat
open Go.RowKit
set_option linter.unusedVariables false
set_option linter.unusedSimpArgs false
def insU (U : Nat → Int) (i : Nat) (V : Nat → Int) : Nat → Int := fun q => if q < i * 12 then U q else if q < i * 12 + 12 then V (q - i * 12) else U (q - 12)
theorem insU_end (U V : Nat → Int) (n : Nat) : ∀ q, q < (n + 1) * 12 → cat (n * 12) U V q = insU U n V q := by
 intro q hq
 unfold cat insU
 by_cases h : q < n * 12
 · rw [if_pos h, if_pos h]
 · rw [if_neg h, if_neg h, if_pos (by omega)]
theorem list3 {α : Type} (L C : List α) (o q : Nat) (h : o + C.length ≤ L.length) (hq : q < L.length) : (L.take o ++ C ++ L.drop (o + C.length))[q]? = if o ≤ q ∧ q < o + C.length then C[q - o]? else L[q]? := by
 by_cases h1 : q < o
 · rw [if_neg (by omega), List.append_assoc, List.getElem?_append_left (by simp; omega), List.getElem?_take_of_lt h1]
 · by_cases h2 : q < o + C.length
   · rw [if_pos ⟨by omega, h2⟩, List.getElem?_append_left (by simp; omega), List.getElem?_append_right (by simp; omega)]
     congr 1
     simp
     omega
   · rw [if_neg (by omega), List.getElem?_append_right (by simp; omega), List.getElem?_drop]
     congr 1
     simp
     omega
theorem numL_one (m : Nat) (U : Nat → Int) : ∀ v ∈ numL m U, v.oneCell' = true := fun v hv => by
 obtain ⟨q, _, rfl⟩ := List.mem_map.1 hv
 rfl
theorem run_copy_num {P : Program} (w : World) (dT sT ty elem : TypeId) (k g o dLen dCap : Nat) (a : Addr) (sLen sCap : Nat) (cur : Array Value) (t : TypeId) (X : Nat → Int) (L : Nat)
 (hu : P.underlying dT = some (.slice elem)) (hs : (P.info? elem).map (·.size) = some k) (hg : w.heap[g]? = some (.cells cur t (0, 0))) (hL : Nat.min sLen dLen = L)
 (hsrc : ∀ j, j < L * k → w.cell? (a.add j) = some (.int .i64 (X j))) (hfit : o + L * k ≤ cur.size) :
 ∃ cur' : Array Value, (Builtin.copy_ #[dT, sT] ty #[.slice (some ⟨g, o, none⟩) dLen dCap, .slice (some a) sLen sCap]).run P w = .ok (goInt L) (w.setRow g cur') ∧ cur'.size = cur.size ∧
  (w.setRow g cur').heap[g]? = some (.cells cur' t (0, 0)) ∧ ∀ q, q < cur.size → cur'[q]? = (if o ≤ q ∧ q < o + L * k then some (.int .i64 (X (q - o))) else cur[q]?) := by
 have hl := run_loadCells_list (P := P) w a (numL (L * k) X) (fun j v hj => by
  have hj' : j < L * k := by have := (List.getElem?_eq_some_iff.1 hj).1; rwa [numL_len] at this
  rw [numL_get hj'] at hj
  rw [hsrc j hj', hj])
 have hst := run_storeCells_at (P := P) g o t (numL (L * k) X) 0 cur w hg (by rw [numL_len]; simpa using hfit) (numL_one _ _)
 rw [numL_len] at hl
 refine ⟨(cur.toList.take o ++ numL (L * k) X ++ cur.toList.drop (o + (numL (L * k) X).length)).toArray, ?_, ?_, setRow_heap w g cur _ t _ hg, ?_⟩
 · cases hq : P.info? elem with
   | none => simp [hq] at hs
   | some i =>
    have hi : i.size = k := by simpa [hq] using hs
    simp [Builtin.copy_, run_underlying hu, Builtin.lenOf, Builtin.firstCells, sizeOf, typeInfo, hq, hi, hL, hl, hst]
 · simp [numL_len]; omega
 · intro q hq
   rw [List.getElem?_toArray, list3 cur.toList (numL (L * k) X) o q (by rw [numL_len]; simpa using hfit) (by simpa using hq), numL_len]
   by_cases h : o ≤ q ∧ q < o + L * k
   · rw [if_pos h, if_pos h, numL_get (by omega)]
   · rw [if_neg h, if_neg h]; simp
theorem own_cells {w : World} {base t k n g cap : Nat} {cur : Array Value} {U : Nat → Int} (hg : w.heap[g]? = some (.cells cur t (0, 0))) (hb : base ≤ g) (hn : n ≤ cap) (hc : cap ≤ maxLen) (hs : cur.size = cap * k) (hv : ∀ q, q < n * k → cur[q]? = some (.int .i64 (U q))) : OwnL w base t k (.slice (some ⟨g, 0, none⟩) n cap) n U := by
 have hle : n * k ≤ cap * k := Nat.mul_le_mul_right k hn
 refine ⟨numL_len _ _, .inr ⟨g, cap, cur, rfl, hb, hg, hn, hc, hs, ?_⟩⟩
 apply List.ext_getElem?
 intro q
 by_cases h : q < n * k
 · rw [numL_get h, List.getElem?_take_of_lt h, ← hv q h]; simp
 · rw [List.getElem?_eq_none (by simp; omega), List.getElem?_eq_none (by rw [numL_len]; omega)]
theorem cells_own {w : World} {base t k n g c : Nat} {U : Nat → Int} (h : OwnL w base t k (.slice (some ⟨g, 0, none⟩) n c) n U) : ∃ cur : Array Value, w.heap[g]? = some (.cells cur t (0, 0)) ∧ base ≤ g ∧ n ≤ c ∧ c ≤ maxLen ∧ cur.size = c * k ∧ ∀ q, q < n * k → cur[q]? = some (.int .i64 (U q)) := by
 rcases h.2 with ⟨hv, hn⟩ | ⟨g', cap, cur, hv, hb, hg, h1, h2, h3, h4⟩
 · simp at hv
 · simp only [Value.slice.injEq, Option.some.injEq, Addr.mk.injEq, and_true, true_and] at hv
   obtain ⟨rfl, rfl⟩ := hv
   refine ⟨cur, hg, hb, h1, h2, h3, fun q hq => ?_⟩
   have := congrArg (·[q]?) h4
   simp only [List.getElem?_take_of_lt hq, numL_get hq] at this
   simpa using this
theorem grown_setRow (w : World) (g : Nat) (cs : Array Value) : w.grownBy (w.setRow g cs) (some g) := ⟨rfl, rfl, rfl, by simp [World.setRow], fun k hk hn => setRow_other w g k cs (fun e => hn (by rw [e]))⟩
theorem grown_setRowD (w : World) (g : Nat) (cs : Array Value) : w.grownBy (w.drew.setRow g cs) (some g) :=
 have q := grown_setRow w.drew g cs
 ⟨q.os, q.tape, q.output, q.size, q.block⟩
section
variable {P : Program} {ops : Array Oper} {o : Oper} {a : Act} {w : World} {Q : Exit → Act → World → Prop}
theorem wp_copyR {K : Act → World → Prop} (d s : Operand) (t t' : TypeId) (ho : o.op = .call { callee := .builtin .copy, args := #[d, s], argTypes := #[t, t'] }) (v u : Value) (hd : a.eval d = v) (hs : a.eval s = u) {v' : Value} {w' : World}
 (hr : (Builtin.copy_ #[t, t'] o.type #[v, u]).run P w = .ok v' w') (h : K (a.put o.dst v') w') : Oper.wp P o a w K Q := by
 unfold Oper.wp
 simp [execOp, ho, resolve, invoke, builtin, hd, hs, hr, Result.andThen]
 exact h
theorem wpList_copyR {rest : List Oper} (hgd : o.guard = none) (d s : Operand) (t t' : TypeId) (ho : o.op = .call { callee := .builtin .copy, args := #[d, s], argTypes := #[t, t'] }) (v u : Value) (hd : a.eval d = v) (hs : a.eval s = u) {v' : Value} {w' : World}
 (hr : (Builtin.copy_ #[t, t'] o.type #[v, u]).run P w = .ok v' w') (h : wpList P ops Q rest (a.put o.dst v') w') : wpList P ops Q (o :: rest) a w :=
 wpList_plain hgd fun _ hK => wp_copyR d s t t' ho v u hd hs hr (hK _ _ h)
theorem step_copyR {K : Act → World → Prop} {E : Prop} (hgd : o.guard = none) (d s : Operand) (t t' : TypeId) (ho : o.op = .call { callee := .builtin .copy, args := #[d, s], argTypes := #[t, t'] }) (v u : Value) (hd : a.eval d = v) (hs : a.eval s = u) {v' : Value} {w' : World}
 (hr : (Builtin.copy_ #[t, t'] o.type #[v, u]).run P w = .ok v' w') (h : K (a.put o.dst v') w') : if Region.wanted o (yielded ops a.tmps) = true then Oper.wp P o a w K Q else E := by
 rw [if_pos (by simp [Region.wanted, hgd])]
 exact wp_copyR d s t t' ho v u hd hs hr h
end
theorem sizeB (w : World) : (Go.sizeOf 41).run Tryz.prog w = .ok 12 w := by kernel_rfl
theorem szInfo : (Tryz.prog.info? 41).map (·.size) = some 12 := by kernel_rfl
def InsP (w : World) (base : Nat) (a : Option Addr) (n c : Nat) (R : Nat → Int) (e : Ending) (w' : World) : Prop :=
 ∃ a' c', e = .returned (.slice a' (n + 1) c') ∧ OwnL w' base 41 12 (.slice a' (n + 1) c') (n + 1) R ∧ w.grownBy w' (Value.slice a n c).ownBlock ∧ (∀ b, (Value.slice a' (n + 1) c').ownBlock = some b → (Value.slice a n c).ownBlock = some b ∨ w.heap.size ≤ b)
theorem insert_end (base : Nat) (a : Option Addr) (n c : Nat) (U V : Nat → Int) (vb vc : Nat) (w : World) (h : OwnL w base 41 12 (.slice a n c) n U) (hn : n ≤ 1048576) (hbase : base ≤ w.heap.size)
 (hv : ∀ j, j < 12 → w.cell? ⟨vb, j, none⟩ = some (.int .i64 (V j))) :
 Calls Tryz.prog 35 #[.slice a n c, .int .i64 (n : Int), .slice (some ⟨vb, 0, none⟩) 1 vc] w fun e w' => InsP w base a n c (insU U n V) e w' := by
 have hcg : n ≤ c := h.le
 have hcg' : (n : Int) ≤ (c : Int) := by omega
 go_enter Tryz.func35, Tryz.ntmps35
 cases a with
 | none =>
  obtain ⟨rfl, rfl⟩ : n = 0 ∧ c = 0 := by
   rcases h.2 with ⟨hv', hn'⟩ | ⟨g', cap, cur, hv', _⟩
   · simp only [Value.slice.injEq] at hv'; exact ⟨hn', hv'.2.2⟩
   · simp at hv'
  go_wp2_with (refine wpList_appk rfl _ _ _ rfl base 41 12 96 zcBody Tryz.underlying23 infoItBody rfl (by decide) (.slice none 0 0) 0 U rfl h vb _ V rfl hv (by unfold maxLen; omega) (by omega) hbase _ rfl ?_; intro g c' w' ho hg hor hlt)
  go_ret
  exact ⟨_, _, rfl, ho.congr (insU_end U V 0), hg, fun b e => by simp [Value.ownBlock] at e; subst e; rcases hor with q | q; exact .inl q; exact .inr (by omega)⟩
 | some ad =>
  go_wp2_with (refine wpList_appk rfl _ _ _ rfl base 41 12 96 zcBody Tryz.underlying23 infoItBody rfl (by decide) (.slice (some ad) n c) n U rfl h vb _ V rfl hv (by unfold maxLen; omega) (by omega) hbase _ rfl ?_; intro g c' w' ho hg hor hlt)
  all_goals (go_ret; exact ⟨_, _, rfl, ho.congr (insU_end U V n), hg, fun b e => by simp [Value.ownBlock] at e; subst e; rcases hor with q | q; exact .inl q; exact .inr (by omega)⟩)
theorem insert_grow (base g n c : Nat) (U V : Nat → Int) (i vb vc : Nat) (w : World) (h : OwnL w base 41 12 (.slice (some ⟨g, 0, none⟩) n c) n U) (hn : n ≤ 1048576) (hi : i < n) (hroom : c < n + 1) (hbase : base ≤ w.heap.size)
 (hvb : vb < w.heap.size) (hv : ∀ j, j < 12 → w.cell? ⟨vb, j, none⟩ = some (.int .i64 (V j))) :
 Calls Tryz.prog 35 #[.slice (some ⟨g, 0, none⟩) n c, .int .i64 (i : Int), .slice (some ⟨vb, 0, none⟩) 1 vc] w fun e w' => InsP w base (some ⟨g, 0, none⟩) n c (insU U i V) e w' := by
 obtain ⟨cur, hg, hbg, hnc, hcm, hcs, hcv⟩ := cells_own h
 obtain rfl : c = n := by omega
 have hgl : g < w.heap.size := (h.lt g rfl).2
 have cellg : ∀ q, q < c * 12 → w.cell? ⟨g, q, none⟩ = some (.int .i64 (U q)) := fun q hq => h.cellq hq
 obtain ⟨inf, hinf, hzz⟩ := Option.map_eq_some_iff.1 infoItBody
 simp only [Prod.mk.injEq] at hzz
 obtain ⟨hz, hs, hb⟩ := hzz
 obtain ⟨ct, hct⟩ : ∃ ct, c + 1 - i = ct := ⟨_, rfl⟩
 have hct1 : i + ct = c + 1 := by omega
 have hold : (Builtin.firstCells inf.size i (.slice (some ⟨g, 0, none⟩) i c)).run Tryz.prog w.drew = .ok (numL (i * 12) U).toArray w.drew := by
  have q := run_loadCells_list (P := Tryz.prog) w.drew ⟨g, 0, none⟩ (numL (i * 12) U) (fun j v hj => by
   have hj' : j < i * 12 := by have := (List.getElem?_eq_some_iff.1 hj).1; rwa [numL_len] at this
   rw [numL_get hj'] at hj
   rw [Addr.add_lit, Nat.zero_add, ← hj]; exact cellg j (by omega))
  rw [numL_len] at q
  rw [hs]
  exact q
 have hr0 := Go.Lib.run_append_grow_zeros (P := Tryz.prog) w 23 3 23 41 inf zcBody .i64 .i64 Tryz.underlying23 Tryz.underlying3 hinf hz (some ⟨g, 0, none⟩) i c (numL (i * 12) U) hold ct (by omega) (by rw [hs]; decide) (by omega) (by omega) (by rw [hb]; omega) (by rw [hb]; exact growslice_fits (by omega) (by omega))
 have hcap := grownCap_ge w (i + ct) c 41
 have hmax := grownCap_le_maxLen w (i + ct) c 41 (by unfold maxLen; omega)
 generalize grownCap w (i + ct) c 41 = cp at hr0 hcap hmax
 have hM : ((numL (i * 12) U).toArray ++ Builtin.zeroCells zcBody.cells ct ++ Builtin.zeroCells zcBody.cells (cp - (i + ct))).size = cp * 12 := by
  rw [Array.size_append, Array.size_append, size_zeroCells, size_zeroCells]
  have : zcBody.cells.size = 12 := rfl
  simp only [this, List.size_toArray, numL_len]
  omega
 have hMv : ∀ q, q < i * 12 → ((numL (i * 12) U).toArray ++ Builtin.zeroCells zcBody.cells ct ++ Builtin.zeroCells zcBody.cells (cp - (i + ct)))[q]? = some (.int .i64 (U q)) := fun q hq => by
  rw [Array.getElem?_append_left (by rw [Array.size_append]; simp [numL_len]; omega), Array.getElem?_append_left (by simp [numL_len]; omega)]
  simpa using numL_get hq
 generalize (numL (i * 12) U).toArray ++ Builtin.zeroCells zcBody.cells ct ++ Builtin.zeroCells zcBody.cells (cp - (i + ct)) = M at hr0 hM hMv
 have hB1 : Below w.heap.size w (w.drew.alloc (.cells M 41)) := (Below.refl _ _).drew.alloc (by simp) _
 have hgN : (w.drew.alloc (.cells M 41)).heap[w.heap.size]? = some (.cells M 41 (0, 0)) := Go.Deep.blk_alloc_new w.drew (.cells M 41)
 obtain ⟨wn, hwn⟩ : ∃ wn, w.drew.alloc (.cells M 41) = wn := ⟨_, rfl⟩
 rw [hwn] at hr0 hB1 hgN
 obtain ⟨H, hH⟩ : ∃ H, w.heap.size = H := ⟨_, rfl⟩
 rw [hH] at hr0 hgN
 have hv1 : ∀ j, j < 12 → wn.cell? (Addr.add ⟨vb, 0, none⟩ j) = some (.int .i64 (V j)) := fun j hj => by
  rw [Addr.add_lit, Nat.zero_add]; exact (hB1.cell (p := ⟨vb, j, none⟩) hvb).trans (hv j hj)
 obtain ⟨cur1, hr1, hs1, hg1, hc1⟩ := run_copy_num (P := Tryz.prog) wn 23 23 3 41 12 H (i * 12) (c + 1 - i) (cp - i) ⟨vb, 0, none⟩ 1 vc M 41 V 1 Tryz.underlying23 szInfo hgN (by simp only [Nat.min_def]; split <;> omega) (fun j hj => hv1 j (by omega)) (by omega)
 obtain ⟨w1, hw1e⟩ : ∃ w1, wn.setRow H cur1 = w1 := ⟨_, rfl⟩
 rw [hw1e] at hr1 hg1
 have hgr1 : wn.grownBy w1 (some H) := by rw [← hw1e]; exact grown_setRow wn H cur1
 have hsrc : ∀ j, j < (c - i) * 12 → w1.drew.cell? (Addr.add ⟨g, i * 12, none⟩ j) = some (.int .i64 (U (i * 12 + j))) := fun j hj => by
  rw [Addr.add_lit]
  exact hgr1.cell ((hB1.cell (p := ⟨g, i * 12 + j, none⟩) hgl).trans (cellg _ (by omega))) (fun e => by simp at e; omega)
 obtain ⟨cur2, hr2, hs2, hg2, hc2⟩ := run_copy_num (P := Tryz.prog) w1.drew 23 23 3 41 12 H ((i + 1) * 12) (c - i) (cp - (i + 1)) ⟨g, i * 12, none⟩ (c - i) (c - i) cur1 41 (fun j => U (i * 12 + j)) (c - i) Tryz.underlying23 szInfo hg1 (by simp only [Nat.min_def]; split <;> omega) hsrc (by omega)
 obtain ⟨w2, hw2e⟩ : ∃ w2, w1.drew.setRow H cur2 = w2 := ⟨_, rfl⟩
 rw [hw2e] at hr2 hg2
 have hgr2 : w1.grownBy w2 (some H) := by rw [← hw2e]; exact grown_setRowD w1 H cur2
 have hBw : Below w.heap.size w w2 := (hB1.grown hgr1 hB1.size (fun b e => by simp at e; omega)).grown hgr2 (Nat.le_trans hB1.size hgr1.size) (fun b e => by simp at e; omega)
 have hown : OwnL w2 base 41 12 (.slice (some ⟨H, 0, none⟩) (c + 1) cp) (c + 1) (insU U i V) := own_cells hg2 (by omega) (by omega) hmax (by rw [hs2, hs1, hM]) (fun q hq => by
  rw [hc2 q (by omega)]
  unfold insU
  by_cases q1 : q < i * 12
  · rw [if_neg (by omega), if_pos q1, hc1 q (by omega), if_neg (by omega)]; exact hMv q (by omega)
  · by_cases q2 : q < i * 12 + 12
    · rw [if_neg (by omega), if_neg q1, if_pos q2, hc1 q (by omega), if_pos (by omega)]
    · rw [if_pos (by omega), if_neg q1, if_neg q2, show i * 12 + (q - (i + 1) * 12) = q - 12 by omega])
 have hP : w.grownBy w2 (Value.slice (some ⟨g, 0, none⟩) c c).ownBlock := ⟨hBw.os, hBw.tape, hBw.output, hBw.size, fun k hk _ => hBw.block k hk⟩
 have hnew : w.heap.size ≤ H := by omega
 have hz2 : ¬ ((i : Int) = (c : Int)) := by omega
 have hw0 : IntKind.i64.wrap ((c : Int) + 1) = (c : Int) + 1 := i64w (by omega)
 have hw1 : IntKind.i64.wrap ((i : Int) + 1) = (i : Int) + 1 := i64w (by omega)
 have hw2 : (c : Int) + 1 - (i : Int) = (ct : Int) := by omega
 have hw3 : IntKind.i64.wrap (ct : Int) = (ct : Int) := i64w (by omega)
 have hb1 : (0 : Int) ≤ (i : Int) + 1 := by omega
 have htn : ((i : Int) + 1).toNat = i + 1 := by omega
 have hb2 : ¬ (cp = i + 1) := by omega
 have hb3 : ¬ (cp = i) := by omega
 have hb4 : ¬ (c = i) := by omega
 have hi1 : (i : Int) ≤ (c : Int) := by omega
 have hi2 : (i : Int) ≤ (c : Int) + 1 := by omega
 have hi3 : (i : Int) + 1 ≤ (c : Int) + 1 := by omega
 have hr3 : (c : Int) < (c : Int) + 1 := by omega
 rw [hct1] at hr0
 clear hgr1 hgr2 hc1 hc2 hcv cellg hv1 hv hs1 hs2 hg1 hg2 hg hw1e hw2e hsrc h hM hMv hold hgN hB1 hBw hct hct1 hH hwn
 go_enter Tryz.func35, Tryz.ntmps35
 go_upto_region 10 with (refine Go.Lib.wpList_append_run _ rfl _ _ _ _ rfl _ _ rfl rfl _ _ hr0 ?_)
 go_upto_region 11 with (refine wpList_copyR rfl _ _ _ _ rfl _ _ rfl rfl hr1 ?_)
 refine wp_region_held_drew (S := fun w' => True) (by kernel_rfl) ?_ (fun hHeld => ?_)
 · trivial
 refine tq 0 hHeld ?_
 refine tq 1 hHeld ?_
 refine tq 2 hHeld ?_
 refine tq 3 hHeld ?_
 refine tq 4 hHeld ?_
 refine tq 5 hHeld ?_
 refine tq 6 hHeld ?_
 refine tq 7 hHeld ?_
 refine tc 8 fun K hK => ?_
 refine step_copyR (by rfl) _ _ _ _ (by rfl) _ _ (by rfl) (by rfl) hr2 ?_
 refine tr hK (fun hHeld => ?_) trivial
 clear hK K
 refine wpAnyH_done (by kernel_rfl) ?_ _
 go_wp2_with fail
 go_ret
 exact ⟨_, _, rfl, hown, hP, fun b e => .inr (by simp [Value.ownBlock] at e; omega)⟩
end Go.Proofs.YthijeiehcdoidaaGreat
namespace Go.Proofs.YthijeiehcdoidaaGreat
open Go.RowKit
set_option linter.unusedVariables false
set_option linter.unusedSimpArgs false
theorem insert_room (base g n c : Nat) (U V : Nat → Int) (i vb vc : Nat) (w : World) (h : OwnL w base 41 12 (.slice (some ⟨g, 0, none⟩) n c) n U) (hn : n ≤ 1048576) (hi : i < n) (hroom : n + 1 ≤ c)
 (hvb : vb ≠ g) (hv : ∀ j, j < 12 → w.cell? ⟨vb, j, none⟩ = some (.int .i64 (V j))) (hsa : w.shape? vb = some (41, 12)) (hfa : ∀ o, w.frozen? ⟨vb, o, none⟩ = false) :
 Calls Tryz.prog 35 #[.slice (some ⟨g, 0, none⟩) n c, .int .i64 (i : Int), .slice (some ⟨vb, 0, none⟩) 1 vc] w fun e w' => InsP w base (some ⟨g, 0, none⟩) n c (insU U i V) e w' := by
 obtain ⟨cur, hg, hbg, hnc, hcm, hcs, hcv⟩ := cells_own h
 have hsb : w.shape? g = some (41, c * 12) := by unfold World.shape?; rw [hg]; show some (_, cur.size) = _; rw [hcs]
 have hz2 : ¬ ((i : Int) = (n : Int)) := by omega
 have hov : ∀ lb cb, (callFunc 69 #[.slice (some ⟨vb, 0, none⟩) 1 vc, .slice (some ⟨g, (i + 1) * 12, none⟩) lb cb]).run Tryz.prog w = .ok (.value (.bool false)) w := fun lb cb => by
  rw [run_callFunc_extern Tryz.func69 (by kernel_rfl) (by kernel_rfl) (by kernel_rfl) (e := Extern.SlicesOverlaps.overlaps #[23, 23] #[4]) (by kernel_rfl),
   Go.Lib.run_overlaps_apart w 23 4 41 Tryz.underlying23 12 sizeB ⟨vb, 0, none⟩ ⟨g, (i + 1) * 12, none⟩ 1 vc lb cb hvb 41 41 12 (c * 12) hsa hsb (by omega) (hfa 0) (hfa 12)]
  rfl
 have hw0 : IntKind.i64.wrap ((n : Int) + 1) = (n : Int) + 1 := i64w (by omega)
 have hw1 : IntKind.i64.wrap ((i : Int) + 1) = (i : Int) + 1 := i64w (by omega)
 have hb1 : (0 : Int) ≤ (i : Int) + 1 := by omega
 have hb0 : (0 : Int) ≤ (n : Int) + 1 := by omega
 have htn : ((i : Int) + 1).toNat = i + 1 := by omega
 have htm : ((n : Int) + 1).toNat = n + 1 := by omega
 have hb2 : ¬ (c = i + 1) := by omega
 have hb4 : ¬ (c = i) := by omega
 have hi1 : (i : Int) ≤ (n : Int) := by omega
 have hi2 : (i : Int) ≤ (n : Int) + 1 := by omega
 have hi3 : (i : Int) + 1 ≤ (n : Int) + 1 := by omega
 have hr1 : (n : Int) + 1 ≤ (c : Int) := by omega
 have hr2 : ¬ ((c : Int) < (n : Int) + 1) := by omega
 have hc63 : (c : Int) ≤ 9223372036854775807 := by unfold maxLen at hcm; omega
 have cellg : ∀ q, q < n * 12 → w.cell? ⟨g, q, none⟩ = some (.int .i64 (U q)) := fun q hq => h.cellq hq
 obtain ⟨cur1, hr, hs1, hg1, hc1⟩ := run_copy_num (P := Tryz.prog) w.drew 23 23 3 41 12 g ((i + 1) * 12) (n - i) (c - (i + 1)) ⟨g, i * 12, none⟩ (n + 1 - i) (c - i) cur 41 (fun j => U (i * 12 + j)) (n - i) Tryz.underlying23 szInfo hg (by simp only [Nat.min_def]; split <;> omega)
  (fun j hj => by rw [Addr.add_lit]; exact cellg _ (by omega)) (by omega)
 obtain ⟨w1, hw1e⟩ : ∃ w1, w.drew.setRow g cur1 = w1 := ⟨_, rfl⟩
 rw [hw1e] at hr hg1
 have hgr1 : w.grownBy w1 (some g) := by rw [← hw1e]; exact grown_setRowD w g cur1
 have hv1 : ∀ j, j < 12 → w1.cell? (Addr.add ⟨vb, 0, none⟩ j) = some (.int .i64 (V j)) := fun j hj => by
  rw [Addr.add_lit, Nat.zero_add]; exact hgr1.cell (hv j hj) (fun e => hvb (by simpa using e))
 obtain ⟨cur2, hr2', hs2, hg2, hc2⟩ := run_copy_num (P := Tryz.prog) w1 23 23 3 41 12 g (i * 12) (n + 1 - i) (c - i) ⟨vb, 0, none⟩ 1 vc cur1 41 V 1 Tryz.underlying23 szInfo hg1 (by simp only [Nat.min_def]; split <;> omega) (fun j hj => hv1 j (by omega)) (by omega)
 obtain ⟨w2, hw2e⟩ : ∃ w2, w1.setRow g cur2 = w2 := ⟨_, rfl⟩
 rw [hw2e] at hr2' hg2
 have hgr2 : w1.grownBy w2 (some g) := by rw [← hw2e]; exact grown_setRow w1 g cur2
 have hown : OwnL w2 base 41 12 (.slice (some ⟨g, 0, none⟩) (n + 1) c) (n + 1) (insU U i V) := own_cells hg2 hbg hroom hcm (by rw [hs2, hs1, hcs]) (fun q hq => by
  rw [hc2 q (by omega)]
  unfold insU
  by_cases q1 : q < i * 12
  · rw [if_neg (by omega), if_pos q1, hc1 q (by omega), if_neg (by omega)]; exact hcv q (by omega)
  · by_cases q2 : q < i * 12 + 12
    · rw [if_pos (by omega), if_neg q1, if_pos q2]
    · rw [if_neg (by omega), if_neg q1, if_neg q2, hc1 q (by omega), if_pos (by omega), show i * 12 + (q - (i + 1) * 12) = q - 12 by omega])
 have hP : w.grownBy w2 (some g) := grown_trans hgr1 hgr2
 clear hgr1 hgr2 hc1 hc2 hcv cellg hv1 hv hs1 hs2 hg1 hg2 hg hw1e hw2e hfa hsa hsb h
 go_enter Tryz.func35, Tryz.ntmps35
 go_upto_region 15 with (simp only [hov])
 refine wp_region_held_drew (S := fun w' => True) (by kernel_rfl) ?_ (fun hHeld => ?_)
 · trivial
 refine tq 0 hHeld ?_
 refine tq 1 hHeld ?_
 refine tq 2 hHeld ?_
 refine tq 3 hHeld ?_
 refine tq 4 hHeld ?_
 refine tq 5 hHeld ?_
 refine tq 6 hHeld ?_
 refine tq 7 hHeld ?_
 refine tc 8 fun K hK => ?_
 refine step_copyR (by rfl) _ _ _ _ (by rfl) _ _ (by rfl) (by rfl) hr ?_
 refine tr hK (fun hHeld => ?_) trivial
 clear hK K
 refine wpAnyH_done (by kernel_rfl) ?_ _
 go_wp2_with (refine wpList_copyR rfl _ _ _ _ rfl _ _ rfl rfl hr2' ?_)
 go_ret
 exact ⟨_, _, rfl, hown, hP, fun b e => .inl e⟩
theorem insert_any (base : Nat) (a : Option Addr) (n c : Nat) (U V : Nat → Int) (i vb vc : Nat) (w : World) (h : OwnL w base 41 12 (.slice a n c) n U) (hn : n ≤ 1048576) (hi : i ≤ n) (hbase : base ≤ w.heap.size) (hvl : vb < w.heap.size)
 (hvb : ∀ b, (Value.slice a n c).ownBlock = some b → vb ≠ b) (hv : ∀ j, j < 12 → w.cell? ⟨vb, j, none⟩ = some (.int .i64 (V j))) (hsa : w.shape? vb = some (41, 12)) (hfa : ∀ o, w.frozen? ⟨vb, o, none⟩ = false) :
 Calls Tryz.prog 35 #[.slice a n c, .int .i64 (i : Int), .slice (some ⟨vb, 0, none⟩) 1 vc] w fun e w' => InsP w base a n c (insU U i V) e w' := by
 by_cases e : i = n
 · subst e; exact insert_end base a i c U V vb vc w h hn hbase hv
 · obtain ⟨g, rfl, hg1, hg2⟩ := h.loc (by omega)
   by_cases r : n + 1 ≤ c
   · exact insert_room base g n c U V i vb vc w h hn (by omega) r (hvb g rfl) hv hsa hfa
   · exact insert_grow base g n c U V i vb vc w h hn (by omega) (by omega) hbase hvl hv
def ownX (a1 : Option Addr) (n c1 : Nat) (a2 : Option Addr) (m c2 : Nat) (x : Nat) : Prop := (Value.slice a1 n c1).ownBlock = some x ∨ (Value.slice a2 m c2).ownBlock = some x
theorem Vw.xlt {wc : World} {lo hi bx : Nat} {T P : Int} {a1 : Option Addr} {n c1 : Nat} {U : Nat → Int} {a2 : Option Addr} {m c2 : Nat} {Q : Nat → Int} (h : Vw wc lo hi bx T P a1 n c1 U a2 m c2 Q) : ∀ b, ownX a1 n c1 a2 m c2 b → lo ≤ b ∧ b < hi ∧ b ≠ bx := fun b x => by
 rcases x with x | x
 · exact ⟨(h.ob.lt b x).1, (h.t1 b x).1, (h.t1 b x).2⟩
 · exact ⟨(h.op.lt b x).1, (h.t2 b x).1, (h.t2 b x).2⟩
theorem Vw.mark {wc : World} {lo hi bx : Nat} {T P : Int} {a1 : Option Addr} {n c1 : Nat} {U : Nat → Int} {a2 : Option Addr} {m c2 : Nat} {Q : Nat → Int} {w' : World} {U' Q' : Nat → Int} (h : Vw wc lo hi bx T P a1 n c1 U a2 m c2 Q) (hs : Fr (ownX a1 n c1 a2 m c2) wc w') (o1 : OwnL w' lo 41 12 (.slice a1 n c1) n U') (o2 : OwnL w' lo 58 2 (.slice a2 m c2) m Q') : Vw w' lo hi bx T P a1 n c1 U' a2 m c2 Q' := by
 have nb : ¬ ownX a1 n c1 a2 m c2 bx := fun x => (h.xlt _ x).2.2 rfl
 have k := fun o => hs.cell (p := ⟨bx, o, none⟩) h.blt nb
 exact ⟨(k 0).trans h.c0, (k 1).trans h.c1, (k 2).trans h.c2, (k 3).trans h.c3, fun o => (hs.frozen (p := ⟨bx, o, none⟩) h.blt nb).trans (h.nf o), h.bl, h.bh, Nat.le_trans h.le hs.size, o1, o2, h.t1, h.t2⟩
structure Bx0 (w : World) (lo bx : Nat) : Prop where
 c0 : w.cell? ⟨bx, 0, none⟩ = some (.int .i64 0)
 c1 : w.cell? ⟨bx, 1, none⟩ = some (.int .i64 0)
 c2 : w.cell? ⟨bx, 2, none⟩ = some (.slice none 0 0)
 c3 : w.cell? ⟨bx, 3, none⟩ = some (.slice none 0 0)
 nf : ∀ o, w.frozen? ⟨bx, o, none⟩ = false
 bl : lo ≤ bx
 lt : bx < w.heap.size
theorem Bx0.on {w w' : World} {lo bx : Nat} (h : Bx0 w lo bx) (hb : Below w.heap.size w w') : Bx0 w' lo bx :=
 ⟨(hb.cell (p := ⟨bx, 0, none⟩) h.lt).trans h.c0, (hb.cell (p := ⟨bx, 1, none⟩) h.lt).trans h.c1, (hb.cell (p := ⟨bx, 2, none⟩) h.lt).trans h.c2, (hb.cell (p := ⟨bx, 3, none⟩) h.lt).trans h.c3, fun o => (hb.frozen (p := ⟨bx, o, none⟩) h.lt).trans (h.nf o), h.bl, Nat.lt_of_lt_of_le h.lt hb.size⟩
theorem Bx0.new (w : World) (lo : Nat) (hl : lo ≤ w.heap.size) : Bx0 (w.alloc (Obj.cells #[.int .i64 0, .int .i64 0, .slice none 0 0, .slice none 0 0] 26)) lo w.heap.size := ⟨by go_simp, by go_simp, by go_simp, by go_simp, fun o => by go_simp, hl, by simp⟩
theorem Bx0.drew {w : World} {lo bx : Nat} (h : Bx0 w lo bx) : Bx0 w.drew lo bx := h.on (Below.drew (Below.refl _ _))
theorem setFr4 (wb : World) (bx : Nat) (v0 v1 v2 v3 : Value) : Fr (fun b => b = bx) wb ((((wb.setCell ⟨bx, 0, none⟩ v0).setCell ⟨bx, 1, none⟩ v1).setCell ⟨bx, 2, none⟩ v2).setCell ⟨bx, 3, none⟩ v3) :=
 (((Fr.setCell (X := fun b => b = bx) rfl _).trans (Fr.setCell (X := fun b => b = bx) rfl _)).trans (Fr.setCell (X := fun b => b = bx) rfl _)).trans (Fr.setCell (X := fun b => b = bx) rfl _)
theorem Vw.put {wb : World} {lo bx : Nat} {T P : Int} {a1 a2 : Option Addr} {n c1 m c2 : Nat} {U Q : Nat → Int} (ob : OwnL wb lo 41 12 (.slice a1 n c1) n U) (op : OwnL wb lo 58 2 (.slice a2 m c2) m Q) (hx : Bx0 wb lo bx)
 (n1 : ∀ b, ownX a1 n c1 a2 m c2 b → b ≠ bx) : Vw ((((wb.setCell ⟨bx, 0, none⟩ (.int .i64 T)).setCell ⟨bx, 1, none⟩ (.int .i64 P)).setCell ⟨bx, 2, none⟩ (.slice a1 n c1)).setCell ⟨bx, 3, none⟩ (.slice a2 m c2)) lo wb.heap.size bx T P a1 n c1 U a2 m c2 Q := by
 have hset := cset_map
 have z0 := hx.c0
 have z1 := hx.c1
 have z2 := hx.c2
 have z3 := hx.c3
 have nf := hx.nf
 have hs := setFr4 wb bx (.int .i64 T) (.int .i64 P) (.slice a1 n c1) (.slice a2 m c2)
 refine ⟨by go_simp, by go_simp, by go_simp, by go_simp, fun o => by go_simp, hx.bl, hx.lt, hs.size, ob.frame hs (fun b e x => n1 b (.inl e) x), op.frame hs (fun b e x => n1 b (.inr e) x), fun b e => ⟨(ob.lt b e).2, n1 b (.inl e)⟩, fun b e => ⟨(op.lt b e).2, n1 b (.inr e)⟩⟩
theorem Vw.rows {w0 w2 : World} {T P : Int} {n m b d : Nat} {U Q : Nat → Int} (hr : Row w2 b 41 (n * 12) U) (hq : Row w2 d 58 (m * 2) Q) (hb : w0.heap.size ≤ b) (hd : w0.heap.size ≤ d) (hn : n ≤ 1048576) (hm : m ≤ 1048576) (hb2 : Below w0.heap.size w0 w2) :
 OutW w0 w2 (some ⟨b, 0, none⟩) n n U (some ⟨d, 0, none⟩) m m Q :=
 ⟨hb2, hr.own hb (by unfold maxLen; omega), hq.own hd (by unfold maxLen; omega), (hr.own hb (by unfold maxLen; omega)).neT (hq.own hd (by unfold maxLen; omega)) (by decide)⟩
end Go.Proofs.YthijeiehcdoidaaGreat
