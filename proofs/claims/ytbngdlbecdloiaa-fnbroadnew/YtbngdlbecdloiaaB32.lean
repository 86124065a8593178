/- The tree over some items. A list of numbers in memory of its own, put in order. -/
import Derived.Test.YtbngdlbecdloiaaB31
import Derived.Deep.RegionHeld3
import Derived.Deep.DeepCutAuto
import Derived.Test.YtbngdlbecdloiaaB3
import Derived.Deep.AppendLies
import Derived.Sort.OwnSortedInts
import Derived.Shelf.Slices.In.SortNone
set_option maxHeartbeats 16000000
set_option maxRecDepth 20000
namespace Go.Proofs.Ytbngdlbecdloiaa
open Go.RowKit
set_option linter.unusedVariables false
set_option linter.unusedSimpArgs false
theorem makeInts (n : Nat) (hn : n ≤ 1048576) (w : World) : (Instr.makeSlice 40 (.int .i64 (n : Int)) (.int .i64 (n : Int))).run Try.prog w = .ok (.slice (some ⟨w.heap.size, 0, none⟩) n n) (w.alloc (.cells (madeCells #[.int .i64 0] (n * 1)) 3)) :=
  make_rows _ _ (.int .i64 0) 1 8 Try.underlying40 (by kernel_rfl) _ _ n (by omega) (by omega) w
/-- what is told of a tree -/
def Tree (w : World) (base : Nat) (N : Nat) (U : Nat → Int) (v : Value) : Prop :=
  (N = 0 ∧ v = .slice none 0 0) ∨ (0 < N ∧ ∃ m D, NL w base v D (m + 1) ∧ m ≤ 100 ∧ Good N U (m + 1) D ∧ ∃ c, Cov (tab D) m c ∧ c.Perm (List.range N))
theorem NL.base {w : World} {base m : Nat} {v : Value} {D : Nat → Int} {B : Nat} (h : NL w base v D m) (hB : B ≤ base) : NL w B v D m := by
  refine ⟨h.1, ?_⟩
  rcases h.2 with q | ⟨g, cap, cur, hv, hb, rest⟩
  · exact .inl q
  · exact .inr ⟨g, cap, cur, hv, by omega, rest⟩
theorem Tree.below {w w' : World} {base N : Nat} {U : Nat → Int} {v : Value} (h : Tree w base N U v) (hb : Below w.heap.size w w') : Tree w' base N U v := by
  rcases h with q | ⟨q, m, D, h1, h2⟩
  · exact .inl q
  · exact .inr ⟨q, m, D, h1.keep fun g hg => hb.block _ (h1.lt g hg).2, h2⟩
theorem plc_id (N : Nat) : plc (fun q => (q : Int)) N = List.range N := by
  unfold plc
  simp
set_option maxRecDepth 20000 in
set_option maxHeartbeats 1000000 in
theorem treeOf_any (ai : Option Addr) (N ci : Nat) (U : Nat → Int) (w : World) (hF : Flat w ai (N * 5) U) (hN : N ≤ 24) (hU : ∀ q, q < N * 5 → B1 (U q)) :
    Calls Try.prog 46 #[.slice ai N ci] w fun e w' => ∃ v, e = .returned (.agg #[.slice ai N ci, v]) ∧ Below w.heap.size w w' ∧ Tree w' w.heap.size N U v := by
  have hset := cset_map
  by_cases h0 : N = 0
  · subst h0
    go_enter Try.func46, Try.ntmps46
    go_wp2
    exact bodyPost_ret (v := .agg #[.slice ai 0 ci, .slice none 0 0]) (by simp [results, Try.results46, go_sem, *]) rfl ⟨_, rfl, bel_a, .inl ⟨rfl, rfl⟩⟩
  · have hNp : 0 < N := by omega
    have hNi : (0 : Int) < (N : Int) := by omega
    obtain ⟨b, o, rfl, hbl, hc⟩ := hF (by omega)
    go_enter Try.func46, Try.ntmps46
    go_upto_region 2 with fail
    have hE : Below w.heap.size w ((w.alloc (.cells #[.slice none 0 0, .slice none 0 0] 77)).alloc (.cells #[.slice (some ⟨b, o, none⟩) N ci, .slice none 0 0] 77)) := bel_a
    have r0 : ((w.alloc (.cells #[.slice none 0 0, .slice none 0 0] 77)).alloc (.cells #[.slice (some ⟨b, o, none⟩) N ci, .slice none 0 0] 77)).cell? ⟨w.heap.size, 0, none⟩ = some (.slice none 0 0) := by go_simp
    have r1 : ((w.alloc (.cells #[.slice none 0 0, .slice none 0 0] 77)).alloc (.cells #[.slice (some ⟨b, o, none⟩) N ci, .slice none 0 0] 77)).cell? ⟨w.heap.size, 1, none⟩ = some (.slice none 0 0) := by go_simp
    have rf : ∀ j, ((w.alloc (.cells #[.slice none 0 0, .slice none 0 0] 77)).alloc (.cells #[.slice (some ⟨b, o, none⟩) N ci, .slice none 0 0] 77)).frozen? ⟨w.heap.size, j, none⟩ = false := fun j => by go_simp
    have t0 : ((w.alloc (.cells #[.slice none 0 0, .slice none 0 0] 77)).alloc (.cells #[.slice (some ⟨b, o, none⟩) N ci, .slice none 0 0] 77)).cell? ⟨w.heap.size + 1, 0, none⟩ = some (.slice (some ⟨b, o, none⟩) N ci) := by go_simp
    have t1 : ((w.alloc (.cells #[.slice none 0 0, .slice none 0 0] 77)).alloc (.cells #[.slice (some ⟨b, o, none⟩) N ci, .slice none 0 0] 77)).cell? ⟨w.heap.size + 1, 1, none⟩ = some (.slice none 0 0) := by go_simp
    have tf : ((w.alloc (.cells #[.slice none 0 0, .slice none 0 0] 77)).alloc (.cells #[.slice (some ⟨b, o, none⟩) N ci, .slice none 0 0] 77)).frozen? ⟨w.heap.size + 1, 1, none⟩ = false := by go_simp
    have hz : ((w.alloc (.cells #[.slice none 0 0, .slice none 0 0] 77)).alloc (.cells #[.slice (some ⟨b, o, none⟩) N ci, .slice none 0 0] 77)).heap.size = w.heap.size + 1 + 1 := by simp
    have hsl : (((w.alloc (.cells #[.slice none 0 0, .slice none 0 0] 77)).alloc (.cells #[.slice (some ⟨b, o, none⟩) N ci, .slice none 0 0] 77))).heap.size = w.heap.size + 1 + 1 := hz
    generalize ((w.alloc (.cells #[.slice none 0 0, .slice none 0 0] 77)).alloc (.cells #[.slice (some ⟨b, o, none⟩) N ci, .slice none 0 0] 77)) = w2 at hE r0 r1 rf t0 t1 tf hz hsl ⊢
    generalize htb : w.heap.size + 1 = tb at t0 t1 tf hz hsl ⊢
    have hm := makeInts N (by omega) w2
    have hRm : Row (w2.alloc (.cells (madeCells #[.int .i64 0] (N * 1)) 3)) w2.heap.size 3 (N * 1) (fun q => if q < 0 then (fun q : Nat => (q : Int)) q else 0) := Row.madek w2 _ 1 (N * 1) _ rfl (by omega) _
    have hzz : w2.heap.size = tb + 1 := by omega
    have hE3 : Below w2.heap.size w2 (w2.alloc (.cells (madeCells #[.int .i64 0] (N * 1)) 3)) := (Below.refl _ _).alloc (Nat.le_refl _) _
    have hz3 : (w2.alloc (.cells (madeCells #[.int .i64 0] (N * 1)) 3)).heap.size = w2.heap.size + 1 := by simp
    rw [Nat.mul_one] at hm hRm hE3 hz3
    go_upto_region 4 with fail
    generalize w2.alloc (.cells (madeCells #[.int .i64 0] N) 3) = w3 at hRm hE3 hz3 ⊢
    have hE2 : Below w2.heap.size w2 w3 := hE3
    have lr0 : w.heap.size < w2.heap.size := cell_lt r0
    rw [hzz] at hRm hz3
    generalize hlb : tb + 1 = lb at hRm hz3 ⊢
    have htl : tb < lb := by omega
    have hwl : w.heap.size < tb := by omega
    have hbw : b < w.heap.size := hbl
    have hlw : lb < w3.heap.size := by omega
    have g0 := keepc hE3 t0
    have g1 := keepc hE3 t1
    have gf : w3.frozen? ⟨tb, 1, none⟩ = false := (hE3.frozen (p := ⟨tb, 1, none⟩) (cell_lt t1)).trans tf
    have q0 := keepc hE3 r0
    have q1 := keepc hE3 r1
    have qf : ∀ j, w3.frozen? ⟨w.heap.size, j, none⟩ = false := fun j => (hE3.frozen (p := ⟨w.heap.size, j, none⟩) lr0).trans (rf j)
    have hB3 : Below w.heap.size w w3 := hE.trans (hE3.mono (by omega))
    clear hE hE3 t0 t1 tf r0 r1 rf hm hE2 hsl hz hzz hlb
    go_wp2
    go_loopg [16] N (fun g vi wr => ∃ k : Nat, k ≤ N ∧ N - k ≤ g ∧ vi = .int .i64 (k : Int) ∧ Row wr lb 3 N (upto k (fun q => (q : Int))) ∧ But lb w3 wr)
    case atStart => exact ⟨0, by omega, by omega, rfl, hRm, But.refl _ _⟩
    case round =>
      obtain ⟨k, hk, hg, rfl, hR, hBt⟩ := hrel
      by_cases hlt : k < N
      · have hlt1 : (k : Int) < (N : Int) := by omega
        have ck := hR.cell (q := k) (by omega)
        have cf := hR.fro k
        have hR2 := hR.next
        go_wp2
        go_roundg (N - k - 1)
        case measure => omega
        case rel => exact ⟨k + 1, by omega, by omega, by go_num, hR2, hBt.setCell rfl _⟩
      · have hlt1 : ¬ ((k : Int) < (N : Int)) := by omega
        obtain rfl : k = N := by omega
        have hRf := hR.full (by omega)
        have hbl2 : lb + 1 ≤ wr.heap.size := Nat.le_trans (Nat.le_of_eq hz3.symm) hBt.size
        have hT : TW wr (lb + 1) tb (some ⟨b, o, none⟩) k ci (.slice none 0 0) 0 (fun _ => 0) := ⟨(hBt.cell (p := ⟨tb, 0, none⟩) (by show tb < _; omega) (by show tb ≠ lb; omega)).trans g0, (hBt.cell (p := ⟨tb, 1, none⟩) (by show tb < _; omega) (by show tb ≠ lb; omega)).trans g1, (hBt.frozen (p := ⟨tb, 1, none⟩) (by show tb < _; omega) (by show tb ≠ lb; omega)).trans gf, NL.nil _ _ _⟩
        have hRw : Rwo wr lb 0 k (fun q => (q : Int)) := ⟨fun i hi => by rw [Nat.zero_add]; exact hRf.cell (by omega), fun i hi => hRf.fro _⟩
        have hFl : Flat wr (some ⟨b, o, none⟩) (k * 5) U := fun _ => ⟨b, o, rfl, by have := hBt.size; omega, fun q hq => (hBt.cell (p := ⟨b, o + q, none⟩) (by show b < _; omega) (by show b ≠ lb; omega)).trans ((hB3.cell (p := ⟨b, o + q, none⟩) hbw).trans (hc q hq))⟩
        have hEl : Els (some ⟨b, o, none⟩) tb lb (lb + 1) := fun b' o' e => by injection e with e; injection e with e1 e2; subst e1; exact ⟨by omega, by omega, by omega⟩
        go_wp2_with fail
        refine (treeGrow_any (lb + 1) tb lb (some ⟨b, o, none⟩) k ci U hU hEl (by omega) (by omega) (by omega) k k 0 k 0 (.slice none 0 0) (fun q => (q : Int)) (fun _ => 0) wr (Nat.le_refl _) (by omega) (Nat.le_refl _) (by omega) hRw (fun i hi => ⟨by omega, by omega⟩) hFl hT (Good.zero _ _ _) hbl2).mono ?_
        rintro e w4 ⟨rfl, v4, D4, hT4, hG4, -, ⟨c, hc4, hp4⟩, hGr⟩
        rw [plc_id] at hp4
        rw [show 0 + 2 * k - 1 = 2 * k - 2 + 1 by omega] at hT4 hG4
        rw [show 0 + 2 * k - 2 = 2 * k - 2 by omega] at hc4
        have hNL := hT4.nl
        obtain ⟨q, -⟩ | ⟨g, cg, rfl⟩ := hT4.nl.is
        · omega
        have u0 := hT4.c0
        have u1 := hT4.c1
        have bk := hGr.block w.heap.size (by omega) (by omega) (by omega)
        have lw3 : w.heap.size < w3.heap.size := by omega
        have x0 := (World.cell?_of_block (a := ⟨w.heap.size, 0, none⟩) bk).trans ((hBt.cell (p := ⟨w.heap.size, 0, none⟩) lw3 (by show w.heap.size ≠ lb; omega)).trans q0)
        have x1 := (World.cell?_of_block (a := ⟨w.heap.size, 1, none⟩) bk).trans ((hBt.cell (p := ⟨w.heap.size, 1, none⟩) lw3 (by show w.heap.size ≠ lb; omega)).trans q1)
        have y0 := (World.frozen?_of_block (a := ⟨w.heap.size, 0, none⟩) bk).trans ((hBt.frozen (p := ⟨w.heap.size, 0, none⟩) lw3 (by show w.heap.size ≠ lb; omega)).trans (qf 0))
        have y1 := (World.frozen?_of_block (a := ⟨w.heap.size, 1, none⟩) bk).trans ((hBt.frozen (p := ⟨w.heap.size, 1, none⟩) lw3 (by show w.heap.size ≠ lb; omega)).trans (qf 1))
        have hBr : Below w.heap.size w wr := hB3.trans (hBt.below (by omega) (by omega))
        have hB4 : Below w.heap.size w w4 := hBr.trans ⟨hGr.os, hGr.tape, hGr.output, hGr.size, fun j hj => hGr.block j (by omega) (by omega) (by omega)⟩
        clear hT hRw hFl hEl hR hRf hBt hRm g0 g1 gf q0 q1 qf hT4
        go_wp2_with fail
        exact bodyPost_ret (v := .agg #[.slice (some ⟨b, o, none⟩) k ci, .slice (some ⟨g, 0, none⟩) (2 * k - 2 + 1) cg]) (by simp [results, Try.results46, go_sem, *]) rfl ⟨_, rfl, (hB4.setCell (by exact Nat.le_refl _) _).setCell (by exact Nat.le_refl _) _, .inr ⟨hNp, 2 * k - 2, D4, (hNL.keep fun g' hg' => by have := (hNL.lt g' hg').1; rw [Below.heap_setCell _ _ _ _ (by show g' ≠ w.heap.size; omega), Below.heap_setCell _ _ _ _ (by show g' ≠ w.heap.size; omega)]).base (by omega), by omega, hG4, c, hc4, hp4⟩⟩
end Go.Proofs.Ytbngdlbecdloiaa
namespace Go.Proofs.Ytbngdlbecdloiaa
open Go.RowKit
set_option linter.unusedVariables false
set_option linter.unusedSimpArgs false
def LI (w : World) (base : Nat) (v : Value) (n : Nat) (zs : List Int) : Prop := zs.length = n ∧ w.ownsRow base 3 1 v n (zs.map (Value.int .i64))
theorem LI.nil (w : World) (base : Nat) : LI w base (.slice none 0 0) 0 [] := ⟨rfl, World.ownsRow_nil w base _ _⟩
theorem LI.lt {w : World} {base n : Nat} {v : Value} {zs : List Int} (h : LI w base v n zs) : ∀ b, v.ownBlock = some b → base ≤ b ∧ b < w.heap.size := World.ownsRow.lt h.2
theorem LI.kept {w w' : World} {base n : Nat} {v : Value} {zs : List Int} {row : Option Nat} (h : LI w base v n zs) (hg : w.grownBy w' row) (hne : v.ownBlock = none ∨ v.ownBlock ≠ row) : LI w' base v n zs := ⟨h.1, World.ownsRow.kept h.2 hg hne⟩
theorem LI.below {w w' : World} {base n : Nat} {v : Value} {zs : List Int} (h : LI w base v n zs) (hb : Below w.heap.size w w') : LI w' base v n zs := by
  refine ⟨h.1, h.2.1, ?_⟩
  rcases h.2.2 with q | ⟨g, cap, cur, hv, h2, hg, rest⟩
  · exact .inl q
  · exact .inr ⟨g, cap, cur, hv, h2, (hb.block _ (Array.getElem?_eq_some_iff.1 hg).1).trans hg, rest⟩
theorem LI.is {w : World} {base n : Nat} {v : Value} {zs : List Int} (h : LI w base v n zs) : (zs = [] ∧ n = 0 ∧ v = .slice none 0 0) ∨ ∃ g c, v = .slice (some ⟨g, 0, none⟩) n c ∧ n ≤ c := by
  rcases h.2.2 with ⟨hv, e⟩ | ⟨g, cap, cur, hv, _, _, hn, _⟩
  · exact .inl ⟨List.length_eq_zero_iff.1 (h.1.trans e), e, hv⟩
  · exact .inr ⟨_, _, hv, hn⟩
theorem LI.cell {w : World} {base n g c : Nat} {zs : List Int} (h : LI w base (.slice (some ⟨g, 0, none⟩) n c) n zs) {q : Nat} (hq : q < zs.length) : w.cell? ⟨g, q, none⟩ = some (.int .i64 zs[q]) := by
  have := (World.ownsRow.cellAt h.2 q (by rw [Nat.mul_one, ← h.1]; exact hq))
  rw [this]; simp [hq]
/-- a part from the front -/
theorem LI.pre {w : World} {base n g c : Nat} {zs : List Int} (h : LI w base (.slice (some ⟨g, 0, none⟩) n c) n zs) {m : Nat} (hm : m ≤ n) : LI w base (.slice (some ⟨g, 0, none⟩) m c) m (zs.take m) := by
  refine ⟨by rw [List.length_take, h.1]; omega, by simp [h.1]; omega, ?_⟩
  rcases h.2.2 with ⟨hv, e⟩ | ⟨g', cap, cur, hv, hb, hg, hn, hc, hs, ht⟩
  · cases hv
  · cases hv
    refine .inr ⟨_, _, cur, rfl, hb, hg, by omega, hc, hs, ?_⟩
    rw [List.map_take, ← ht, List.take_take]
    congr 1
    omega
theorem infoInt : (Try.prog.info? 3).map (fun i => (i.zero, i.size, i.bytes)) = some (some (.int .i64 0), 1, 8) := by kernel_rfl
theorem wpList_li {ops : Array Oper} {o : Oper} {a : Act} {Q : Exit → Act → World → Prop} {w : World} {rest : List Oper} (hgd : o.guard = none) (s x : Operand) (t : TypeId)
    (ho : o.op = .call { callee := .builtin .append, args := #[s, x], argTypes := #[t, t] }) (ht : Try.prog.underlying t = some (.slice 3))
    (base : Nat) (v : Value) (n : Nat) (zs : List Int) (hs : a.eval s = v) (h : LI w base v n zs) (b : Nat) (news : List Int) (k c : Nat) (hx : a.eval x = .slice (some ⟨b, 0, none⟩) k c) (hk : news.length = k)
    (hn : ∀ j u, news[j]? = some u → w.cell? ⟨b, j, none⟩ = some (.int .i64 u)) (hp : 0 < k) (hm : n + k ≤ 100000) (hbase : base ≤ w.heap.size)
    (hK : ∀ g' c' w', LI w' base (.slice (some ⟨g', 0, none⟩) (n + k) c') (n + k) (zs ++ news) → w.grownBy w' v.ownBlock → (v.ownBlock = some g' ∨ g' = w.heap.size) → g' < w'.heap.size → wpList Try.prog ops Q rest (a.put o.dst (.slice (some ⟨g', 0, none⟩) (n + k) c')) w') :
    wpList Try.prog ops Q (o :: rest) a w := by
  obtain ⟨i, hi, hzz⟩ := Option.map_eq_some_iff.1 infoInt
  simp only [Prod.mk.injEq] at hzz
  obtain ⟨hz, hsz, hb8⟩ := hzz
  refine wpList_plain hgd fun _ hK' => wp_append_lies w s x t ho base 3 i (.int .i64 0) 1 8 ht hi hz hsz hb8 rfl (by decide) v n (zs.map (Value.int .i64)) hs h.2 ⟨b, 0, none⟩ k c (news.map (Value.int .i64)) hx (by simp [hk]) ?_ ?_ hp (by unfold maxLen; omega) (by omega) hbase _ rfl ?_
  · intro q u hu
    have hadd : (⟨b, 0, none⟩ : Addr).add q = ⟨b, q, none⟩ := by unfold Addr.add; split <;> simp_all
    rw [List.getElem?_map] at hu
    obtain ⟨z, hz1, rfl⟩ := Option.map_eq_some_iff.1 hu
    rw [hadd]; exact hn q z hz1
  · intro u hu
    obtain ⟨z, _, rfl⟩ := List.mem_map.1 hu
    rfl
  · intro g' cap' w' r1 r2 r3 r4
    refine hK' _ _ (hK g' cap' w' ⟨by simp [h.1, hk], ?_⟩ r2 r3 r4)
    rw [List.map_append]; exact r1
theorem sortInts_any (base : Nat) (v : Value) (n : Nat) (zs : List Int) (w : World) (h : LI w base v n zs) (hn : n ≤ 100000) :
    Calls Try.prog 65 #[v] w fun e w' => e = .returned (.tuple #[]) ∧ LI w' base v n (zs.mergeSort fun x y => decide (x ≤ y)) ∧ w.grownBy w' v.ownBlock := by
  rcases h.is with ⟨rfl, rfl, rfl⟩ | ⟨g, c, rfl, hc⟩
  · refine (Any.slices_Sort_int_none lays189 none 0 w).mono ?_
    rintro e w' ⟨rfl, rfl⟩
    exact ⟨rfl, by simpa using LI.nil _ _, World.grownBy.refl _ _⟩
  · rcases h.2.2 with ⟨hv, e⟩ | ⟨g', cap, cur, hv, hb, hg, h1, h2, hs, ht⟩
    · cases hv
    cases hv
    have hl := h.1
    subst hl
    have hH := holds_of_blockI hg (by rw [← ht, Nat.mul_one])
    refine (Any.slices_Sort_int lays189 g 0 c zs w hH (Array.getElem?_eq_some_iff.1 hg).1 (by omega)).mono ?_
    rintro e w' ⟨rfl, q, os, rfl⟩
    have hml : (zs.mergeSort fun x y => decide (x ≤ y)).length = zs.length := List.length_mergeSort _
    exact ⟨rfl, ⟨hml, ownsRow_sortedI hml hb hg h1 h2 (by simpa using hs)⟩, grownBy_sortedI _⟩
end Go.Proofs.Ytbngdlbecdloiaa
