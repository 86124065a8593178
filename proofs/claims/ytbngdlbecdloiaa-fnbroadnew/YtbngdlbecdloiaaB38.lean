/- All that meet, two by two, as a list: what the range over the tree's iterator keeps. All that meet, two by two, by the program. -/
import Derived.Test.YtbngdlbecdloiaaBrPr
import Derived.Test.YtbngdlbecdloiaaBrAq
import Derived.Test.YtbngdlbecdloiaaB22
import Derived.Test.YtbngdlbecdloiaaB21
import Derived.Deep.AppendLies
import Derived.Deep.RegionHeld3
import Derived.Deep.DeepCutAuto
set_option maxHeartbeats 16000000
set_option maxRecDepth 20000
namespace Go.Proofs.Ytbngdlbecdloiaa
open Go.RowKit
set_option linter.unusedVariables false
set_option linter.unusedSimpArgs false
/-- the numbers of the two -/
def bpV (U : Nat → Int) : List (Nat × Nat) → List Int
  | [] => []
  | p :: l => U (p.1 * 5) :: U (p.2 * 5) :: bpV U l
theorem bpV_len (U : Nat → Int) : ∀ l : List (Nat × Nat), (bpV U l).length = l.length * 2
  | [] => rfl
  | p :: l => by rw [bpV, List.length_cons, List.length_cons, bpV_len U l, List.length_cons]; omega
theorem bpV_app (U : Nat → Int) : ∀ l r : List (Nat × Nat), bpV U (l ++ r) = bpV U l ++ bpV U r
  | [], _ => rfl
  | p :: l, r => by rw [List.cons_append, bpV, bpV_app U l r, bpV]; rfl
theorem bpOf_len (i : Nat) (l : List Nat) : (bpOf i l).length ≤ l.length := by unfold bpOf; rw [List.length_map]; exact List.length_filter_le _ _
theorem bpL_len (N : Nat) (U : Nat → Int) : ∀ m, (bpL N U m).length ≤ m * N
  | 0 => Nat.zero_le _
  | m + 1 => by
    have h1 := bpL_len N U m
    have h2 := bpOf_len m (bpIn N U m)
    have h3 : (bpIn N U m).length ≤ (List.range N).length := List.length_filter_le _ _
    rw [List.length_range] at h3
    rw [bpL, List.length_append, Nat.succ_mul]
    omega
abbrev zcPr2 : Value := .agg #[.int .i64 0, .int .i64 0]
theorem infoPr2 : (Try.prog.info? 48).map (fun i => (i.zero, i.size, i.bytes)) = some (some zcPr2, 2, 16) := by kernel_rfl
/-- APPEND of one thing: its block is the old one, or new -/
theorem wpList_appx {P : Program} {ops : Array Oper} {o : Oper} {a : Act} {Q : Exit → Act → World → Prop} {w : World} {rest : List Oper} (hgd : o.guard = none) (s x : Operand) (t : TypeId) (ho : o.op = .call { callee := .builtin .append, args := #[s, x], argTypes := #[t, t] })
    (base e k bytes : Nat) (z : Value) (ht : P.underlying t = some (.slice e)) (hinfo : (P.info? e).map (fun i => (i.zero, i.size, i.bytes)) = some (some z, k, bytes)) (hzs : z.cells.size = k) (hk : 0 < k)
    (v : Value) (n : Nat) (U : Nat → Int) (hs : a.eval s = v) (h : OwnL w base e k v n U) (b : Nat) (X : Nat → Int) (hxx : a.eval x = .slice (some ⟨b, 0, none⟩) 1 1) (hx : ∀ j, j < k → w.cell? ⟨b, j, none⟩ = some (.int .i64 (X j)))
    (h63 : n + 1 ≤ maxLen) (hbytes : (n + 1) * bytes ≤ 140737488355328) (hbase : base ≤ w.heap.size)
    (hK : ∀ g c' w', OwnL w' base e k (.slice (some ⟨g, 0, none⟩) (n + 1) c') (n + 1) (cat (n * k) U X) → w.grownBy w' v.ownBlock → (v.ownBlock = some g ∨ g = w.heap.size) → wpList P ops Q rest (a.put o.dst (.slice (some ⟨g, 0, none⟩) (n + 1) c')) w') : wpList P ops Q (o :: rest) a w := by
  obtain ⟨i, hi, hzz⟩ := Option.map_eq_some_iff.1 hinfo
  simp only [Prod.mk.injEq] at hzz
  obtain ⟨hz, hsz, hb8⟩ := hzz
  refine wpList_plain hgd fun K' hK' => wp_append_lies w s x t ho base e i z k bytes ht hi hz hsz hb8 hzs hk v n (numL (n * k) U) hs h ⟨b, 0, none⟩ 1 1 (numL (1 * k) X) hxx (numL_len _ _) ?_ ?_ (by decide) h63 hbytes hbase _ rfl ?_
  · intro j u hu
    have hj : j < 1 * k := by have := (List.getElem?_eq_some_iff.1 hu).1; rwa [numL_len] at this
    rw [numL_get hj] at hu
    rw [Addr.add_lit, Nat.zero_add, hx j (by omega)]; exact hu
  · intro u hu
    obtain ⟨q, _, rfl⟩ := List.mem_map.1 hu; rfl
  · intro g cap w' r1 r2 r3 r4
    refine hK' _ _ (hK g cap w' ?_ r2 r3)
    unfold OwnL
    rw [Nat.add_mul, ← numL_cat]
    exact r1
/-- a list in a variable beside an iterator's blocks -/
structure Vs (w A : World) (H : Nat → Prop) (B lb t k : Nat) (v : Value) (m : Nat) (l : List Int) : Prop where
  bel : Below w.heap.size w A
  box : A.cell? ⟨lb, 0, none⟩ = some v
  nf : A.frozen? ⟨lb, 0, none⟩ = false
  own : OwnL A B t k v m (ofL l)
  lo : w.heap.size ≤ lb
  hi : lb < B
  len : l.length = m * k
  out : ∀ b, v.ownBlock = some b → ¬ H b
section
variable {w A A' : World} {H H' : Nat → Prop} {B lb t k m : Nat} {v : Value} {l : List Int}
theorem Vs.lt (h : Vs w A H B lb t k v m l) : lb < A.heap.size := cell_lt (a := ⟨lb, 0, none⟩) h.box
theorem Vs.isCells (h : Vs w A H B lb t k v m l) : ∀ b o, v.ownBlock = some b → A.heap[b]? = some o → o.isCells = true := by
  intro b o hb ho
  rcases h.own.2 with ⟨hv, _⟩ | ⟨g, cap, cur, hv, _, hg, _⟩
  · subst hv; cases hb
  · subst hv
    simp only [Value.ownBlock, Option.some.injEq] at hb
    subst hb
    rw [hg] at ho; cases ho; rfl
theorem Vs.kxs (h : Vs w A H B lb t k v m l) (K : Kxs B H A A') (g : Gr A H H') (hB : w.heap.size ≤ B) : Vs w A' H' B lb t k v m l := by
  refine ⟨h.bel.trans (K.below.mono hB), (K.below.cell (p := ⟨lb, 0, none⟩) h.hi).trans h.box, (K.below.frozen (p := ⟨lb, 0, none⟩) h.hi).trans h.nf, ⟨h.own.1, ?_⟩, h.lo, h.hi, h.len, fun b hb hh => (g b hh).elim (h.out b hb) (fun e => by have := (h.own.lt b hb).2; omega)⟩
  rcases h.own.2 with q | ⟨gg, cap, cur, hv, hb, hg, rest⟩
  · exact .inl q
  · exact .inr ⟨gg, cap, cur, hv, hb, K.cells _ _ hg rfl (h.out gg (by rw [hv]; rfl)), rest⟩
theorem Vs.sm {B' : Nat} (h : Vs w A H B lb t k v m l) (K : Sm B' A A') (hB : w.heap.size ≤ B') : Vs w A' H B lb t k v m l := by
  refine ⟨h.bel.trans (K.below.mono hB), K.cell h.box, K.frozen h.box h.nf, ⟨h.own.1, ?_⟩, h.lo, h.hi, h.len, h.out⟩
  rcases h.own.2 with q | ⟨gg, cap, cur, hv, hb, hg, rest⟩
  · exact .inl q
  · exact .inr ⟨gg, cap, cur, hv, hb, K.cells _ _ hg rfl, rest⟩
theorem Vs.on (h : Vs w A H B lb t k v m l) (K : Below A.heap.size A A') : Vs w A' H B lb t k v m l :=
  ⟨h.bel.trans (K.mono h.bel.size), (K.cell (p := ⟨lb, 0, none⟩) h.lt).trans h.box, (K.frozen (p := ⟨lb, 0, none⟩) h.lt).trans h.nf, h.own.below K, h.lo, h.hi, h.len, h.out⟩
theorem Vs.push (h : Vs w A H B lb t k v m l) {Y w7 : World} (hE : Below A.heap.size A Y) (hw : w.heap.size ≤ B) (hH : ∀ b, H b → b < A.heap.size) {g c' : Nat} {x : List Int} (hx : x.length = k) (ho : OwnL w7 B t k (.slice (some ⟨g, 0, none⟩) (m + 1) c') (m + 1) (cat (m * k) (ofL l) (ofL x))) (hg : Y.grownBy w7 v.ownBlock) (hgg : v.ownBlock = some g ∨ g = Y.heap.size) :
    (w7.cell? ⟨lb, 0, none⟩ = some v ∧ w7.frozen? ⟨lb, 0, none⟩ = false) ∧ Vs w (w7.setCell ⟨lb, 0, none⟩ (.slice (some ⟨g, 0, none⟩) (m + 1) c')) H B lb t k (.slice (some ⟨g, 0, none⟩) (m + 1) c') (m + 1) (l ++ x) ∧ Fr (fun b => b = lb ∨ v.ownBlock = some b) A (w7.setCell ⟨lb, 0, none⟩ (.slice (some ⟨g, 0, none⟩) (m + 1) c')) := by
  have h7 := h.on hE
  have hlo : ∀ b, v.ownBlock = some b → B ≤ b := fun b e => (h7.own.lt b e).1
  have hF7 : Fr (fun b => v.ownBlock = some b) Y w7 := Fr.grown hg (fun b e => e) h7.isCells
  have hi := h.hi
  have nlb : ¬ (v.ownBlock = some lb) := fun e => by have := hlo _ e; omega
  have c := (hF7.cell (p := ⟨lb, 0, none⟩) h7.lt nlb).trans h7.box
  have f := (hF7.frozen (p := ⟨lb, 0, none⟩) h7.lt nlb).trans h7.nf
  have hF : Fr (fun b => b = lb ∨ v.ownBlock = some b) A (w7.setCell ⟨lb, 0, none⟩ (.slice (some ⟨g, 0, none⟩) (m + 1) c')) := ((Fr.of_below hE).trans (hF7.mono (fun _ _ e => .inr e))).trans (Fr.setCell (p := ⟨lb, 0, none⟩) (.inl rfl) _)
  have hlo' := h.lo
  refine ⟨⟨c, f⟩, ⟨h.bel.trans (hF.below h.bel.size (fun b e => e.elim (fun e => by omega) (fun e => by have := hlo _ e; omega))), ?_, ?_, ⟨?_, ?_⟩, h.lo, h.hi, by rw [List.length_append, h.len, hx, Nat.succ_mul], ?_⟩, hF⟩
  · rw [cset_map, c]; rfl
  · rw [World.frozen?_setCell]; exact f
  · rw [numL_len]
  · have ho' : OwnL w7 B t k (.slice (some ⟨g, 0, none⟩) (m + 1) c') (m + 1) (ofL (l ++ x)) := ho.congr fun q hq => by rw [← cat_ofL, h.len]
    rcases ho'.2 with q | ⟨gg, cap, cur, hv, hb, hg', rest⟩
    · exact .inl q
    · exact .inr ⟨gg, cap, cur, hv, hb, (Below.heap_setCell w7 ⟨lb, 0, none⟩ _ gg (by show ¬ gg = lb; omega)).trans hg', rest⟩
  · intro b hb hh
    simp only [Value.ownBlock, Option.some.injEq] at hb
    subst hb
    rcases hgg with e | e
    · exact h.out g e hh
    · have := hH g hh
      have := hE.size
      omega
end
theorem But.trans' {w A A' : World} {lb B m k t : Nat} {v : Value} (h : But lb w A) {U : Nat → Int} (ho : OwnL A B t k v m U) (hB : w.heap.size ≤ B) (K : Fr (fun b => b = lb ∨ v.ownBlock = some b) A A') : But lb w A' :=
  ⟨K.os.trans h.os, K.tape.trans h.tape, K.output.trans h.output, Nat.le_trans h.size K.size, fun q hk hn => (K.block q (by have := h.size; omega) (fun e => e.elim (fun e => hn e) (fun e => by have := (ho.lt q e).1; omega))).trans (h.block q hk hn)⟩
theorem But.up {w A A' : World} {lb B : Nat} (h : But lb w A) (K : Below B A A') (hB : w.heap.size ≤ B) : But lb w A' :=
  ⟨K.os.trans h.os, K.tape.trans h.tape, K.output.trans h.output, Nat.le_trans h.size K.size, fun k hk hn => (K.block k (by omega)).trans (h.block k hk hn)⟩
theorem PrC.but {tb N ci base lb : Nat} {ai : Option Addr} {U : Nat → Int} {v : Value} {A A' : World} (h : PrC tb N ci base ai U v A) (hb : But lb A A') (ht : tb ≠ lb) (hl : lb < base) (hai : ∀ b o, ai = some ⟨b, o, none⟩ → 0 < N * 5 → b ≠ lb) : PrC tb N ci base ai U v A' := by
  obtain ⟨h1, h2, h3, h4⟩ := h
  refine ⟨fun h0 => ?_, (hb.cell (p := ⟨tb, 0, none⟩) (cell_lt h2) ht).trans h2, (hb.cell (p := ⟨tb, 1, none⟩) (cell_lt h3) ht).trans h3, ?_⟩
  · obtain ⟨b, o, e, hbl, hc⟩ := h1 h0
    exact ⟨b, o, e, Nat.lt_of_lt_of_le hbl hb.size, fun j hj => (hb.cell (p := ⟨b, o + j, none⟩) hbl (hai b o e h0)).trans (hc j hj)⟩
  · rcases h4 with q | ⟨q, m, D, hN, hr⟩
    · exact .inl q
    · exact .inr ⟨q, m, D, hN.keep (fun g hg => hb.block g (hN.lt g hg).2 (by have := (hN.lt g hg).1; omega)), hr⟩
end Go.Proofs.Ytbngdlbecdloiaa
namespace Go.Proofs.Ytbngdlbecdloiaa
open Go.RowKit
set_option linter.unusedVariables false
set_option linter.unusedSimpArgs false
section
attribute [local go_sem] Oper.semAt_some
set_option maxRecDepth 20000 in
set_option maxHeartbeats 1000000 in
theorem iBp_t (ai : Option Addr) (n ci : Nat) (U : Nat → Int) (w : World) (h : Flat w ai (n * 5) U) (hn : n ≤ 1048576) (k1 : broadB n U = true) :
    Calls Try.prog 20 #[.agg #[.slice ai n ci]] w fun e w' => ∃ (a' : Option Addr) (c' : Nat), e = .returned (.slice a' (bpL n U n).length c') ∧ OutL w w' 48 2 a' (bpL n U n).length c' (ofL (bpV U (bpL n U n))) := by
  have hset := cset_map
  have hn24 := broadB_n k1
  have fl : ∀ w', Below w.heap.size w w' → Flat w' ai (n * 5) U := fun w' hb => h.below hb
  refine calls_of_wp_marks Try.func20 rfl ?_
  simp only [Try.ntmps20, List.size_toArray, List.length_cons, List.length_nil, Nat.reduceAdd, Nat.reduceSub, Array.replicate_succ, Array.replicate_zero, List.push_toArray, List.append_toArray, List.nil_append, List.cons_append]
  go_upto_region 1 with fail
  go_cut [8] from 5 to 18 (fun s wd => s = .bool false ∧ Below w.heap.size w wd ∧ w.heap.size < wd.heap.size ∧ wd.cell? ⟨w.heap.size, 0, none⟩ = some (.slice ai n ci))
  case first =>
    have hb1 : Below w.heap.size w (w.alloc (.cells #[.slice ai n ci] 25)) := (Below.refl _ _).alloc (Nat.le_refl _) _
    have y0 : (w.alloc (.cells #[.slice ai n ci] 25)).cell? ⟨w.heap.size, 0, none⟩ = some (.slice ai n ci) := by go_simp
    go_wp2_with (go_at_call 13; refine (broadOk_q _ _ _ U _ _ (fl _ hb1) hn k1).mono ?_; rintro e w2 ⟨rfl, hb2⟩)
    go_meet
    exact ⟨rfl, hb1.trans (hb2.mono hb1.size), by have := hb2.size; simp at this; omega, keepc hb2 y0⟩
  case rest =>
  obtain ⟨rfl, hb1, hz1, y0⟩ := hcut
  go_upto_region 4 with fail
  go_cut [3, 4] from 5 to 18 (fun s t wd => ∃ lb tb v base, s = .pointer (some ⟨lb, 0, none⟩) ∧ t = .pointer (some ⟨tb, 0, none⟩) ∧ Below w.heap.size w wd ∧ w.heap.size ≤ lb ∧ lb < wd.heap.size ∧ lb < tb ∧ lb < base ∧ wd.cell? ⟨lb, 0, none⟩ = some (.slice none 0 0) ∧ wd.frozen? ⟨lb, 0, none⟩ = false ∧ wd.cell? ⟨tb, 0, none⟩ = some (.slice ai n ci) ∧ wd.cell? ⟨tb, 1, none⟩ = some v ∧ tb < wd.heap.size ∧ Tree wd base n U v)
  case first =>
    have hE1 : Below wc.heap.size wc (wc.alloc (.cells #[.slice none 0 0] 45)) := (Below.refl _ _).alloc (Nat.le_refl _) _
    have hb2 : Below w.heap.size w (wc.alloc (.cells #[.slice none 0 0] 45)) := hb1.trans (hE1.mono hb1.size)
    have l0 : (wc.alloc (.cells #[.slice none 0 0] 45)).cell? ⟨wc.heap.size, 0, none⟩ = some (.slice none 0 0) := by go_simp
    have l1 : (wc.alloc (.cells #[.slice none 0 0] 45)).frozen? ⟨wc.heap.size, 0, none⟩ = false := by go_simp
    have hz2 : (wc.alloc (.cells #[.slice none 0 0] 45)).heap.size = wc.heap.size + 1 := by simp
    go_wp2_with (go_at_call 46; refine (treeOf_any ai n ci U _ (fl _ hb2) hn24 (broadB_bd k1)).mono ?_; rintro e w4 ⟨v, rfl, hb4, hT4⟩; obtain ⟨gv, nv, cv, rfl⟩ : ∃ gv nv cv, v = .slice gv nv cv := (by rcases hT4 with ⟨_, q⟩ | ⟨_, m, D, hNL, _⟩; exact ⟨_, _, _, q⟩; rcases hNL.is with ⟨_, q⟩ | ⟨g, c0, q⟩; exact ⟨_, _, _, q⟩; exact ⟨_, _, _, q⟩))
    go_meet
    have hE : Below w4.heap.size w4 (w4.alloc (.cells #[.slice ai n ci, .slice gv nv cv] 77)) := (Below.refl _ _).alloc (Nat.le_refl _) _
    have hz4 := hb4.size
    have hbe := hb4.trans (hE.mono hb4.size)
    exact ⟨_, _, .slice gv nv cv, _, rfl, rfl, hb2.trans (hbe.mono hb2.size), by omega, by (simp only [World.size_alloc] at hz4 ⊢; omega), by (simp only [World.size_alloc] at hz4; omega), by (simp only [World.size_alloc]; omega), (hbe.cell (p := ⟨wc.heap.size, 0, none⟩) (by show wc.heap.size < _; omega)).trans l0, (hbe.frozen (p := ⟨wc.heap.size, 0, none⟩) (by show wc.heap.size < _; omega)).trans l1, by go_simp, by go_simp, by simp, hT4.below hE⟩
  case rest =>
  clear hb1 hz1 y0
  obtain ⟨lb, tb, v, base, rfl, rfl, hb1, hl1, hl2, hl3, hl4, l0, lf, t0, t1, ht, hT⟩ := hcut
  have hPC : ∀ A, But lb wc A → PrC tb n ci base ai U v A := fun A hA => PrC.but ⟨fl _ hb1, t0, t1, hT⟩ hA (by omega) hl4 (fun b o e h0 => by
    obtain ⟨b', o', e', hbl, _⟩ := h h0
    rw [e] at e'
    cases e'
    omega)
  have hit := pairs_it tb n ci base ai U v wc hn24
  have hz := hb1.size
  have hNN : (bpL n U n).length ≤ 576 := by
    have := bpL_len n U n
    have := Nat.mul_le_mul hn24 hn24
    omega
  go_wp2
  refine wp_range_outS (gf := 49) (bound := #[.pointer (some ⟨tb, 0, none⟩)]) rfl pairs_enters hit (fun H k args A hE => by obtain ⟨⟨i, j, _, rfl⟩, _⟩ := hE; rfl)
    (fun H k A => ∃ vv, Vs w A H (wc.heap.size + 2) lb 48 2 vv k (bpV U ((bpL n U n).take k)) ∧ But lb wc A) ?hI ?hIs ?hcol ?h0 ?round ?done
  case hI => rintro H H' k A B ⟨vv, h1, h2⟩ hk hg; exact ⟨vv, h1.kxs hk hg (by omega), h2.up hk.below (by omega)⟩
  case hIs => rintro H k A B ⟨vv, h1, h2⟩ hs; exact ⟨vv, h1.sm hs (by omega), h2.up hs.below (Nat.le_refl _)⟩
  case hcol => rintro H k A ⟨vv, h1, h2⟩; exact hPC A h2
  case h0 =>
    intro H W0 hb hz0 hH
    exact ⟨.slice none 0 0, ⟨hb1.trans (hb.mono hz), (hb.cell (p := ⟨lb, 0, none⟩) hl2).trans l0, (hb.frozen (p := ⟨lb, 0, none⟩) hl2).trans lf, OwnL.nil _ _ _ _ _, hl1, by omega, rfl, fun b hb => by cases hb⟩, But.of_below hb⟩
  case done =>
    rintro D H W hD ⟨vv, h1, h2⟩ hK
    obtain ⟨av, cv, rfl⟩ := h1.own.is
    have hbx := h1.box
    go_wp2
    refine marks_ret (B := wc.heap.size) hD rfl hK fun W' hS => ⟨.slice av (bpL n U n).length cv, ?_, av, cv, rfl, (h1.sm hS hz).bel, ?_⟩
    · simp [results, Try.results20, go_sem, *]
    · have ho := (h1.sm hS hz).own
      rw [List.take_length] at ho
      exact ho.base (by omega)
  case round =>
    rintro lr H k W args hlr1 hlr2 hWz ⟨vv, hV1, hBt⟩ hkk ⟨⟨i, j, hij, rfl⟩, hH⟩
    clear hit l0 lf t0 t1 hT hPC
    have hnext : bpV U ((bpL n U n).take (k + 1)) = bpV U ((bpL n U n).take k) ++ [U (i * 5), U (j * 5)] := by
      rw [List.take_add_one, hij, bpV_app]; rfl
    generalize (bpL n U n).take (k + 1) = l1 at hnext ⊢
    generalize (bpL n U n).take k = l0 at hnext hV1 ⊢
    simp only [List.zip_toArray, List.zip_cons_cons, List.zip_nil_left, List.foldl_toArray, List.foldl_cons, List.foldl_nil, List.setIfInBounds_toArray, List.set_cons_succ, List.set_cons_zero]
    refine wpIn_region_plain (by rintro ⟨_, _, h⟩; exact h) (by kernel_rfl) ?_
    go_wp2
    refine ⟨(KeepsOthers.alloc _ _).from _, fun W2 hS hKc hr => ?_⟩
    clear hr
    have hE1 : Below W.heap.size W (W.alloc (Obj.cells #[.int .i64 (U (i * 5)), .int .i64 (U (j * 5))] 48)) := (Below.refl _ _).alloc (Nat.le_refl _) _
    have q0 : (W.alloc (Obj.cells #[.int .i64 (U (i * 5)), .int .i64 (U (j * 5))] 48)).cell? ⟨W.heap.size, 0, none⟩ = some (.int .i64 (U (i * 5))) := by go_simp
    have q1 : (W.alloc (Obj.cells #[.int .i64 (U (i * 5)), .int .i64 (U (j * 5))] 48)).cell? ⟨W.heap.size, 1, none⟩ = some (.int .i64 (U (j * 5))) := by go_simp
    generalize (W.alloc (Obj.cells #[.int .i64 (U (i * 5)), .int .i64 (U (j * 5))] 48)) = W1 at hE1 q0 q1 hS hKc
    have hV2 := (hV1.on hE1).sm hS hz
    have hBt2 := (hBt.up hE1 (by omega)).up hS.below (Nat.le_refl _)
    have hKc2 : Kcs (wc.heap.size + 2) H W W2 := (Kcs.of_below hE1).trans (hKc _ _ hlr2)
    have hz2 : W.heap.size ≤ W2.heap.size := Nat.le_trans hE1.size hS.size
    have hz3 : wc.heap.size + 2 ≤ W2.heap.size := Nat.le_trans hWz hz2
    have p0 := hS.cell q0
    have p1 := hS.cell q1
    clear hS hE1 q0 q1 hKc hV1 hBt
    obtain ⟨av, cv, rfl⟩ := hV2.own.is
    have x0 := hV2.box
    generalize W.heap.size = pb at p0 p1 hH hz2 ⊢
    have hpl : pb < W2.heap.size := cell_lt (a := ⟨pb, 0, none⟩) p0
    have hlbl := hV2.lt
    have hH2 : ∀ b, H b → b < W2.heap.size := fun b e => Nat.lt_of_lt_of_le (hH b e) hz2
    have hE2 : Below W2.heap.size W2 (W2.alloc (Obj.cells #[.int .i64 (U (i * 5)), .int .i64 (U (j * 5))] 48)) := (Below.refl _ _).alloc (Nat.le_refl _) _
    have hxx : ∀ q, q < 2 → (W2.alloc (Obj.cells #[.int .i64 (U (i * 5)), .int .i64 (U (j * 5))] 48)).cell? ⟨W2.heap.size, q, none⟩ = some (.int .i64 (ofL [U (i * 5), U (j * 5)] q)) := fun q hq => by
      rcases (show q = 0 ∨ q = 1 by omega) with rfl | rfl <;> (simp only [ofL]; go_simp; (try rfl))
    refine wpIn_block ?_
    refine wpIn_region_plain (by rintro ⟨_, _, h⟩; exact h) (by kernel_rfl) ?_
    go_wp2_with (refine wpList_appx rfl _ _ _ rfl (wc.heap.size + 2) 48 2 16 zcPr2 Try.underlying45 infoPr2 rfl (by decide) (.slice av k cv) k (ofL (bpV U l0)) rfl (hV2.own.below hE2) W2.heap.size (ofL [U (i * 5), U (j * 5)]) rfl hxx (by unfold maxLen; omega) (by omega) (by simp only [World.size_alloc]; omega) ?_; intro g7 c7 w7 ho7 hg7 hgg; obtain ⟨⟨n0, nf⟩, hV5, hF5⟩ := hV2.push hE2 (by omega) hH2 rfl ho7 hg7 hgg)
    exact ⟨hF5.keeps _, ⟨_, by rw [hnext]; exact hV5, hBt2.trans' hV2.own (by omega) hF5⟩, hKc2.trans (Kcs.fr hF5 (fun b e => e.elim (fun e => .inl (by omega)) (fun e => .inr (hV2.out b e))))⟩
end
end Go.Proofs.Ytbngdlbecdloiaa
