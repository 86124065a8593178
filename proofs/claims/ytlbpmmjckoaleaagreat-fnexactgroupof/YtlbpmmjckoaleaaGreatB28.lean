/- Texts of a proof. -/
import Derived.Test.YtlbpmmjckoaleaaGreatB12
import Derived.Test.YtlbpmmjckoaleaaGreatB2
import Derived.Test.YtlbpmmjckoaleaaGreatB3
import Derived.Deep.AppendLies
import Derived.Laws.OwnMore
import Derived.Test.YtlbpmmjckoaleaaGreatB22
import Derived.Deep.RegionHeld3
import Derived.Deep.DeepCutAuto
import Derived.Test.YtlbpmmjckoaleaaGreatB7
import Derived.Test.YtlbpmmjckoaleaaGreatB24
import Derived.Test.YtlbpmmjckoaleaaGreatB6
set_option maxHeartbeats 16000000
set_option maxRecDepth 20000
namespace Go.Proofs.YtlbpmmjckoaleaaGreat
open Go.RowKit
set_option linter.unusedVariables false
set_option linter.unusedSimpArgs false
structure LsV (w wr : World) (t k : Nat) (a : Option Addr) (m c : Nat) (l : List Int) : Prop where
  bel : Below w.heap.size w wr
  len : l.length = m * k
  own : OwnL wr w.heap.size t k (.slice a m c) m (ofL l)
theorem LsV.below {w wr w' : World} {t k m c : Nat} {a : Option Addr} {l : List Int} (h : LsV w wr t k a m c l) (hb : Below wr.heap.size wr w') : LsV w w' t k a m c l := ⟨h.bel.trans (hb.mono h.bel.size), h.len, h.own.below hb⟩
theorem LsV.push {w wr w1 : World} {t k m c c' : Nat} {a a' : Option Addr} {l x : List Int} (h : LsV w wr t k a m c l) (hx : x.length = k) (hg : wr.grownBy w1 (Value.slice a m c).ownBlock) (ho : OwnL w1 w.heap.size t k (.slice a' (m + 1) c') (m + 1) (cat (m * k) (ofL l) (ofL x))) : LsV w w1 t k a' (m + 1) c' (l ++ x) :=
  ⟨h.bel.grown hg h.bel.size (fun b e => (h.own.lt b e).1), by rw [List.length_append, h.len, hx, Nat.succ_mul], by rw [← cat_ofL, h.len]; exact ho⟩
theorem LsV.new (w : World) (t k : Nat) : LsV w (w.alloc (.cells #[] t)) t k (some ⟨w.heap.size, 0, none⟩) 0 0 [] :=
  ⟨(Below.refl _ _).alloc (Nat.le_refl _) _, by simp, ⟨by simp [numL], .inr ⟨w.heap.size, 0, #[], rfl, Nat.le_refl _, Go.Deep.blk_alloc_new _ _, Nat.le_refl _, Nat.zero_le _, by simp, by simp [numL]⟩⟩⟩
theorem LsV.nil (w : World) (t k : Nat) : LsV w w t k none 0 0 [] := ⟨Below.refl _ _, by simp, OwnL.nil _ _ _ _ _⟩
theorem LsV.out {w0 w wr : World} {t k m c : Nat} {a : Option Addr} {l : List Int} (h : LsV w wr t k a m c l) (hb : Below w0.heap.size w0 w) : OutL w0 wr t k a m c (ofL l) := ⟨hb.trans (h.bel.mono hb.size), h.own.base hb.size⟩
structure Nb (w : World) (b k : Nat) (V : Nat → Int) : Prop where
  c : ∀ j, j < k → w.cell? ⟨b, j, none⟩ = some (.int .i64 (V j))
  f : ∀ o, w.frozen? ⟨b, o, none⟩ = false
  l : b < w.heap.size
theorem Nb.on {w w' : World} {b k : Nat} {V : Nat → Int} (h : Nb w b k V) (hb : Below w.heap.size w w') : Nb w' b k V :=
  ⟨fun j hj => (hb.cell (p := ⟨b, j, none⟩) h.l).trans (h.c j hj), fun o => (hb.frozen (p := ⟨b, o, none⟩) h.l).trans (h.f o), Nat.lt_of_lt_of_le h.l hb.size⟩
theorem Nb.fr {w w' : World} {b k : Nat} {V : Nat → Int} {X : Nat → Prop} (h : Nb w b k V) (hs : Fr X w w') (hx : ¬ X b) : Nb w' b k V :=
  ⟨fun j hj => (hs.cell (p := ⟨b, j, none⟩) h.l hx).trans (h.c j hj), fun o => (hs.frozen (p := ⟨b, o, none⟩) h.l hx).trans (h.f o), Nat.lt_of_lt_of_le h.l hs.size⟩
theorem Nb.dr {w : World} {b k : Nat} {V : Nat → Int} (h : Nb w b k V) : Nb w.drew b k V := ⟨fun j hj => h.c j hj, fun o => h.f o, h.l⟩
theorem Nb.congr {w : World} {b k : Nat} {V W : Nat → Int} (h : Nb w b k V) (e : ∀ j, j < k → V j = W j) : Nb w b k W := ⟨fun j hj => by rw [← e j hj]; exact h.c j hj, h.f, h.l⟩
theorem Nb.set {w : World} {b k : Nat} {V : Nat → Int} (h : Nb w b k V) (j : Nat) (hj : j < k) (x : Int) : Nb (w.setCell ⟨b, j, none⟩ (.int .i64 x)) b k (fun i => if i = j then x else V i) := by
  have h1 := h.c j hj
  refine ⟨fun i hi => ?_, fun o => ?_, by simp; exact h.l⟩
  · by_cases e : i = j
    · subst e; rw [if_pos rfl]; exact World.cell?_setCell_same _ _ _ h1
    · rw [if_neg e, World.cell?_setCell_other _ _ _ _ (by intro h; simp only [Addr.mk.injEq] at h; omega)]; exact h.c i hi
  · have := h.f o; simp [this]
structure LV (w wr : World) (t g cap n : Nat) (xs : List Value) : Prop where
  bel : Below w.heap.size w wr
  len : xs.length = n
  own : wr.ownsRow w.heap.size t 1 (.slice (some ⟨g, 0, none⟩) n cap) n xs
theorem LV.new {w wr : World} (t : Nat) (h : Below w.heap.size w wr) {s : Nat} (e : wr.heap.size = s) : LV w (wr.alloc (.cells #[] t)) t s 0 0 [] := by
  subst e
  exact ⟨h.alloc h.size _, rfl, ⟨rfl, .inr ⟨wr.heap.size, 0, #[], rfl, h.size, Go.Deep.blk_alloc_new _ _, Nat.le_refl _, Nat.zero_le _, by simp, by simp⟩⟩⟩
theorem LV.lt {w wr : World} {t g cap n : Nat} {xs : List Value} (h : LV w wr t g cap n xs) : w.heap.size ≤ g ∧ g < wr.heap.size := World.ownsRow.lt h.own g rfl
theorem LV.fro {w wr : World} {t g cap n : Nat} {xs : List Value} (h : LV w wr t g cap n xs) (j : Nat) : wr.frozen? ⟨g, j, none⟩ = false := World.ownsRow.frozenAt h.own j
theorem LV.cell {w wr : World} {t g cap n : Nat} {xs : List Value} (h : LV w wr t g cap n xs) {j : Nat} {u : Value} (hu : xs[j]? = some u) : wr.cell? ⟨g, j, none⟩ = some u := by
  have hj : j < n := by rw [← h.len]; exact (List.getElem?_eq_some_iff.1 hu).1
  rw [World.ownsRow.cellAt h.own j (by omega), hu]
theorem LV.on {w wr w' : World} {t g cap n : Nat} {xs : List Value} (h : LV w wr t g cap n xs) (hb : Below wr.heap.size wr w') : LV w w' t g cap n xs :=
  ⟨h.bel.trans (hb.mono h.bel.size), h.len, World.ownsRow.kept h.own (below_grown hb rfl) (.inr (by simp [Value.ownBlock]))⟩
theorem LV.dr {w wr : World} {t g cap n : Nat} {xs : List Value} (h : LV w wr t g cap n xs) : LV w wr.drew t g cap n xs := h.on (Below.drew (Below.refl _ _))
theorem LV.set {w wr : World} {t g cap n : Nat} {xs : List Value} (h : LV w wr t g cap n xs) (j : Nat) (u : Value) : LV w (wr.setCell ⟨g, j, none⟩ u) t g cap n (xs.set j u) :=
  ⟨h.bel.setCell h.lt.1 _, by rw [List.length_set]; exact h.len, (World.ownsRow.stored h.own j u).1⟩
theorem LV.ne {w wr : World} {t g cap n : Nat} {xs : List Value} (h : LV w wr t g cap n xs) {b : Nat} (hb : w.heap.size ≤ b) (hn : b ≠ g) (j : Nat) (u : Value) : LV w (wr.setCell ⟨b, j, none⟩ u) t g cap n xs :=
  ⟨h.bel.setCell hb _, h.len, World.ownsRow.kept h.own (row := some b) (by
    have hs := Fr.setCell (X := fun k => k = b) (w := wr) (p := ⟨b, j, none⟩) rfl u
    exact ⟨hs.os, hs.tape, hs.output, hs.size, fun k hk hne => hs.block k hk (fun e => hne (by rw [e]))⟩) (.inr (by simp [Value.ownBlock]; exact fun e => hn e.symm))⟩
theorem LV.kept {w wr w' : World} {t g cap n row : Nat} {xs : List Value} (h : LV w wr t g cap n xs) (hg : wr.grownBy w' (some row)) (hb : w.heap.size ≤ row) (hn : row ≠ g) : LV w w' t g cap n xs :=
  ⟨h.bel.grown hg h.bel.size (fun b e => by cases e; exact hb), h.len, World.ownsRow.kept h.own hg (.inr (by simp [Value.ownBlock]; exact fun e => hn e.symm))⟩
theorem wpList_push {P : Program} {ops : Array Oper} {rest : List Oper} {o : Oper} {a : Act} {Q : Exit → Act → World → Prop} {w wr wx : World} (hgd : o.guard = none) (s x : Operand) (t : TypeId)
    (ho : o.op = .call { callee := .builtin .append, args := #[s, x], argTypes := #[t, t] })
    (e bytes : Nat) (z : Value) (ht : P.underlying t = some (.slice e)) (hinfo : (P.info? e).map (fun i => (i.zero, i.size, i.bytes)) = some (some z, 1, bytes)) (hzs : z.cells.size = 1) (hby : bytes ≤ 8)
    (g cap n : Nat) (xs : List Value) (hs : a.eval s = .slice (some ⟨g, 0, none⟩) n cap) (h : LV w wr e g cap n xs) (hb : Below wr.heap.size wr wx) (b : Nat) (hx : a.eval x = .slice (some ⟨b, 0, none⟩) 1 1) (u : Value) (hu : wx.cell? ⟨b, 0, none⟩ = some u) (h1 : u.oneCell' = true)
    (hn : n ≤ 1048576) (hK : ∀ g' cap' w', LV w w' e g' cap' (n + 1) (xs ++ [u]) → wx.grownBy w' (some g) → (g' = g ∨ g' = wx.heap.size) → wpList P ops Q rest (a.put o.dst (.slice (some ⟨g', 0, none⟩) (n + 1) cap')) w') : wpList P ops Q (o :: rest) a wx := by
  obtain ⟨i, hi, hzz⟩ := Option.map_eq_some_iff.1 hinfo
  simp only [Prod.mk.injEq] at hzz
  obtain ⟨hz, hsz, hb8⟩ := hzz
  have hw := h.on hb
  refine wpList_append_lies wx hgd s x t ho w.heap.size e i z 1 bytes ht hi hz hsz hb8 hzs (by decide) (.slice (some ⟨g, 0, none⟩) n cap) n xs hs hw.own ⟨b, 0, none⟩ 1 1 [u] hx rfl ?_ ?_ (by decide) (by unfold maxLen; omega) ?_ hw.bel.size _ rfl ?_
  · intro j v hv
    cases j with
    | zero => simp at hv; subst hv; exact hu
    | succ j => simp at hv
  · intro v hv; simp at hv; rw [hv]; exact h1
  · have : (n + 1) * bytes ≤ (n + 1) * 8 := Nat.mul_le_mul_left _ hby
    omega
  · intro g' cap' w' r1 r2 r3 r4
    refine hK g' cap' w' ⟨hw.bel.grown r2 hw.bel.size (fun b e => by cases e; exact hw.lt.1), by rw [List.length_append, hw.len]; rfl, r1⟩ r2 ?_
    rcases r3 with r3 | r3
    · simp [Value.ownBlock] at r3; exact .inl r3.symm
    · exact .inr r3
def IV (l : List Int) : List Value := l.map (Value.int .i64)
theorem IV_app (l : List Int) (x : Int) : IV l ++ [.int .i64 x] = IV (l ++ [x]) := by unfold IV; rw [List.map_append]; rfl
theorem IV_set (l : List Int) (j : Nat) (x : Int) : (IV l).set j (.int .i64 x) = IV (l.set j x) := by unfold IV; rw [List.map_set]
theorem IV_len (l : List Int) : (IV l).length = l.length := by unfold IV; rw [List.length_map]
theorem IV_get {l : List Int} {j : Nat} (h : j < l.length) : (IV l)[j]? = some (.int .i64 (ofL l j)) := by
  unfold IV ofL
  rw [List.getElem?_map, List.getElem?_eq_getElem h, List.getD_eq_getElem?_getD, List.getElem?_eq_getElem h]
  rfl
theorem LV.flat {w wr : World} {t g cap n : Nat} {l : List Int} (h : LV w wr t g cap n (IV l)) : Flat wr (some ⟨g, 0, none⟩) (n * 1) (ofL l) := by
  intro h0
  refine ⟨g, 0, rfl, h.lt.2, fun j hj => ?_⟩
  rw [Nat.zero_add]
  have hl := h.len
  rw [IV_len] at hl
  exact h.cell (IV_get (by omega))
theorem LV.ic {w wr : World} {t g cap n : Nat} {l : List Int} (h : LV w wr t g cap n (IV l)) {j : Nat} (hj : j < n) : wr.cell? ⟨g, j, none⟩ = some (.int .i64 (ofL l j)) := by
  have hl := h.len
  rw [IV_len] at hl
  exact h.cell (IV_get (by omega))
abbrev zcInt : Value := .int .i64 0
theorem infoInt : (Tryz.prog.info? 3).map (fun i => (i.zero, i.size, i.bytes)) = some (some zcInt, 1, 8) := by kernel_rfl
def atOf (F : List Int) (x : Int) : Nat → Int
  | 0 => -1
  | k + 1 => if ofL F k = x then (k : Int) else atOf F x k
def numS (U G : Nat → Int) : Nat → List Int × List Int
  | 0 => ([], [])
  | i + 1 =>
    bif decide (U (i * 12 + 8) = 0) then ((numS U G i).1 ++ [-1], (numS U G i).2)
    else bif decide (atOf (numS U G i).2 (G i) (numS U G i).2.length < 0) then ((numS U G i).1 ++ [((numS U G i).2.length : Int)], (numS U G i).2 ++ [G i])
    else ((numS U G i).1 ++ [atOf (numS U G i).2 (G i) (numS U G i).2.length], (numS U G i).2)
theorem numS_z {U G : Nat → Int} {i : Nat} (h : U (i * 12 + 8) = 0) : numS U G (i + 1) = ((numS U G i).1 ++ [-1], (numS U G i).2) := by rw [numS, decide_eq_true h]; rfl
theorem numS_n {U G : Nat → Int} {i : Nat} (h : ¬ U (i * 12 + 8) = 0) (h2 : atOf (numS U G i).2 (G i) (numS U G i).2.length < 0) : numS U G (i + 1) = ((numS U G i).1 ++ [((numS U G i).2.length : Int)], (numS U G i).2 ++ [G i]) := by rw [numS, decide_eq_false h, decide_eq_true h2]; rfl
theorem numS_o {U G : Nat → Int} {i : Nat} (h : ¬ U (i * 12 + 8) = 0) (h2 : ¬ atOf (numS U G i).2 (G i) (numS U G i).2.length < 0) : numS U G (i + 1) = ((numS U G i).1 ++ [atOf (numS U G i).2 (G i) (numS U G i).2.length], (numS U G i).2) := by rw [numS, decide_eq_false h, decide_eq_false h2]; rfl
theorem numS_len (U G : Nat → Int) : ∀ i, (numS U G i).1.length = i ∧ (numS U G i).2.length ≤ i
  | 0 => ⟨rfl, Nat.le_refl _⟩
  | i + 1 => by
    obtain ⟨h1, h2⟩ := numS_len U G i
    by_cases h : U (i * 12 + 8) = 0
    · rw [numS_z h]; exact ⟨by rw [List.length_append, h1]; rfl, by show (numS U G i).2.length ≤ _; omega⟩
    · by_cases k : atOf (numS U G i).2 (G i) (numS U G i).2.length < 0
      · rw [numS_n h k]; exact ⟨by rw [List.length_append, h1]; rfl, by rw [List.length_append]; simp; omega⟩
      · rw [numS_o h k]; exact ⟨by rw [List.length_append, h1]; rfl, by show (numS U G i).2.length ≤ _; omega⟩
theorem l7Number_any (a : Option Addr) (n c : Nat) (U : Nat → Int) (ag : Option Addr) (cg : Nat) (G : Nat → Int) (w : World) (h : Flat w a (n * 12) U) (hn : n ≤ 1000) (hG2 : Flat w ag (n * 1) G) :
    Calls Tryz.prog 37 #[.slice a n c, .slice ag n cg] w fun e w' => ∃ g1 c1, e = .returned (.slice (some ⟨g1, 0, none⟩) n c1) ∧ LV w w' 3 g1 c1 n (IV (numS U G n).1) := by
  have hset := cset_map
  have ha : Below w.heap.size w (w.alloc (.cells #[] 3)) := (Below.refl _ _).alloc (Nat.le_refl _) _
  have L1 := LV.new (w := w) 3 (Below.refl _ w) rfl
  have L2 := LV.new (w := w) 3 ha (s := w.heap.size + 1) (by simp)
  have L1' := L1.on ((Below.refl _ _).alloc (Nat.le_refl _) (.cells #[] 3))
  go_enter Tryz.func37, Tryz.ntmps37
  go_upto_region 4 with fail
  go_loopw [5, 6, 7, 8, 9] (fun s5 s6 s7 _ _ wr => ∃ (i g1 c1 g2 c2 : Nat), i ≤ n ∧ s7 = .int .i64 (i : Int) ∧ s5 = .slice (some ⟨g1, 0, none⟩) i c1 ∧ s6 = .slice (some ⟨g2, 0, none⟩) (numS U G i).2.length c2 ∧ LV w wr 3 g1 c1 i (IV (numS U G i).1) ∧ LV w wr 3 g2 c2 (numS U G i).2.length (IV (numS U G i).2) ∧ g1 ≠ g2) (fun _ _ s7 _ _ _ => n - (intOf s7).toNat)
  case atStart => exact ⟨0, _, _, _, _, Nat.zero_le _, rfl, rfl, rfl, L1', L2, by omega⟩
  case round =>
    clear L1 L2 L1' ha
    obtain ⟨i, g1, c1, g2, c2, hi, rfl, rfl, rfl, H1, H2, hne⟩ := hrel
    obtain ⟨_, hfl⟩ := numS_len U G i
    by_cases hlt : i < n
    · have hin : (i : Int) < (n : Int) := by omega
      obtain ⟨b0, o0, e0, hbl0, hc0⟩ := (h.below H1.bel) (by omega)
      have r8 := hc0 (i * 12 + 8) (by omega)
      simp only [← Nat.add_assoc] at r8
      obtain ⟨b2, o2, e2, hbl2, hc2⟩ := (hG2.below H1.bel) (by omega)
      have rG := hc2 i (by omega)
      subst e0 e2
      by_cases hm : U (i * 12 + 8) = 0
      · have HZ : Shut (numS U G (i + 1) = ((numS U G i).1 ++ [-1], (numS U G i).2)) := numS_z hm
        have em : (U (i * 12 + 8) == 0) = true := by simp [hm]
        clear hm
        have hE : Below wr.heap.size wr (wr.alloc (Obj.cells #[.int .i64 (-1)] 3)) := (Below.refl _ _).alloc (Nat.le_refl _) _
        have hcE : (wr.alloc (Obj.cells #[.int .i64 (-1)] 3)).cell? ⟨wr.heap.size, 0, none⟩ = some (.int .i64 (-1)) := by go_simp
        have H2E := H2.on hE
        go_wp2_with (refine wpList_push rfl _ _ _ rfl 3 8 zcInt Tryz.underlying24 infoInt rfl (by decide) g1 c1 i (IV (numS U G i).1) rfl H1 hE wr.heap.size rfl (.int .i64 (-1)) hcE rfl (by omega) ?_; intro g5 c5 w5 hp5 hg5 hl5)
        have K2 := H2E.kept hg5 H1.lt.1 hne
        go_roundw
        case rel =>
          refine ⟨i + 1, g5, c5, g2, c2, by omega, by go_num, rfl, by rw [HZ.out], ?_⟩
          rw [HZ.out]
          exact ⟨by rw [← IV_app]; exact hp5, K2, by have := H2.lt; have := H1.lt; simp at hl5; omega⟩
        case measure => simp [intOf]; omega
      · have em : (U (i * 12 + 8) == 0) = false := by simp [hm]
        obtain ⟨F, hF⟩ : ∃ F, (numS U G i).2 = F := ⟨_, rfl⟩
        obtain ⟨O, hOO⟩ : ∃ O, (numS U G i).1 = O := ⟨_, rfl⟩
        obtain ⟨nf, hnf⟩ : ∃ nf, F.length = nf := ⟨_, rfl⟩
        have HN := @numS_n U G i hm
        have HO := @numS_o U G i hm
        rw [hF, hOO, hnf] at HN HO
        rw [hF, hnf] at hfl
        rw [hOO] at H1
        rw [hF, hnf] at H2 ⊢
        have HN := HN
        have HO := HO
        clear hm
        go_upto_region 10 with fail
        go_loopw [8, 9] (fun s8 s9 wq => ∃ k : Nat, k ≤ nf ∧ s9 = .int .i64 (k : Int) ∧ s8 = .int .i64 (atOf F (G i) k) ∧ LV w wq 3 g1 c1 i (IV O) ∧ LV w wq 3 g2 c2 nf (IV F)) (fun _ s9 _ => nf - (intOf s9).toNat)
        case atStart => exact ⟨0, Nat.zero_le _, rfl, rfl, H1, H2⟩
        case round =>
          clear H1 H2 r8 rG hc0 hc2
          obtain ⟨k, hk, rfl, rfl, H1, H2⟩ := hrel
          obtain ⟨b2', o2', e2', hbl2', hc2'⟩ := (hG2.below H1.bel) (by omega)
          have rG := hc2' i (by omega)
          cases e2'
          by_cases hkl : k < nf
          · have hkn : (k : Int) < (nf : Int) := by omega
            have rF := H2.ic hkl
            have HAT : Shut (atOf F (G i) (k + 1) = if ofL F k = G i then (k : Int) else atOf F (G i) k) := by show _ = _; rw [atOf]
            by_cases e : ofL F k = G i
            · have e5 : (ofL F k == G i) = true := by simp [e]
              rw [if_pos e] at HAT
              clear e
              go_upto_region 12 with fail
              refine wp_region_held_drew (S := fun w' => w'.cell? ⟨g2, k, none⟩ = some (.int .i64 (ofL F k)) ∧ w'.cell? ⟨b2, o2 + i, none⟩ = some (.int .i64 (G i))) (by kernel_rfl) ?_ (fun hHeld => ?_)
              · (try dsimp only)
                (first | (go_simp; done) | (go_keep; done))
              refine tq 0 hHeld ?_
              refine tq 1 hHeld ?_
              refine tq 2 hHeld ?_
              refine tq 3 hHeld ?_
              refine tq 4 hHeld ?_
              refine tq 5 hHeld ?_
              refine tq 6 hHeld ?_
              refine tq 7 hHeld ?_
              refine tq 8 hHeld ?_
              refine wpAnyH_done (by kernel_rfl) ?_ _
              go_wp2_with fail
              go_roundw
              case rel => exact ⟨k + 1, by omega, by go_num, by rw [HAT.out], H1.dr, H2.dr⟩
              case measure => simp [intOf]; omega
            · have e5 : (ofL F k == G i) = false := by simp [e]
              rw [if_neg e] at HAT
              clear e
              go_upto_region 12 with fail
              refine wp_region_held_drew (S := fun w' => w'.cell? ⟨g2, k, none⟩ = some (.int .i64 (ofL F k)) ∧ w'.cell? ⟨b2, o2 + i, none⟩ = some (.int .i64 (G i))) (by kernel_rfl) ?_ (fun hHeld => ?_)
              · (try dsimp only)
                (first | (go_simp; done) | (go_keep; done))
              refine tq 0 hHeld ?_
              refine tq 1 hHeld ?_
              refine tq 2 hHeld ?_
              refine tq 3 hHeld ?_
              refine tq 4 hHeld ?_
              refine tq 5 hHeld ?_
              refine tq 6 hHeld ?_
              refine tq 7 hHeld ?_
              refine tq 8 hHeld ?_
              refine wpAnyH_done (by kernel_rfl) ?_ _
              go_wp2_with fail
              go_roundw
              case rel => exact ⟨k + 1, by omega, by go_num, by rw [HAT.out], H1.dr, H2.dr⟩
              case measure => simp [intOf]; omega
          · obtain rfl : k = nf := by omega
            obtain ⟨z, hz⟩ : ∃ z, atOf F (G i) k = z := ⟨_, rfl⟩
            rw [hz] at HN HO
            rw [hz]
            by_cases hzn : z < 0
            · have HN' : Shut (numS U G (i + 1) = (O ++ [(k : Int)], F ++ [G i])) := HN hzn
              have hE : Below wr.heap.size wr (wr.alloc (Obj.cells #[.int .i64 (G i)] 3)) := (Below.refl _ _).alloc (Nat.le_refl _) _
              have hcE : (wr.alloc (Obj.cells #[.int .i64 (G i)] 3)).cell? ⟨wr.heap.size, 0, none⟩ = some (.int .i64 (G i)) := by go_simp
              have H1E := H1.on hE
              have hlt1 := H1.lt
              have hlt2 := H2.lt
              go_upto_region 17 with (refine wpList_push rfl _ _ _ rfl 3 8 zcInt Tryz.underlying24 infoInt rfl (by decide) g2 c2 k (IV F) rfl H2 hE wr.heap.size rfl (.int .i64 (G i)) hcE rfl (by omega) ?_; intro g5 c5 w5 hp5 hg5 hl5)
              have K1 := H1E.kept hg5 H2.lt.1 (fun e => hne e.symm)
              have hE6 : Below w5.heap.size w5 (w5.alloc (Obj.cells #[.int .i64 (k : Int)] 3)) := (Below.refl _ _).alloc (Nat.le_refl _) _
              have hcE6 : (w5.alloc (Obj.cells #[.int .i64 (k : Int)] 3)).cell? ⟨w5.heap.size, 0, none⟩ = some (.int .i64 (k : Int)) := by go_simp
              have hne5 : g1 ≠ g5 := by simp at hl5; omega
              have hlt5 := hp5.lt
              have H5E := hp5.on hE6
              clear hE hcE H1E hg5 hl5
              go_wp2_with (refine wpList_push rfl _ _ _ rfl 3 8 zcInt Tryz.underlying24 infoInt rfl (by decide) g1 c1 i (IV O) rfl K1 hE6 w5.heap.size rfl (.int .i64 (k : Int)) hcE6 rfl (by omega) ?_; intro g6 c6 w6 hp6 hg6 hl6)
              have K5 := H5E.kept hg6 K1.lt.1 hne5
              go_roundw
              case rel =>
                refine ⟨i + 1, g6, c6, g5, c5, by omega, by go_num, rfl, by rw [HN'.out]; simp [hnf], ?_⟩
                rw [HN'.out]
                exact ⟨by rw [← IV_app]; exact hp6, by rw [← IV_app, List.length_append, hnf]; exact K5, by have := K5.lt; have := K1.lt; simp at hl6; omega⟩
              case measure => simp [intOf]; omega
            · have HO' : Shut (numS U G (i + 1) = (O ++ [z], F)) := HO (by omega)
              have hE6 : Below wr.heap.size wr (wr.alloc (Obj.cells #[.int .i64 z] 3)) := (Below.refl _ _).alloc (Nat.le_refl _) _
              have hcE6 : (wr.alloc (Obj.cells #[.int .i64 z] 3)).cell? ⟨wr.heap.size, 0, none⟩ = some (.int .i64 z) := by go_simp
              have H2E := H2.on hE6
              go_wp2_with (refine wpList_push rfl _ _ _ rfl 3 8 zcInt Tryz.underlying24 infoInt rfl (by decide) g1 c1 i (IV O) rfl H1 hE6 wr.heap.size rfl (.int .i64 z) hcE6 rfl (by omega) ?_; intro g6 c6 w6 hp6 hg6 hl6)
              have K2 := H2E.kept hg6 H1.lt.1 hne
              go_roundw
              case rel =>
                refine ⟨i + 1, g6, c6, g2, c2, by omega, by go_num, rfl, by rw [HO'.out]; simp [hnf], ?_⟩
                rw [HO'.out]
                exact ⟨by rw [← IV_app]; exact hp6, by rw [hnf]; exact K2, by have := H2.lt; have := H1.lt; simp at hl6; omega⟩
              case measure => simp [intOf]; omega
    · obtain rfl : i = n := by omega
      go_wp2_with fail
      go_ret
      exact ⟨_, _, rfl, H1⟩
def hitB (x y k : Int) : Bool := inB 256 x y && decide (0 ≤ k ∧ k ≤ 102400)
def closeV (V1 V2 : Nat → Int) (x y : Int) : Int := fc (((spX V1 - spX V2) * x + (spY V1 - spY V2) * y).tdiv 256)
def clV (V1 V2 : Nat → Int) (x y k : Int) : Int := if (bodyB V1 && (bodyB V2 && hitB x y k)) = true then closeV V1 V2 x y else 0
def togV (V1 V2 : Nat → Int) (n : Int) : Int := if V1 8 = 0 ∨ V2 8 = 0 then n * (V1 8 + V2 8) else (n * V1 8 * V2 8).tdiv (V1 8 + V2 8)
theorem l3Less_q (x y b : Int) (w : World) (e : (if y < x then y else x) = b) : Calls Tryz.prog 36 #[.int .i64 x, .int .i64 y] w fun e w' => e = .returned (.int .i64 b) ∧ w' = w := by
  subst e; exact l3Less_any x y w
end Go.Proofs.YtlbpmmjckoaleaaGreat
