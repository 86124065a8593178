/- Texts of a proof. -/
import Derived.Test.YthijeiehcdoidaaGreatB14
import Derived.Test.YthijeiehcdoidaaGreatB7
import Derived.Deep.AppendLies
import Derived.Laws.OwnMore
import Derived.Test.YthijeiehcdoidaaGreatB11
import Derived.Deep.RegionHeld3
import Derived.Deep.DeepCutAuto
import Derived.Test.YthijeiehcdoidaaGreatB19
import Derived.Test.YthijeiehcdoidaaGreatB17
import Derived.OrdersHeld
import Derived.Test.YthijeiehcdoidaaGreatB3
import Derived.Test.YthijeiehcdoidaaGreatB6
import Derived.Deep.QuietTactic
import Derived.BigQuiet
import Derived.Deep.RegionWith
set_option maxHeartbeats 16000000
set_option maxRecDepth 20000
namespace Go.Proofs.YthijeiehcdoidaaGreat
open Go.RowKit
set_option linter.unusedVariables false
set_option linter.unusedSimpArgs false
structure LV (w wr : World) (t g cap n : Nat) (xs : List Value) : Prop where
 bel : Below w.heap.size w wr
 len : xs.length = n
 own : wr.ownsRow w.heap.size t 1 (.slice (some ⟨g, 0, none⟩) n cap) n xs
theorem LV.new {w wr : World} (t : Nat) (h : Below w.heap.size w wr) {s : Nat} (e : wr.heap.size = s) : LV w (wr.alloc (.cells #[] t)) t s 0 0 [] := by
 subst e
 exact ⟨h.alloc h.size _, rfl, ⟨rfl, .inr ⟨wr.heap.size, 0, #[], rfl, h.size, Go.Deep.blk_alloc_new _ _, Nat.le_refl _, Nat.zero_le _, by simp, by simp⟩⟩⟩
theorem LV.lt {w wr : World} {t g cap n : Nat} {xs : List Value} (h : LV w wr t g cap n xs) : w.heap.size ≤ g ∧ g < wr.heap.size := World.ownsRow.lt h.own g rfl
theorem LV.fro {w wr : World} {t g cap n : Nat} {xs : List Value} (h : LV w wr t g cap n xs) (j : Nat) : wr.frozen? ⟨g, j, none⟩ = false := World.ownsRow.frozenAt h.own j
theorem LV.cell {w wr : World} {t g cap n : Nat} {xs : List Value} (h : LV w wr t g cap n xs) {j : Nat} {u : Value} (hu : xs[j]? = some u) : wr.cell? ⟨g, j, none⟩ = some u := by
 have hj : j < n := by rw [← h.len]; exact (List.getElem?_eq_some_iff.1 hu).1
 rw [World.ownsRow.cellAt h.own j (by omega), hu]
theorem LV.on {w wr w' : World} {t g cap n : Nat} {xs : List Value} (h : LV w wr t g cap n xs) (hb : Below wr.heap.size wr w') : LV w w' t g cap n xs :=
 ⟨h.bel.trans (hb.mono h.bel.size), h.len, World.ownsRow.kept h.own (below_grown hb rfl) (.inr (by simp [Value.ownBlock]))⟩
theorem LV.dr {w wr : World} {t g cap n : Nat} {xs : List Value} (h : LV w wr t g cap n xs) : LV w wr.drew t g cap n xs := h.on (Below.drew (Below.refl _ _))
theorem LV.set {w wr : World} {t g cap n : Nat} {xs : List Value} (h : LV w wr t g cap n xs) (j : Nat) (u : Value) : LV w (wr.setCell ⟨g, j, none⟩ u) t g cap n (xs.set j u) :=
 ⟨h.bel.setCell h.lt.1 _, by rw [List.length_set]; exact h.len, (World.ownsRow.stored h.own j u).1⟩
theorem LV.ne {w wr : World} {t g cap n : Nat} {xs : List Value} (h : LV w wr t g cap n xs) {b : Nat} (hb : w.heap.size ≤ b) (hn : b ≠ g) (j : Nat) (u : Value) : LV w (wr.setCell ⟨b, j, none⟩ u) t g cap n xs :=
 ⟨h.bel.setCell hb _, h.len, World.ownsRow.kept h.own (row := some b) (by
  have hs := Fr.setCell (X := fun k => k = b) (w := wr) (p := ⟨b, j, none⟩) rfl u
  exact ⟨hs.os, hs.tape, hs.output, hs.size, fun k hk hne => hs.block k hk (fun e => hne (by rw [e]))⟩) (.inr (by simp [Value.ownBlock]; exact fun e => hn e.symm))⟩
theorem LV.kept {w wr w' : World} {t g cap n row : Nat} {xs : List Value} (h : LV w wr t g cap n xs) (hg : wr.grownBy w' (some row)) (hb : w.heap.size ≤ row) (hn : row ≠ g) : LV w w' t g cap n xs :=
 ⟨h.bel.grown hg h.bel.size (fun b e => by cases e; exact hb), h.len, World.ownsRow.kept h.own hg (.inr (by simp [Value.ownBlock]; exact fun e => hn e.symm))⟩
theorem wpList_push {P : Program} {ops : Array Oper} {rest : List Oper} {o : Oper} {a : Act} {Q : Exit → Act → World → Prop} {w wr wx : World} (hgd : o.guard = none) (s x : Operand) (t : TypeId)
 (ho : o.op = .call { callee := .builtin .append, args := #[s, x], argTypes := #[t, t] })
 (e bytes : Nat) (z : Value) (ht : P.underlying t = some (.slice e)) (hinfo : (P.info? e).map (fun i => (i.zero, i.size, i.bytes)) = some (some z, 1, bytes)) (hzs : z.cells.size = 1) (hby : bytes ≤ 8)
 (g cap n : Nat) (xs : List Value) (hs : a.eval s = .slice (some ⟨g, 0, none⟩) n cap) (h : LV w wr e g cap n xs) (hb : Below wr.heap.size wr wx) (b : Nat) (hx : a.eval x = .slice (some ⟨b, 0, none⟩) 1 1) (u : Value) (hu : wx.cell? ⟨b, 0, none⟩ = some u) (h1 : u.oneCell' = true)
 (hn : n ≤ 1048576) (hK : ∀ g' cap' w', LV w w' e g' cap' (n + 1) (xs ++ [u]) → wx.grownBy w' (some g) → (g' = g ∨ g' = wx.heap.size) → wpList P ops Q rest (a.put o.dst (.slice (some ⟨g', 0, none⟩) (n + 1) cap')) w') : wpList P ops Q (o :: rest) a wx := by
 obtain ⟨i, hi, hzz⟩ := Option.map_eq_some_iff.1 hinfo
 simp only [Prod.mk.injEq] at hzz
 obtain ⟨hz, hsz, hb8⟩ := hzz
 have hw := h.on hb
 refine wpList_append_lies wx hgd s x t ho w.heap.size e i z 1 bytes ht hi hz hsz hb8 hzs (by decide) (.slice (some ⟨g, 0, none⟩) n cap) n xs hs hw.own ⟨b, 0, none⟩ 1 1 [u] hx rfl ?_ ?_ (by decide) (by unfold maxLen; omega) ?_ hw.bel.size _ rfl ?_
 · intro j v hv
   cases j with
   | zero => simp at hv; subst hv; exact hu
   | succ j => simp at hv
 · intro v hv; simp at hv; rw [hv]; exact h1
 · have : (n + 1) * bytes ≤ (n + 1) * 8 := Nat.mul_le_mul_left _ hby
   omega
 · intro g' cap' w' r1 r2 r3 r4
   refine hK g' cap' w' ⟨hw.bel.grown r2 hw.bel.size (fun b e => by cases e; exact hw.lt.1), by rw [List.length_append, hw.len]; rfl, r1⟩ r2 ?_
   rcases r3 with r3 | r3
   · simp [Value.ownBlock] at r3; exact .inl r3.symm
   · exact .inr r3
def IV (l : List Int) : List Value := l.map (Value.int .i64)
theorem IV_app (l : List Int) (x : Int) : IV l ++ [.int .i64 x] = IV (l ++ [x]) := by unfold IV; rw [List.map_append]; rfl
theorem IV_set (l : List Int) (j : Nat) (x : Int) : (IV l).set j (.int .i64 x) = IV (l.set j x) := by unfold IV; rw [List.map_set]
theorem IV_len (l : List Int) : (IV l).length = l.length := by unfold IV; rw [List.length_map]
theorem IV_get {l : List Int} {j : Nat} (h : j < l.length) : (IV l)[j]? = some (.int .i64 (ofL l j)) := by
 unfold IV ofL
 rw [List.getElem?_map, List.getElem?_eq_getElem h, List.getD_eq_getElem?_getD, List.getElem?_eq_getElem h]
 rfl
theorem LV.flat {w wr : World} {t g cap n : Nat} {l : List Int} (h : LV w wr t g cap n (IV l)) : Flat wr (some ⟨g, 0, none⟩) (n * 1) (ofL l) := by
 intro h0
 refine ⟨g, 0, rfl, h.lt.2, fun j hj => ?_⟩
 rw [Nat.zero_add]
 have hl := h.len
 rw [IV_len] at hl
 exact h.cell (IV_get (by omega))
theorem LV.ic {w wr : World} {t g cap n : Nat} {l : List Int} (h : LV w wr t g cap n (IV l)) {j : Nat} (hj : j < n) : wr.cell? ⟨g, j, none⟩ = some (.int .i64 (ofL l j)) := by
 have hl := h.len
 rw [IV_len] at hl
 exact h.cell (IV_get (by omega))
abbrev zcInt : Value := .int .i64 0
theorem infoInt : (Tryz.prog.info? 3).map (fun i => (i.zero, i.size, i.bytes)) = some (some zcInt, 1, 8) := by kernel_rfl
structure LQ (w wr : World) (t k : Nat) (a : Option Addr) (m c : Nat) : Prop where
 bel : Below w.heap.size w wr
 own : ∃ xs, wr.ownsRow w.heap.size t k (.slice a m c) m xs
theorem LQ.new {w wr : World} (t k : Nat) (h : Below w.heap.size w wr) {s : Nat} (e : wr.heap.size = s) : LQ w (wr.alloc (.cells #[] t)) t k (some ⟨s, 0, none⟩) 0 0 := by
 subst e
 exact ⟨h.alloc h.size _, [], ⟨by simp, .inr ⟨wr.heap.size, 0, #[], rfl, h.size, Go.Deep.blk_alloc_new _ _, Nat.le_refl _, Nat.zero_le _, by simp, by simp⟩⟩⟩
theorem LQ.on {w wr w' : World} {t k m c : Nat} {a : Option Addr} (h : LQ w wr t k a m c) (hb : Below wr.heap.size wr w') : LQ w w' t k a m c := by
 obtain ⟨xs, hx⟩ := h.own
 refine ⟨h.bel.trans (hb.mono h.bel.size), xs, ?_⟩
 cases e : (Value.slice a m c).ownBlock with
 | none => exact World.ownsRow.kept hx (below_grown hb rfl) (.inl e)
 | some b => exact World.ownsRow.kept hx (below_grown hb rfl) (.inr (by rw [e]; simp))
theorem wpList_pushK {P : Program} {ops : Array Oper} {rest : List Oper} {o : Oper} {a : Act} {Q : Exit → Act → World → Prop} {w wx : World} (hgd : o.guard = none) (s x : Operand) (t : TypeId)
 (ho : o.op = .call { callee := .builtin .append, args := #[s, x], argTypes := #[t, t] })
 (e k bytes : Nat) (z : Value) (ht : P.underlying t = some (.slice e)) (hinfo : (P.info? e).map (fun i => (i.zero, i.size, i.bytes)) = some (some z, k, bytes)) (hzs : z.cells.size = k) (hk : 0 < k) (hby : bytes ≤ 1000)
 (a1 : Option Addr) (m c1 : Nat) (hs : a.eval s = .slice a1 m c1) (h : LQ w wx e k a1 m c1) (b : Nat) (hx : a.eval x = .slice (some ⟨b, 0, none⟩) 1 1) (us : List Value) (hl : us.length = k) (hu : ∀ j u, us[j]? = some u → wx.cell? ⟨b, j, none⟩ = some u) (h1 : ∀ u ∈ us, u.oneCell' = true)
 (hm : m ≤ 1048576) (hK : ∀ g c' w', LQ w w' e k (some ⟨g, 0, none⟩) (m + 1) c' → wpList P ops Q rest (a.put o.dst (.slice (some ⟨g, 0, none⟩) (m + 1) c')) w') : wpList P ops Q (o :: rest) a wx := by
 obtain ⟨i, hi, hzz⟩ := Option.map_eq_some_iff.1 hinfo
 simp only [Prod.mk.injEq] at hzz
 obtain ⟨hz, hsz, hb8⟩ := hzz
 obtain ⟨xs, hown⟩ := h.own
 refine wpList_append_lies wx hgd s x t ho w.heap.size e i z k bytes ht hi hz hsz hb8 hzs hk (.slice a1 m c1) m xs hs hown ⟨b, 0, none⟩ 1 1 us hx (by rw [hl, Nat.one_mul]) ?_ h1 (by decide) (by unfold maxLen; omega) ?_ h.bel.size _ rfl ?_
 · intro j v hv
   have := hu j v hv
   rw [Addr.add_lit, Nat.zero_add]
   exact this
 · have : (m + 1) * bytes ≤ (m + 1) * 1000 := Nat.mul_le_mul_left _ hby
   omega
 · intro g' cap' w' r1 r2 r3 r4
   exact hK g' cap' w' ⟨h.bel.grown r2 h.bel.size (fun b e => (World.ownsRow.lt hown b e).1), _, r1⟩
def atOf (F : List Int) (x : Int) : Nat → Int
 | 0 => -1
 | k + 1 => if ofL F k = x then (k : Int) else atOf F x k
theorem atOf_bd (F : List Int) (x : Int) : ∀ k, -1 ≤ atOf F x k ∧ atOf F x k < (k : Int) ∨ k = 0 ∧ atOf F x k = -1
 | 0 => .inr ⟨rfl, rfl⟩
 | k + 1 => by
  left
  rw [atOf]
  split
  · omega
  · rcases atOf_bd F x k with h | h <;> omega
def numS (U G : Nat → Int) : Nat → List Int × List Int
 | 0 => ([], [])
 | i + 1 =>
  bif decide (U (i * 12 + 8) = 0) then ((numS U G i).1 ++ [-1], (numS U G i).2)
  else bif decide (atOf (numS U G i).2 (G i) (numS U G i).2.length < 0) then ((numS U G i).1 ++ [((numS U G i).2.length : Int)], (numS U G i).2 ++ [G i])
  else ((numS U G i).1 ++ [atOf (numS U G i).2 (G i) (numS U G i).2.length], (numS U G i).2)
theorem numS_z {U G : Nat → Int} {i : Nat} (h : U (i * 12 + 8) = 0) : numS U G (i + 1) = ((numS U G i).1 ++ [-1], (numS U G i).2) := by rw [numS, decide_eq_true h]; rfl
theorem numS_n {U G : Nat → Int} {i : Nat} (h : ¬ U (i * 12 + 8) = 0) (h2 : atOf (numS U G i).2 (G i) (numS U G i).2.length < 0) : numS U G (i + 1) = ((numS U G i).1 ++ [((numS U G i).2.length : Int)], (numS U G i).2 ++ [G i]) := by rw [numS, decide_eq_false h, decide_eq_true h2]; rfl
theorem numS_o {U G : Nat → Int} {i : Nat} (h : ¬ U (i * 12 + 8) = 0) (h2 : ¬ atOf (numS U G i).2 (G i) (numS U G i).2.length < 0) : numS U G (i + 1) = ((numS U G i).1 ++ [atOf (numS U G i).2 (G i) (numS U G i).2.length], (numS U G i).2) := by rw [numS, decide_eq_false h, decide_eq_false h2]; rfl
theorem numS_len (U G : Nat → Int) : ∀ i, (numS U G i).1.length = i ∧ (numS U G i).2.length ≤ i
 | 0 => ⟨rfl, Nat.le_refl _⟩
 | i + 1 => by
  obtain ⟨h1, h2⟩ := numS_len U G i
  by_cases h : U (i * 12 + 8) = 0
  · rw [numS_z h]; exact ⟨by rw [List.length_append, h1]; rfl, by show (numS U G i).2.length ≤ _; omega⟩
  · by_cases k : atOf (numS U G i).2 (G i) (numS U G i).2.length < 0
    · rw [numS_n h k]; exact ⟨by rw [List.length_append, h1]; rfl, by rw [List.length_append]; simp; omega⟩
    · rw [numS_o h k]; exact ⟨by rw [List.length_append, h1]; rfl, by show (numS U G i).2.length ≤ _; omega⟩
theorem l7Number_any (a : Option Addr) (n c : Nat) (U : Nat → Int) (ag : Option Addr) (cg : Nat) (G : Nat → Int) (w : World) (h : Flat w a (n * 12) U) (hn : n ≤ 1000) (hG2 : Flat w ag (n * 1) G) :
 Calls Tryz.prog 159 #[.slice a n c, .slice ag n cg] w fun e w' => ∃ g1 c1, e = .returned (.slice (some ⟨g1, 0, none⟩) n c1) ∧ LV w w' 3 g1 c1 n (IV (numS U G n).1) := by
 have hset := cset_map
 have ha : Below w.heap.size w (w.alloc (.cells #[] 3)) := (Below.refl _ _).alloc (Nat.le_refl _) _
 have L1 := LV.new (w := w) 3 (Below.refl _ w) rfl
 have L2 := LV.new (w := w) 3 ha (s := w.heap.size + 1) (by simp)
 have L1' := L1.on ((Below.refl _ _).alloc (Nat.le_refl _) (.cells #[] 3))
 go_enter Tryz.func159, Tryz.ntmps159
 go_upto_region 4 with fail
 go_loopw [5, 6, 7, 8, 9] (fun s5 s6 s7 _ _ wr => ∃ (i g1 c1 g2 c2 : Nat), i ≤ n ∧ s7 = .int .i64 (i : Int) ∧ s5 = .slice (some ⟨g1, 0, none⟩) i c1 ∧ s6 = .slice (some ⟨g2, 0, none⟩) (numS U G i).2.length c2 ∧ LV w wr 3 g1 c1 i (IV (numS U G i).1) ∧ LV w wr 3 g2 c2 (numS U G i).2.length (IV (numS U G i).2) ∧ g1 ≠ g2) (fun _ _ s7 _ _ _ => n - (intOf s7).toNat)
 case atStart => exact ⟨0, _, _, _, _, Nat.zero_le _, rfl, rfl, rfl, L1', L2, by omega⟩
 case round =>
  clear L1 L2 L1' ha
  obtain ⟨i, g1, c1, g2, c2, hi, rfl, rfl, rfl, H1, H2, hne⟩ := hrel
  obtain ⟨_, hfl⟩ := numS_len U G i
  by_cases hlt : i < n
  · have hin : (i : Int) < (n : Int) := by omega
    obtain ⟨b0, o0, e0, hbl0, hc0⟩ := (h.below H1.bel) (by omega)
    have r8 := hc0 (i * 12 + 8) (by omega)
    simp only [← Nat.add_assoc] at r8
    obtain ⟨b2, o2, e2, hbl2, hc2⟩ := (hG2.below H1.bel) (by omega)
    have rG := hc2 i (by omega)
    subst e0 e2
    by_cases hm : U (i * 12 + 8) = 0
    · have HZ : Shut (numS U G (i + 1) = ((numS U G i).1 ++ [-1], (numS U G i).2)) := numS_z hm
      have em : (U (i * 12 + 8) == 0) = true := by simp [hm]
      clear hm
      have hE : Below wr.heap.size wr (wr.alloc (Obj.cells #[.int .i64 (-1)] 3)) := (Below.refl _ _).alloc (Nat.le_refl _) _
      have hcE : (wr.alloc (Obj.cells #[.int .i64 (-1)] 3)).cell? ⟨wr.heap.size, 0, none⟩ = some (.int .i64 (-1)) := by go_simp
      have H2E := H2.on hE
      go_wp2_with (refine wpList_push rfl _ _ _ rfl 3 8 zcInt Tryz.underlying94 infoInt rfl (by decide) g1 c1 i (IV (numS U G i).1) rfl H1 hE wr.heap.size rfl (.int .i64 (-1)) hcE rfl (by omega) ?_; intro g5 c5 w5 hp5 hg5 hl5)
      have K2 := H2E.kept hg5 H1.lt.1 hne
      go_roundw
      case rel =>
       refine ⟨i + 1, g5, c5, g2, c2, by omega, by go_num, rfl, by rw [HZ.out], ?_⟩
       rw [HZ.out]
       exact ⟨by rw [← IV_app]; exact hp5, K2, by have := H2.lt; have := H1.lt; simp at hl5; omega⟩
      case measure => simp [intOf]; omega
    · have em : (U (i * 12 + 8) == 0) = false := by simp [hm]
      obtain ⟨F, hF⟩ : ∃ F, (numS U G i).2 = F := ⟨_, rfl⟩
      obtain ⟨O, hOO⟩ : ∃ O, (numS U G i).1 = O := ⟨_, rfl⟩
      obtain ⟨nf, hnf⟩ : ∃ nf, F.length = nf := ⟨_, rfl⟩
      have HN := @numS_n U G i hm
      have HO := @numS_o U G i hm
      rw [hF, hOO, hnf] at HN HO
      rw [hF, hnf] at hfl
      rw [hOO] at H1
      rw [hF, hnf] at H2 ⊢
      have HN := HN
      have HO := HO
      clear hm
      go_upto_region 10 with fail
      go_loopw [8, 9] (fun s8 s9 wq => ∃ k : Nat, k ≤ nf ∧ s9 = .int .i64 (k : Int) ∧ s8 = .int .i64 (atOf F (G i) k) ∧ LV w wq 3 g1 c1 i (IV O) ∧ LV w wq 3 g2 c2 nf (IV F)) (fun _ s9 _ => nf - (intOf s9).toNat)
      case atStart => exact ⟨0, Nat.zero_le _, rfl, rfl, H1, H2⟩
      case round =>
       clear H1 H2 r8 rG hc0 hc2
       obtain ⟨k, hk, rfl, rfl, H1, H2⟩ := hrel
       obtain ⟨b2', o2', e2', hbl2', hc2'⟩ := (hG2.below H1.bel) (by omega)
       have rG := hc2' i (by omega)
       cases e2'
       by_cases hkl : k < nf
       · have hkn : (k : Int) < (nf : Int) := by omega
         have rF := H2.ic hkl
         have HAT : Shut (atOf F (G i) (k + 1) = if ofL F k = G i then (k : Int) else atOf F (G i) k) := by show _ = _; rw [atOf]
         by_cases e : ofL F k = G i
         · have e5 : (ofL F k == G i) = true := by simp [e]
           rw [if_pos e] at HAT
           clear e
           go_upto_region 12 with fail
           refine wp_region_held_drew (S := fun w' => w'.cell? ⟨g2, k, none⟩ = some (.int .i64 (ofL F k)) ∧ w'.cell? ⟨b2, o2 + i, none⟩ = some (.int .i64 (G i))) (by kernel_rfl) ?_ (fun hHeld => ?_)
           · (try dsimp only)
             (first | (go_simp; done) | (go_keep; done))
           refine tq 0 hHeld ?_
           refine tq 1 hHeld ?_
           refine tq 2 hHeld ?_
           refine tq 3 hHeld ?_
           refine tq 4 hHeld ?_
           refine tq 5 hHeld ?_
           refine tq 6 hHeld ?_
           refine tq 7 hHeld ?_
           refine tq 8 hHeld ?_
           refine wpAnyH_done (by kernel_rfl) ?_ _
           go_wp2_with fail
           go_roundw
           case rel => exact ⟨k + 1, by omega, by go_num, by rw [HAT.out], H1.dr, H2.dr⟩
           case measure => simp [intOf]; omega
         · have e5 : (ofL F k == G i) = false := by simp [e]
           rw [if_neg e] at HAT
           clear e
           go_upto_region 12 with fail
           refine wp_region_held_drew (S := fun w' => w'.cell? ⟨g2, k, none⟩ = some (.int .i64 (ofL F k)) ∧ w'.cell? ⟨b2, o2 + i, none⟩ = some (.int .i64 (G i))) (by kernel_rfl) ?_ (fun hHeld => ?_)
           · (try dsimp only)
             (first | (go_simp; done) | (go_keep; done))
           refine tq 0 hHeld ?_
           refine tq 1 hHeld ?_
           refine tq 2 hHeld ?_
           refine tq 3 hHeld ?_
           refine tq 4 hHeld ?_
           refine tq 5 hHeld ?_
           refine tq 6 hHeld ?_
           refine tq 7 hHeld ?_
           refine tq 8 hHeld ?_
           refine wpAnyH_done (by kernel_rfl) ?_ _
           go_wp2_with fail
           go_roundw
           case rel => exact ⟨k + 1, by omega, by go_num, by rw [HAT.out], H1.dr, H2.dr⟩
           case measure => simp [intOf]; omega
       · obtain rfl : k = nf := by omega
         obtain ⟨z, hz⟩ : ∃ z, atOf F (G i) k = z := ⟨_, rfl⟩
         rw [hz] at HN HO
         rw [hz]
         by_cases hzn : z < 0
         · have HN' : Shut (numS U G (i + 1) = (O ++ [(k : Int)], F ++ [G i])) := HN hzn
           have hE : Below wr.heap.size wr (wr.alloc (Obj.cells #[.int .i64 (G i)] 3)) := (Below.refl _ _).alloc (Nat.le_refl _) _
           have hcE : (wr.alloc (Obj.cells #[.int .i64 (G i)] 3)).cell? ⟨wr.heap.size, 0, none⟩ = some (.int .i64 (G i)) := by go_simp
           have H1E := H1.on hE
           have hlt1 := H1.lt
           have hlt2 := H2.lt
           go_upto_region 17 with (refine wpList_push rfl _ _ _ rfl 3 8 zcInt Tryz.underlying94 infoInt rfl (by decide) g2 c2 k (IV F) rfl H2 hE wr.heap.size rfl (.int .i64 (G i)) hcE rfl (by omega) ?_; intro g5 c5 w5 hp5 hg5 hl5)
           have K1 := H1E.kept hg5 H2.lt.1 (fun e => hne e.symm)
           have hE6 : Below w5.heap.size w5 (w5.alloc (Obj.cells #[.int .i64 (k : Int)] 3)) := (Below.refl _ _).alloc (Nat.le_refl _) _
           have hcE6 : (w5.alloc (Obj.cells #[.int .i64 (k : Int)] 3)).cell? ⟨w5.heap.size, 0, none⟩ = some (.int .i64 (k : Int)) := by go_simp
           have hne5 : g1 ≠ g5 := by simp at hl5; omega
           have hlt5 := hp5.lt
           have H5E := hp5.on hE6
           clear hE hcE H1E hg5 hl5
           go_wp2_with (refine wpList_push rfl _ _ _ rfl 3 8 zcInt Tryz.underlying94 infoInt rfl (by decide) g1 c1 i (IV O) rfl K1 hE6 w5.heap.size rfl (.int .i64 (k : Int)) hcE6 rfl (by omega) ?_; intro g6 c6 w6 hp6 hg6 hl6)
           have K5 := H5E.kept hg6 K1.lt.1 hne5
           go_roundw
           case rel =>
            refine ⟨i + 1, g6, c6, g5, c5, by omega, by go_num, rfl, by rw [HN'.out]; simp [hnf], ?_⟩
            rw [HN'.out]
            exact ⟨by rw [← IV_app]; exact hp6, by rw [← IV_app, List.length_append, hnf]; exact K5, by have := K5.lt; have := K1.lt; simp at hl6; omega⟩
           case measure => simp [intOf]; omega
         · have HO' : Shut (numS U G (i + 1) = (O ++ [z], F)) := HO (by omega)
           have hE6 : Below wr.heap.size wr (wr.alloc (Obj.cells #[.int .i64 z] 3)) := (Below.refl _ _).alloc (Nat.le_refl _) _
           have hcE6 : (wr.alloc (Obj.cells #[.int .i64 z] 3)).cell? ⟨wr.heap.size, 0, none⟩ = some (.int .i64 z) := by go_simp
           have H2E := H2.on hE6
           go_wp2_with (refine wpList_push rfl _ _ _ rfl 3 8 zcInt Tryz.underlying94 infoInt rfl (by decide) g1 c1 i (IV O) rfl H1 hE6 wr.heap.size rfl (.int .i64 z) hcE6 rfl (by omega) ?_; intro g6 c6 w6 hp6 hg6 hl6)
           have K2 := H2E.kept hg6 H1.lt.1 hne
           go_roundw
           case rel =>
            refine ⟨i + 1, g6, c6, g2, c2, by omega, by go_num, rfl, by rw [HO'.out]; simp [hnf], ?_⟩
            rw [HO'.out]
            exact ⟨by rw [← IV_app]; exact hp6, by rw [hnf]; exact K2, by have := H2.lt; have := H1.lt; simp at hl6; omega⟩
           case measure => simp [intOf]; omega
  · obtain rfl : i = n := by omega
    go_wp2_with fail
    go_ret
    exact ⟨_, _, rfl, H1⟩
theorem wake_ok {V : Nat → Int} (b : Bool) (h : BOk V) : BOk (wakeV b V) := by
 unfold wakeV
 cases hl : (b && decide (8 ≤ V 11)) with
 | false => exact h
 | true =>
  simp only [Bool.and_eq_true, decide_eq_true_eq] at hl
  obtain ⟨a0, a1, a2, a3, a4, a5, a6, a7, a8, a9, b0, b1⟩ := h
  have m8 : V 8 ≠ 0 := fun e => by have := b0 e; omega
  show BOk (setV V 11 0)
  have e : ∀ j, j ≠ 11 → setV V 11 0 j = V j := fun j hj => setV_ne hj
  have eb : setV V 11 0 11 = 0 := setV_eq
  generalize setV V 11 0 = W at e eb
  have w0 := e 0 (by decide)
  have w1 := e 1 (by decide)
  have w2 := e 2 (by decide)
  have w3 := e 3 (by decide)
  have w4 := e 4 (by decide)
  have w5 := e 5 (by decide)
  have w6 := e 6 (by decide)
  have w7 := e 7 (by decide)
  have w8 := e 8 (by decide)
  have w9 := e 9 (by decide)
  have wa := e 10 (by decide)
  exact ⟨by rw [w0]; exact a0, by rw [w1, w2, w3]; exact a1, by rw [w4]; exact a2, by rw [w5]; exact a3, by rw [w6]; exact a4, by rw [w7]; exact a5, by rw [w8]; exact a6, by rw [w9]; exact a7, by rw [wa]; exact a8, by rw [eb]; omega, by rw [eb]; exact fun _ => rfl, .inl ⟨by rw [w8]; exact m8, by rw [eb]; decide⟩⟩
theorem sl_ok {V : Nat → Int} (h : BOk V) (m8 : V 8 ≠ 0) : BOk (slV V) := by
 obtain ⟨a0, a1, a2, a3, a4, a5, a6, a7, a8, a9, b0, b1⟩ := h
 have e : ∀ j, j ≠ 7 → j ≠ 6 → j ≠ 11 → slV V j = V j := fun j h1 h2 h3 => by unfold slV; rw [if_neg h1, if_neg h2, if_neg h3]
 have e7 : slV V 7 = 0 := rfl
 have e6 : slV V 6 = 0 := rfl
 have eb : slV V 11 = 8 := rfl
 generalize slV V = W at e e7 e6 eb
 have w0 := e 0 (by decide) (by decide) (by decide)
 have w1 := e 1 (by decide) (by decide) (by decide)
 have w2 := e 2 (by decide) (by decide) (by decide)
 have w3 := e 3 (by decide) (by decide) (by decide)
 have w4 := e 4 (by decide) (by decide) (by decide)
 have w5 := e 5 (by decide) (by decide) (by decide)
 have w8 := e 8 (by decide) (by decide) (by decide)
 have w9 := e 9 (by decide) (by decide) (by decide)
 have wa := e 10 (by decide) (by decide) (by decide)
 exact ⟨by rw [w0]; exact a0, by rw [w1, w2, w3]; exact a1, by rw [w4]; exact a2, by rw [w5]; exact a3, by rw [e6]; omega, by rw [e7]; omega, by rw [w8]; exact a6, by rw [w9]; exact a7, by rw [wa]; exact a8, by rw [eb]; omega, by rw [w8]; exact fun q => absurd q m8, .inr ⟨e6, e7⟩⟩
theorem Bods.wake {n : Nat} {U G : Nat → Int} {A : Nat → Bool} (h : Bods n U) : Bods n (mapR (fun i V => wakeV (awK G A i) V) U n) :=
 h.map (fun k hk => (wake_ok _ (h.row hk)).to) (fun k hk => by show wakeV _ (fun j => U (k * 12 + j)) 0 = _; unfold wakeV; cases (awK G A k && decide (8 ≤ (fun j => U (k * 12 + j)) 11)) <;> rfl)
theorem slF_8 (G : Nat → Int) (g i : Nat) (V : Nat → Int) : slF G g i V 8 = V 8 := by unfold slF; cases decide (G i = (g : Int)) <;> rfl
theorem Bods.sleepS {n : Nat} {U G : Nat → Int} {A : Nat → Bool} (h : Bods n U) (hG : ∀ k, k < n → 0 ≤ G k → U (k * 12 + 8) ≠ 0) (g : Nat) : Bods n (sleepS G A n g U) ∧ ∀ k, k < n → sleepS G A n g U (k * 12 + 8) = U (k * 12 + 8) := by
 unfold Go.Proofs.YthijeiehcdoidaaGreat.sleepS
 cases (A g && allQ G U g n) with
 | false => exact ⟨h, fun k hk => rfl⟩
 | true =>
  refine ⟨h.map (fun k hk => ?_) (fun k hk => ?_), fun k hk => (mapR_in hk (by omega)).trans (slF_8 G g k _)⟩
  · unfold slF
    by_cases e : G k = (g : Int)
    · rw [decide_eq_true e]; exact (sl_ok (h.row hk) (hG k hk (by omega))).to
    · rw [decide_eq_false e]; exact h.ok k hk
  · unfold slF; cases decide (G k = (g : Int)) <;> rfl
theorem Bods.sleep {n : Nat} {U G : Nat → Int} {A : Nat → Bool} (h : Bods n U) (hG : ∀ k, k < n → 0 ≤ G k → U (k * 12 + 8) ≠ 0) : ∀ g, Bods n (sleepN G A n U g) ∧ ∀ k, k < n → sleepN G A n U g (k * 12 + 8) = U (k * 12 + 8)
 | 0 => ⟨h, fun k hk => rfl⟩
 | g + 1 => by
  obtain ⟨h1, h2⟩ := Bods.sleep h hG g
  obtain ⟨q1, q2⟩ := Bods.sleepS (A := A) h1 (fun k hk h0 => by rw [h2 k hk]; exact hG k hk h0) g
  exact ⟨q1, fun k hk => (q2 k hk).trans (h2 k hk)⟩
def Al (w0 w : World) (ab n : Nat) (V : Nat → Int) : Prop := w0.heap.size ≤ ab ∧ ab < w.heap.size ∧ (∀ i, i < n → w.cell? ⟨ab, i, none⟩ = some (.int .i64 (V i))) ∧ ∀ i, i < n → w.frozen? ⟨ab, i, none⟩ = false
theorem Al.up {rb : Nat} {w0 w w' : World} {ab n : Nat} {V : Nat → Int} (h : Al w0 w ab n V) (hrb : rb < w0.heap.size) (k : But rb w w') : Al w0 w' ab n V := by
 obtain ⟨h1, h2, h3, h4⟩ := h
 exact ⟨h1, Nat.lt_of_lt_of_le h2 k.size, fun i hi => (k.cell (p := ⟨ab, i, none⟩) h2 (by simp only [ne_eq]; omega)).trans (h3 i hi), fun i hi => (k.frozen (p := ⟨ab, i, none⟩) h2 (by simp only [ne_eq]; omega)).trans (h4 i hi)⟩
theorem Al.set {w0 w : World} {ab n : Nat} {V : Nat → Int} (h : Al w0 w ab n V) (k : Nat) (hk : k < n) (v : Int) : Al w0 (w.setCell ⟨ab, k, none⟩ (.int .i64 v)) ab n (fun j => if j = k then v else V j) := by
 obtain ⟨h1, h2, h3, h4⟩ := h
 refine ⟨h1, by simpa [World.setCell] using h2, fun i hi => ?_, fun i hi => ?_⟩
 · by_cases e : i = k
   · subst e; rw [cset_map, h3 i hi]; simp
   · rw [cset_other (by intro q; injection q with q1 q2; exact e q2.symm), h3 i hi]; simp [e]
 · rw [World.frozen?_setCell]; exact h4 i hi
theorem but_alloc (rb : Nat) (w : World) (o : Obj) : But rb w (w.alloc o) := (But.refl rb w).alloc o
theorem Al.new {w0 w : World} {cs : Array Value} {t : TypeId} {n : Nat} {V : Nat → Int} (hsz : w0.heap.size ≤ w.heap.size) (hc : ∀ i, i < n → cs[i]? = some (.int .i64 (V i))) : Al w0 (w.alloc (.cells cs t)) w.heap.size n V :=
 ⟨hsz, by simp, fun i hi => by rw [World.cell?_alloc_new]; exact hc i hi, fun i hi => by go_simp⟩
theorem Al.congr {w0 w : World} {ab n : Nat} {V U : Nat → Int} (h : Al w0 w ab n V) (k : ∀ i, i < n → V i = U i) : Al w0 w ab n U :=
 ⟨h.1, h.2.1, fun i hi => by rw [h.2.2.1 i hi, k i hi], h.2.2.2⟩
end Go.Proofs.YthijeiehcdoidaaGreat
namespace Go.Proofs.YthijeiehcdoidaaGreat
open Go.RowKit
set_option linter.unusedVariables false
set_option linter.unusedSimpArgs false
section
variable {P : Program} {ops : Array Oper} {Q : Exit → Act → World → Prop} {md : Region.Mode}
end
def Li (w0 w : World) (lb len : Nat) (xs : List Int) : Prop := w0.heap.size ≤ lb ∧ lb < w.heap.size ∧ ∀ i, i < len → w.cell? ⟨lb, i, none⟩ = some (.int .i64 (xs.getD i 0))
theorem Li.up {rb : Nat} {w0 w w' : World} {lb len : Nat} {xs : List Int} (h : Li w0 w lb len xs) (hrb : rb < w0.heap.size) (k : But rb w w') : Li w0 w' lb len xs := by
 obtain ⟨h1, h2, h3⟩ := h
 exact ⟨h1, Nat.lt_of_lt_of_le h2 k.size, fun i hi => (k.cell (p := ⟨lb, i, none⟩) h2 (by simp only [ne_eq]; omega)).trans (h3 i hi)⟩
abbrev VI (lo hi : Int) (x : Value) : Prop := ∃ n, x = .int .i64 n ∧ lo ≤ n ∧ n ≤ hi
abbrev VP (rb : Nat) (x : Value) : Prop := x = .pointer (some ⟨rb, 0, none⟩)
abbrev VN (n : Int) (x : Value) : Prop := x = .int .i64 n
abbrev VV (lo hi : Int) (x : Value) : Prop := ∃ a b, x = vv a b ∧ (lo ≤ a ∧ a ≤ hi) ∧ lo ≤ b ∧ b ≤ hi
abbrev VS (lo hi : Int) (x : Value) : Prop := ∃ a b c, x = s3 a b c ∧ (lo ≤ a ∧ a ≤ hi) ∧ (lo ≤ b ∧ b ≤ hi) ∧ lo ≤ c ∧ c ≤ hi
def VL (w0 w : World) (c : Bool) (len : Nat) (xs : List Int) (x : Value) : Prop := ∃ lb, x = .slice (some ⟨lb, 0, none⟩) len len ∧ (c = false → Li w0 w lb len xs)
def VA (w0 w : World) (c : Bool) (n : Nat) (V : Nat → Int) (x : Value) : Prop := ∃ ab, x = .pointer (some ⟨ab, 0, none⟩) ∧ (c = false → Al w0 w ab n V)
theorem VL.up {rb : Nat} {w0 w w' : World} {c : Bool} {len : Nat} {xs : List Int} {x : Value} (h : VL w0 w c len xs x) (hrb : rb < w0.heap.size) (k : But rb w w') : VL w0 w' c len xs x := by
 obtain ⟨lb, e, h⟩ := h; exact ⟨lb, e, fun q => (h q).up hrb k⟩
theorem VA.up {rb : Nat} {w0 w w' : World} {c : Bool} {n : Nat} {V : Nat → Int} {x : Value} (h : VA w0 w c n V x) (hrb : rb < w0.heap.size) (k : But rb w w') : VA w0 w' c n V x := by
 obtain ⟨lb, e, h⟩ := h; exact ⟨lb, e, fun q => (h q).up hrb k⟩
theorem Li.new {w0 w : World} {cs : Array Value} {t : TypeId} {len : Nat} {xs : List Int} (hsz : w0.heap.size ≤ w.heap.size) (hc : ∀ i, i < len → cs[i]? = some (.int .i64 (xs.getD i 0))) : Li w0 (w.alloc (.cells cs t)) w.heap.size len xs :=
 ⟨hsz, by simp, fun i hi => by rw [World.cell?_alloc_new]; exact hc i hi⟩
end Go.Proofs.YthijeiehcdoidaaGreat
namespace Go.Proofs.YthijeiehcdoidaaGreat
open Go.RowKit
set_option linter.unusedVariables false
set_option linter.unusedSimpArgs false
theorem spanAround_any (x y u v : Int) (w : World) (hx : -4000000000 ≤ x ∧ x ≤ 4000000000) (hy : -4000000000 ≤ y ∧ y ≤ 4000000000) (hu : -4000000000 ≤ u ∧ u ≤ 4000000000) (hv : -4000000000 ≤ v ∧ v ≤ 4000000000) :
 Calls Tryz.prog 60 #[vv x y, vv u v] w fun e w' => e = .returned (b4 (x - u) (y - v) (x + u) (y + v)) ∧ Below w.heap.size w w' := by
 have hset := cset_map
 go_enter Tryz.func60, Tryz.ntmps60
 go_wp2
 go_region_held3 (fun w' => w'.cell? ⟨w.heap.size, 0, none⟩ = some (.int .i64 x) ∧ w'.cell? ⟨w.heap.size, 1, none⟩ = some (.int .i64 y) ∧ w'.cell? ⟨w.heap.size + 1, 0, none⟩ = some (.int .i64 u) ∧ w'.cell? ⟨w.heap.size + 1, 1, none⟩ = some (.int .i64 v)) (first | (go_simp; done) | (go_keep; done)) (first
  | (go_at_call 93; refine (plus_any _ _ _ _ _ (by omega) (by omega) (by omega) (by omega)).mono ?_; rintro e w1 ⟨rfl, hb1⟩; obtain ⟨hc1, hf1⟩ := bcell hb1; have hl1 := blt hb1; have hz1 := hb1.size; (try simp only [zz] at hc1 hf1 hl1 hz1); (try have hq1x0 : w.heap.size < w1.heap.size := (by omega)); (try have hq1x1 : w.heap.size + 1 < w1.heap.size := (by omega)); (try have hq1x2 : w.heap.size + 1 + 1 < w1.heap.size := (by omega)))
  | (go_at_call 91; refine (less_any _ _ _ _ _ (by omega) (by omega) (by omega) (by omega)).mono ?_; rintro e w1 ⟨rfl, hb1⟩; obtain ⟨hc1, hf1⟩ := bcell hb1; have hl1 := blt hb1; have hz1 := hb1.size; (try simp only [zz] at hc1 hf1 hl1 hz1); (try have hq1x0 : w.heap.size < w1.heap.size := (by omega)); (try have hq1x1 : w.heap.size + 1 < w1.heap.size := (by omega)); (try have hq1x2 : w.heap.size + 1 + 1 < w1.heap.size := (by omega))))
 all_goals
  go_wp2
  exact bodyPost_ret (v := b4 (x - u) (y - v) (x + u) (y + v)) (by simp [results, Tryz.results60, go_sem, *]) rfl ⟨rfl, bel_a⟩
end Go.Proofs.YthijeiehcdoidaaGreat
