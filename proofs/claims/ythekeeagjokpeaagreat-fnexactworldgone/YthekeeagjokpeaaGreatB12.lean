/- How two shapes touch, by the specification. Bodies that touch, two by two: as numbers; a list that grows in a variable. A list that a function makes. A body taken out of a world: plain mathematics. A contract of spans. How two round shapes touch, by the program; what it is made of. The least deep of four sides, by the program. A contract of spans. -/
import Derived.Test.YthekeeagjokpeaaGreatSTch3
import Derived.Deep.RegionHeld3
import Derived.Deep.DeepCutAuto
import Derived.Test.YthekeeagjokpeaaGreatB6
import Derived.Test.YthekeeagjokpeaaGreatB9
import Derived.Test.YthekeeagjokpeaaGreatB2
import Derived.Deep.QuietTactic
import Derived.BigQuiet
import Derived.Deep.RegionWith
import Derived.Test.YthekeeagjokpeaaGreatB5
import Derived.Handy
namespace Go.Proofs.YthekeeagjokpeaaGreat
open Go.RowKit
set_option linter.unusedVariables false
set_option linter.unusedSimpArgs false

def tcT (k1 g1 h1 x y k2 g2 h2 u v : Int) : (Int × Int × Int) × Bool :=
  if k1 = 1 then (if k2 = 1 then rdT (u - x) (v - y) (g1 + g2) else tnT (mxT (u - g2) (v - h2) (u + g2) (v + h2) x y g1))
  else (if k2 = 1 then mxT (x - g1) (y - h1) (x + g1) (y + h1) u v g2 else bxT (x - g1) (y - h1) (x + g1) (y + h1) (u - g2) (v - h2) (u + g2) (v + h2))
def toT (k1 g1 h1 x y k2 g2 h2 u v : Int) : (Int × Int × Int) × Bool := if (shB k1 g1 h1 && (shB k2 g2 h2 && (inB 2560000 x y && inB 2560000 u v))) = true then tcT k1 g1 h1 x y k2 g2 h2 u v else ((0, 0, 0), false)
theorem sShapeOk_z (k g h : Int) (b : Bool) (w : World) (e : shB k g h = b) : Calls Tryz.prog 82 #[s3 k g h] w fun e w' => e = .returned (.bool b) ∧ Below w.heap.size w w' := by
  subst e; exact sShapeOk_any k g h w
theorem l3Place_z (x y : Int) (b : Bool) (w : World) (e : inB 2560000 x y = b) : Calls Tryz.prog 83 #[vv x y] w fun e w' => e = .returned (.bool b) ∧ Below w.heap.size w w' := by
  subst e; exact l3Place_any x y w
theorem shB_kinds {k g h : Int} (e : shB k g h = true) : (k = 1 ∧ h = 0 ∧ 1 ≤ g ∧ g ≤ 25600) ∨ (k = 2 ∧ 1 ≤ g ∧ g ≤ 25600 ∧ 1 ≤ h ∧ h ≤ 25600) := by
  unfold shB rdB bxB at e; simp only [Bool.or_eq_true, decide_eq_true_eq] at e; omega
end Go.Proofs.YthekeeagjokpeaaGreat
namespace Go.Proofs.YthekeeagjokpeaaGreat
open Go.RowKit
set_option linter.unusedVariables false
set_option linter.unusedSimpArgs false
/-- how the bodies of rows i and k touch -/
def tcH (C : Nat → Nat → Int) (i k : Nat) : (Int × Int × Int) × Bool := toT (C 1 i) (C 2 i) (C 3 i) (C 4 i) (C 5 i) (C 1 k) (C 2 k) (C 3 k) (C 4 k) (C 5 k)
def conB (C : Nat → Nat → Int) (i k : Nat) : Bool := decide (i < k) && (!(decide (C 8 i = 0) && decide (C 8 k = 0)) && (tcH C i k).2)
def conOne (C : Nat → Nat → Int) (i k : Nat) : List Int := if conB C i k = true then [(i : Int), (k : Int), (tcH C i k).1.1, (tcH C i k).1.2.1, (tcH C i k).1.2.2] else []
def conIn (C : Nat → Nat → Int) (i : Nat) : Nat → List Int
  | 0 => []
  | k + 1 => conIn C i k ++ conOne C i k
def conOut (C : Nat → Nat → Int) (n : Nat) : Nat → List Int
  | 0 => []
  | i + 1 => conOut C n i ++ conIn C i n
/-- all contacts of n bodies -/
def conL (C : Nat → Nat → Int) (n : Nat) : List Int := conOut C n n
theorem conOne_len (C : Nat → Nat → Int) (i k : Nat) : ∃ m, (conOne C i k).length = m * 5 ∧ m ≤ 1 := by
  unfold conOne
  split
  · exact ⟨1, rfl, Nat.le_refl _⟩
  · exact ⟨0, rfl, by omega⟩
theorem conIn_len (C : Nat → Nat → Int) (i : Nat) : ∀ k, ∃ m, (conIn C i k).length = m * 5 ∧ m ≤ k
  | 0 => ⟨0, rfl, Nat.le_refl _⟩
  | k + 1 => by
    obtain ⟨m, h1, h2⟩ := conIn_len C i k
    obtain ⟨m', h3, h4⟩ := conOne_len C i k
    exact ⟨m + m', by rw [conIn, List.length_append, h1, h3]; omega, by omega⟩
theorem conOut_len (C : Nat → Nat → Int) (n : Nat) : ∀ i, ∃ m, (conOut C n i).length = m * 5 ∧ m ≤ i * n
  | 0 => ⟨0, rfl, by omega⟩
  | i + 1 => by
    obtain ⟨m, h1, h2⟩ := conOut_len C n i
    obtain ⟨m', h3, h4⟩ := conIn_len C i n
    exact ⟨m + m', by rw [conOut, List.length_append, h1, h3]; omega, by rw [Nat.succ_mul]; omega⟩
theorem conB_ge {C : Nat → Nat → Int} {i k : Nat} (h : k ≤ i) : conB C i k = false := by
  unfold conB
  rw [decide_eq_false (by omega)]
  rfl
theorem conOne_no {C : Nat → Nat → Int} {i k : Nat} (h : conB C i k = false) : conOne C i k = [] := by
  unfold conOne
  rw [h]
  rfl
theorem conOne_yes {C : Nat → Nat → Int} {i k : Nat} {X Y D : Int} (h : conB C i k = true) (e : tcH C i k = ((X, Y, D), true)) : conOne C i k = [(i : Int), (k : Int), X, Y, D] := by
  unfold conOne
  rw [if_pos h, e]
theorem conB_yes {C : Nat → Nat → Int} {i k : Nat} {X Y D : Int} (h : i < k) (hf : ¬ (C 8 i = 0 ∧ C 8 k = 0)) (e : tcH C i k = ((X, Y, D), true)) : conB C i k = true := by
  unfold conB
  rw [e, decide_eq_true h]
  by_cases e1 : C 8 i = 0
  · have e2 : ¬ C 8 k = 0 := fun q => hf ⟨e1, q⟩
    simp [e2]
  · simp [e1]
/-- nothing touches one that does not stand behind -/
theorem conIn_ge {C : Nat → Nat → Int} (i : Nat) : ∀ k, k ≤ i + 1 → conIn C i k = []
  | 0, _ => rfl
  | k + 1, h => by rw [conIn, conIn_ge i k (by omega), conOne_no (conB_ge (by omega))]; rfl
/-- a list of things of k numbers, in a variable at lb; nothing else has changed since w2 -/
structure LsAt (w2 W : World) (lb t k : Nat) (a : Option Addr) (m c : Nat) (l : List Int) : Prop where
  fr : Fr (fun b => b = lb) w2 W
  box : W.cell? ⟨lb, 0, none⟩ = some (.slice a m c)
  nf : W.frozen? ⟨lb, 0, none⟩ = false
  len : l.length = m * k
  own : OwnL W w2.heap.size t k (.slice a m c) m (ofL l)
theorem Fr.sm {X : Nat → Prop} {w2 W W' : World} {B : Nat} (h : Fr X w2 W) (hs : Sm B W W') (hB : w2.heap.size ≤ B) : Fr X w2 W' :=
  ⟨hs.below.os.trans h.os, hs.below.tape.trans h.tape, hs.below.output.trans h.output, Nat.le_trans h.size hs.size, fun k hk hn => (hs.below.block k (by omega)).trans (h.block k hk hn), fun k o hk ho => (hs.below.block k (by have := (Array.getElem?_eq_some_iff.1 hk).1; omega)).trans (h.kind k o hk ho)⟩
theorem LsAt.sm {w2 W W' : World} {B lb t k m c : Nat} {a : Option Addr} {l : List Int} (h : LsAt w2 W lb t k a m c l) (hs : Sm B W W') (hB : w2.heap.size ≤ B) : LsAt w2 W' lb t k a m c l :=
  ⟨h.fr.sm hs hB, hs.cell h.box, hs.frozen h.box h.nf, h.len, h.own.sm hs⟩
theorem LsAt.below {w2 W W' : World} {lb t k m c : Nat} {a : Option Addr} {l : List Int} (h : LsAt w2 W lb t k a m c l) (hs : Below W.heap.size W W') : LsAt w2 W' lb t k a m c l := h.sm (Sm.of_below hs (Nat.le_refl _)) h.fr.size
theorem LsAt.start {w2 : World} {lb t k : Nat} (h : w2.cell? ⟨lb, 0, none⟩ = some (.slice none 0 0)) (hf : w2.frozen? ⟨lb, 0, none⟩ = false) : LsAt w2 w2 lb t k none 0 0 [] :=
  ⟨Fr.refl _ _, h, hf, by simp, OwnL.nil _ _ _ _ _⟩
/-- the list, and what lies below the variable's world -/
theorem LsAt.keeps {w2 W W1 : World} {lb t k m c m' c' : Nat} {a a' : Option Addr} {l : List Int} (h : LsAt w2 W lb t k a m c l) (hlb : lb < w2.heap.size) (hg : W.grownBy W1 (Value.slice a m c).ownBlock) :
    Fr (fun b => b = lb ∨ (Value.slice a m c).ownBlock = some b) W (W1.setCell ⟨lb, 0, none⟩ (.slice a' m' c')) :=
  (Fr.grown hg (fun b hb => .inr hb) h.own.isCells).trans (Fr.setCell (.inl rfl) _)
theorem LsAt.push {w2 W W1 : World} {lb t k m c : Nat} {a a' : Option Addr} {c' : Nat} {l x : List Int} (h : LsAt w2 W lb t k a m c l) (hlb : lb < w2.heap.size) (hx : x.length = k) (hg : W.grownBy W1 (Value.slice a m c).ownBlock)
    (ho : OwnL W1 w2.heap.size t k (.slice a' (m + 1) c') (m + 1) (cat (m * k) (ofL l) (ofL x))) : LsAt w2 (W1.setCell ⟨lb, 0, none⟩ (.slice a' (m + 1) c')) lb t k a' (m + 1) c' (l ++ x) := by
  have hne : ∀ b, (Value.slice a m c).ownBlock = some b → b ≠ lb := fun b hb => by have := (h.own.lt b hb).1; omega
  have hl : lb < W.heap.size := Nat.lt_of_lt_of_le hlb h.fr.size
  have hb1 : W1.heap[lb]? = W.heap[lb]? := hg.block lb hl (fun e => hne lb e.symm rfl)
  refine ⟨(h.fr.trans' (Fr.grown (X := fun b => (Value.slice a m c).ownBlock = some b) hg (fun b hb => hb) h.own.isCells) (fun i hi e => by have := (h.own.lt i e).1; omega)).trans (Fr.setCell (X := fun b => b = lb) rfl _), cset_same ((World.cell?_of_block (a := ⟨lb, 0, none⟩) hb1).trans h.box), ?_, by rw [List.length_append, h.len, hx, Nat.succ_mul], ?_⟩
  · rw [World.frozen?_setCell]; exact (World.frozen?_of_block (a := ⟨lb, 0, none⟩) hb1).trans h.nf
  · rw [← cat_ofL, h.len]
    refine OwnL.frame (X := fun b => b = lb) ho (Fr.setCell (X := fun b => b = lb) rfl _) (fun b hb e => ?_)
    have := (ho.lt b hb).1
    omega
theorem _root_.Go.KeepsFrom.sm {B B' : Nat} {W X X' : World} (h : KeepsFrom B W X) (hs : Sm B' X X') (hB : W.heap.size ≤ B') : KeepsFrom B W X' :=
  ⟨Nat.le_trans h.size hs.size, fun k o hk h0 ho => (hs.below.block k (by have := (Array.getElem?_eq_some_iff.1 h0).1; omega)).trans (h.same k o hk h0 ho)⟩
end Go.Proofs.YthekeeagjokpeaaGreat
namespace Go.Proofs.YthekeeagjokpeaaGreat
open Go.RowKit
set_option linter.unusedVariables false
set_option linter.unusedSimpArgs false
/-- a list that a function makes, in its own memory -/
structure LsV (w wr : World) (t k : Nat) (a : Option Addr) (m c : Nat) (l : List Int) : Prop where
  bel : Below w.heap.size w wr
  len : l.length = m * k
  own : OwnL wr w.heap.size t k (.slice a m c) m (ofL l)
theorem LsV.below {w wr w' : World} {t k m c : Nat} {a : Option Addr} {l : List Int} (h : LsV w wr t k a m c l) (hb : Below wr.heap.size wr w') : LsV w w' t k a m c l := ⟨h.bel.trans (hb.mono h.bel.size), h.len, h.own.below hb⟩
theorem LsV.push {w wr w1 : World} {t k m c c' : Nat} {a a' : Option Addr} {l x : List Int} (h : LsV w wr t k a m c l) (hx : x.length = k) (hg : wr.grownBy w1 (Value.slice a m c).ownBlock) (ho : OwnL w1 w.heap.size t k (.slice a' (m + 1) c') (m + 1) (cat (m * k) (ofL l) (ofL x))) : LsV w w1 t k a' (m + 1) c' (l ++ x) :=
  ⟨h.bel.grown hg h.bel.size (fun b e => (h.own.lt b e).1), by rw [List.length_append, h.len, hx, Nat.succ_mul], by rw [← cat_ofL, h.len]; exact ho⟩
theorem LsV.new (w : World) (t k : Nat) : LsV w (w.alloc (.cells #[] t)) t k (some ⟨w.heap.size, 0, none⟩) 0 0 [] :=
  ⟨(Below.refl _ _).alloc (Nat.le_refl _) _, by simp, ⟨by simp [numL], .inr ⟨w.heap.size, 0, #[], rfl, Nat.le_refl _, Go.Deep.blk_alloc_new _ _, Nat.le_refl _, Nat.zero_le _, by simp, by simp [numL]⟩⟩⟩
theorem LsV.newAt (w : World) (t k s : Nat) (e : w.heap.size = s) : LsV w (w.alloc (.cells #[] t)) t k (some ⟨s, 0, none⟩) 0 0 [] := by subst e; exact LsV.new w t k
theorem LsV.nil (w : World) (t k : Nat) : LsV w w t k none 0 0 [] := ⟨Below.refl _ _, by simp, OwnL.nil _ _ _ _ _⟩
theorem LsV.out {w0 w wr : World} {t k m c : Nat} {a : Option Addr} {l : List Int} (h : LsV w wr t k a m c l) (hb : Below w0.heap.size w0 w) : OutL w0 wr t k a m c (ofL l) := ⟨hb.trans (h.bel.mono hb.size), h.own.base hb.size⟩
theorem flat1 (w : World) (p : Int) (t : TypeId) : Flat (w.alloc (Obj.cells #[.int .i64 p] t)) (some ⟨w.heap.size, 0, none⟩) (1 * 1) (ofL [p]) := by
  intro _
  refine ⟨w.heap.size, 0, rfl, by simp, fun j hj => ?_⟩
  rw [Nat.zero_add]
  obtain rfl : j = 0 := by omega
  simp only [ofL]; go_simp; (try rfl)
end Go.Proofs.YthekeeagjokpeaaGreat
namespace Go.Proofs.YthekeeagjokpeaaGreat
open Go.RowKit
set_option linter.unusedVariables false
set_option linter.unusedSimpArgs false
/-- whether what has the numbers V touches the body of row k -/
def touchB (V L : Nat → Int) (k : Nat) : Bool := (toT (V 1) (V 2) (V 3) (V 4) (V 5) (L (k * 12 + 1)) (L (k * 12 + 2)) (L (k * 12 + 3)) (L (k * 12 + 4)) (L (k * 12 + 5))).2
/-- the first k of a list awake that touch; row s is passed by -/
def wakeR (V L : Nat → Int) (s k : Nat) : Nat → Int := fun q => if q < k * 12 ∧ q % 12 = 11 ∧ q / 12 ≠ s ∧ touchB V L (q / 12) = true ∧ L q = 8 then 0 else L q
theorem wakeR_0 (V L : Nat → Int) (s : Nat) : wakeR V L s 0 = L := by funext q; unfold wakeR; rw [if_neg (by omega)]
theorem wakeR_row (V L : Nat → Int) (s k j : Nat) : wakeR V L s k (k * 12 + j) = L (k * 12 + j) := by unfold wakeR; rw [if_neg (by omega)]
theorem wakeR_no {V L : Nat → Int} {s k : Nat} (h : ¬ (k ≠ s ∧ touchB V L k = true ∧ L (k * 12 + 11) = 8)) : wakeR V L s (k + 1) = wakeR V L s k := by
  funext q
  unfold wakeR
  by_cases e : q = k * 12 + 11
  · subst e
    have d : (k * 12 + 11) / 12 = k := by omega
    rw [d, if_neg (fun x => h ⟨x.2.2.1, x.2.2.2.1, x.2.2.2.2⟩), if_neg (by omega)]
  · by_cases l : q < k * 12
    · by_cases c : q % 12 = 11 ∧ q / 12 ≠ s ∧ touchB V L (q / 12) = true ∧ L q = 8
      · rw [if_pos ⟨by omega, c⟩, if_pos ⟨l, c⟩]
      · rw [if_neg (fun x => c x.2), if_neg (fun x => c x.2)]
    · rw [if_neg (fun x => by omega), if_neg (fun x => l x.1)]
theorem wakeR_yes {V L : Nat → Int} {s k : Nat} (h1 : k ≠ s) (h2 : touchB V L k = true) (h3 : L (k * 12 + 11) = 8) : (fun r => if r = k * 12 + 11 then 0 else wakeR V L s k r) = wakeR V L s (k + 1) := by
  funext q
  unfold wakeR
  by_cases e : q = k * 12 + 11
  · subst e
    have d : (k * 12 + 11) / 12 = k := by omega
    rw [d, if_pos rfl, if_pos ⟨by omega, by omega, h1, h2, h3⟩]
  · rw [if_neg e]
    by_cases l : q < k * 12
    · by_cases c : q % 12 = 11 ∧ q / 12 ≠ s ∧ touchB V L (q / 12) = true ∧ L q = 8
      · rw [if_pos ⟨l, c⟩, if_pos ⟨by omega, c⟩]
      · rw [if_neg (fun x => c x.2), if_neg (fun x => c x.2)]
    · rw [if_neg (fun x => l x.1), if_neg (fun x => by have := x.1; have := x.2.1; omega)]
/-- a list without row p -/
def delU (U : Nat → Int) (p : Nat) : Nat → Int := fun q => if q < p * 12 then U q else U (q + 12)
theorem cat_del (U : Nat → Int) (p : Nat) : cat (p * 12) U (fun q => U (q + (p + 1) * 12)) = delU U p := by
  funext q
  unfold cat delU
  by_cases h : q < p * 12
  · rw [if_pos h, if_pos h]
  · rw [if_neg h, if_neg h]
    show U (q - p * 12 + (p + 1) * 12) = U (q + 12)
    rw [show q - p * 12 + (p + 1) * 12 = q + 12 by omega]
theorem del_lo {U : Nat → Int} {p k j : Nat} (h : k < p) (hj : j < 12) : delU U p (k * 12 + j) = U (k * 12 + j) := by unfold delU; rw [if_pos (by omega)]
theorem del_hi {U : Nat → Int} {p k j : Nat} (h : p ≤ k) : delU U p (k * 12 + j) = U ((k + 1) * 12 + j) := by unfold delU; rw [if_neg (by omega), show k * 12 + j + 12 = (k + 1) * 12 + j by omega]
theorem touch_lo {V U : Nat → Int} {p k : Nat} (h : k < p) : touchB V (delU U p) k = touchB V U k := by
  unfold touchB; rw [del_lo h (by omega), del_lo h (by omega), del_lo h (by omega), del_lo h (by omega), del_lo h (by omega)]
theorem touch_hi {V U : Nat → Int} {p k : Nat} (h : p ≤ k) : touchB V (delU U p) k = touchB V U (k + 1) := by
  unfold touchB; rw [del_hi h, del_hi h, del_hi h, del_hi h, del_hi h]
theorem gone_eq (V U : Nat → Int) (p n : Nat) : ∀ q, q < (n - 1) * 12 → wakeR V (delU U p) n (n - 1) q = delU (wakeR V U p n) p q := by
  intro q hq
  by_cases l : q < p * 12
  · have e1 : delU (wakeR V U p n) p q = wakeR V U p n q := by unfold delU; rw [if_pos l]
    have e2 : delU U p q = U q := by unfold delU; rw [if_pos l]
    rw [e1]
    unfold wakeR
    rw [e2, touch_lo (by omega)]
    by_cases c : q % 12 = 11 ∧ touchB V U (q / 12) = true ∧ U q = 8
    · rw [if_pos ⟨by omega, c.1, by omega, c.2.1, c.2.2⟩, if_pos ⟨by omega, c.1, by omega, c.2.1, c.2.2⟩]
    · rw [if_neg (fun x => c ⟨x.2.1, x.2.2.2.1, x.2.2.2.2⟩), if_neg (fun x => c ⟨x.2.1, x.2.2.2.1, x.2.2.2.2⟩)]
  · have e1 : delU (wakeR V U p n) p q = wakeR V U p n (q + 12) := by unfold delU; rw [if_neg l]
    have e2 : delU U p q = U (q + 12) := by unfold delU; rw [if_neg l]
    rw [e1]
    unfold wakeR
    rw [e2, touch_hi (by omega), show (q + 12) % 12 = q % 12 by omega, show (q + 12) / 12 = q / 12 + 1 by omega]
    by_cases c : q % 12 = 11 ∧ touchB V U (q / 12 + 1) = true ∧ U (q + 12) = 8
    · rw [if_pos ⟨by omega, c.1, by omega, c.2.1, c.2.2⟩, if_pos ⟨by omega, c.1, by omega, c.2.1, c.2.2⟩]
    · rw [if_neg (fun x => c ⟨x.2.1, x.2.2.2.1, x.2.2.2.2⟩), if_neg (fun x => c ⟨x.2.1, x.2.2.2.1, x.2.2.2.2⟩)]
/-- pairs of which a body is none -/
def gnB (Q : Nat → Int) (id : Int) (k : Nat) : Bool := !(decide (Q (k * 2) = id) || decide (Q (k * 2 + 1) = id))
def gnL (Q : Nat → Int) (id : Int) : Nat → List Int
  | 0 => []
  | k + 1 => gnL Q id k ++ (if gnB Q id k = true then [Q (k * 2), Q (k * 2 + 1)] else [])
theorem gnL_yes {Q : Nat → Int} {id : Int} {k : Nat} (h : gnB Q id k = true) : gnL Q id (k + 1) = gnL Q id k ++ [Q (k * 2), Q (k * 2 + 1)] := by rw [gnL, if_pos h]
theorem gnL_no {Q : Nat → Int} {id : Int} {k : Nat} (h : gnB Q id k = false) : gnL Q id (k + 1) = gnL Q id k := by rw [gnL, if_neg (by rw [h]; decide), List.append_nil]
theorem gnL_len (Q : Nat → Int) (id : Int) : ∀ k, (gnL Q id k).length ≤ k * 2
  | 0 => by simp [gnL]
  | k + 1 => by
    have := gnL_len Q id k
    cases h : gnB Q id k with
    | true => rw [gnL_yes h, List.length_append]; simp; omega
    | false => rw [gnL_no h]; omega
def goneWA (T P : Int) (n : Nat) (U : Nat → Int) (m : Nat) (Q : Nat → Int) (id : Int) (p : Nat) : WA :=
  bif worldB T P n U m Q then (bif decide (p < n ∧ U (p * 12) = id) then ⟨T, P, n - 1, delU (wakeR (fun j => U (p * 12 + j)) U p n) p, (gnL Q id m).length / 2, ofL (gnL Q id m), 0⟩ else ⟨T, P, n, U, m, Q, 4⟩) else WA.none
theorem flatHead {wz : World} {b o n k : Nat} {U : Nat → Int} (q : Flat wz (some ⟨b, o, none⟩) (n * 12) U) (hk : k < n) : Flat wz (some ⟨b, o, none⟩) (k * 12) U := fun h0 => by
  obtain ⟨b', o', e, l, cc⟩ := q (by omega)
  exact ⟨b', o', e, l, fun q hq => cc q (by omega)⟩
theorem flatTail {wz : World} {b o n k c : Nat} {U : Nat → Int} {at2 : Option Addr} (hat2 : (if c = k + 1 then some (⟨b, o, none⟩ : Addr) else some ⟨b, o + (k + 1) * 12, none⟩) = at2) (hnc : n ≤ c) (q : Flat wz (some ⟨b, o, none⟩) (n * 12) U) : Flat wz at2 ((n - (k + 1)) * 12) (fun q => U (q + (k + 1) * 12)) := fun h0 => by
  obtain ⟨b', o', e, l, cc⟩ := q (by omega)
  simp only [Option.some.injEq, Addr.mk.injEq, and_true] at e
  obtain ⟨rfl, rfl⟩ := e
  refine ⟨b, o + (k + 1) * 12, by rw [← hat2, if_neg (by omega)], l, fun q hq => ?_⟩
  rw [show o + (k + 1) * 12 + q = o + (q + (k + 1) * 12) by omega]
  exact cc _ (by omega)
theorem OwnL.capge {w : World} {base t k n c : Nat} {a : Option Addr} {U : Nat → Int} (h : OwnL w base t k (.slice a n c) n U) : n ≤ c := by
  rcases h.2 with ⟨hv, hn⟩ | ⟨g, cap, cur, hv, hb, hg, h1, h2, _⟩
  · simp only [Value.slice.injEq] at hv; omega
  · simp only [Value.slice.injEq] at hv; omega
/-- the row of a body is in its columns' bounds -/
theorem Vw.top {wc : World} {lo hi bx : Nat} {T P : Int} {a1 : Option Addr} {n c1 : Nat} {U : Nat → Int} {a2 : Option Addr} {m c2 : Nat} {Q : Nat → Int} (h : Vw wc lo hi bx T P a1 n c1 U a2 m c2 Q) : Vw wc lo wc.heap.size bx T P a1 n c1 U a2 m c2 Q :=
  ⟨h.c0, h.c1, h.c2, h.c3, h.nf, h.bl, h.blt, Nat.le_refl _, h.ob, h.op, fun b e => ⟨(h.ob.lt b e).2, (h.t1 b e).2⟩, fun b e => ⟨(h.op.lt b e).2, (h.t2 b e).2⟩⟩
theorem Vw.onT {wc w' : World} {lo bx : Nat} {T P : Int} {a1 : Option Addr} {n c1 : Nat} {U : Nat → Int} {a2 : Option Addr} {m c2 : Nat} {Q : Nat → Int} (h : Vw wc lo wc.heap.size bx T P a1 n c1 U a2 m c2 Q) (hb : Below wc.heap.size wc w') : Vw w' lo w'.heap.size bx T P a1 n c1 U a2 m c2 Q := (h.on hb).top
/-- its pairs are another list -/
theorem Vw.setP {wc w1 : World} {lo bx : Nat} {T P : Int} {a1 : Option Addr} {n c1 : Nat} {U : Nat → Int} {a2 : Option Addr} {m c2 : Nat} {Q : Nat → Int} {a3 : Option Addr} {m3 c3 : Nat} {Q3 : Nat → Int} (h : Vw wc lo wc.heap.size bx T P a1 n c1 U a2 m c2 Q) (hg : wc.grownBy w1 (Value.slice a2 m c2).ownBlock) (ho : OwnL w1 lo 45 2 (.slice a3 m3 c3) m3 Q3)
    (hx : ∀ b, (Value.slice a3 m3 c3).ownBlock = some b → b ≠ bx) : Vw (w1.setCell ⟨bx, 3, none⟩ (.slice a3 m3 c3)) lo w1.heap.size bx T P a1 n c1 U a3 m3 c3 Q3 := by
  have hset := cset_map
  have hF : Fr (fun b => (Value.slice a2 m c2).ownBlock = some b) wc w1 := Fr.grown hg (fun b e => e) h.op.isCells
  have nb : ¬ (Value.slice a2 m c2).ownBlock = some bx := fun e => (h.t2 bx e).2 rfl
  have k := fun o => hF.cell (p := ⟨bx, o, none⟩) h.blt nb
  have kf := fun o => hF.frozen (p := ⟨bx, o, none⟩) h.blt nb
  have z0 := (k 0).trans h.c0
  have z1 := (k 1).trans h.c1
  have z2 := (k 2).trans h.c2
  have z3 := (k 3).trans h.c3
  have zf := fun o => (kf o).trans (h.nf o)
  clear k kf
  have hs : Fr (fun b => b = bx) w1 (w1.setCell ⟨bx, 3, none⟩ (.slice a3 m3 c3)) := Fr.setCell (X := fun b => b = bx) rfl _
  have ob1 := h.ob.frame hF (fun b e x => h.ob.neT h.op (by decide) b e x)
  refine ⟨by go_simp, by go_simp, by go_simp, by go_simp, fun o => by go_simp, h.bl, Nat.lt_of_lt_of_le h.blt hF.size, hs.size, ob1.frame hs (fun b e x => (h.t1 b e).2 x), ho.frame hs (fun b e x => hx b e x), fun b e => ⟨(ob1.lt b e).2, (h.t1 b e).2⟩, fun b e => ⟨(ho.lt b e).2, hx b e⟩⟩
theorem Vw.congrQ {wc : World} {lo hi bx : Nat} {T P : Int} {a1 : Option Addr} {n c1 : Nat} {U : Nat → Int} {a2 : Option Addr} {m c2 : Nat} {Q Q' : Nat → Int} (h : Vw wc lo hi bx T P a1 n c1 U a2 m c2 Q) (e : ∀ q, q < m * 2 → Q q = Q' q) : Vw wc lo hi bx T P a1 n c1 U a2 m c2 Q' :=
  ⟨h.c0, h.c1, h.c2, h.c3, h.nf, h.bl, h.bh, h.le, h.ob, h.op.congr e, h.t1, h.t2⟩
theorem Vw.congrU {wc : World} {lo hi bx : Nat} {T P : Int} {a1 : Option Addr} {n c1 : Nat} {U U' : Nat → Int} {a2 : Option Addr} {m c2 : Nat} {Q : Nat → Int} (h : Vw wc lo hi bx T P a1 n c1 U a2 m c2 Q) (e : ∀ q, q < n * 12 → U q = U' q) : Vw wc lo hi bx T P a1 n c1 U' a2 m c2 Q :=
  ⟨h.c0, h.c1, h.c2, h.c3, h.nf, h.bl, h.bh, h.le, h.ob.congr e, h.op, h.t1, h.t2⟩
theorem wpList_appk {P : Program} {ops : Array Oper} {o : Oper} {a : Act} {w : World} {Q : Exit → Act → World → Prop} {rest : List Oper} (hgd : o.guard = none) (s x : Operand) (t : TypeId)
    (ho : o.op = .call { callee := .builtin .append, args := #[s, x], argTypes := #[t, t] })
    (base e k bytes : Nat) (z : Value) (ht : P.underlying t = some (.slice e)) (hinfo : (P.info? e).map (fun i => (i.zero, i.size, i.bytes)) = some (some z, k, bytes)) (hzs : z.cells.size = k) (hk : 0 < k)
    (v : Value) (n : Nat) (U : Nat → Int) (hs : a.eval s = v) (h : OwnL w base e k v n U) (B c : Nat) (X : Nat → Int) (hx : a.eval x = .slice (some ⟨B, 0, none⟩) 1 c) (hv : ∀ q, q < k → w.cell? ⟨B, q, none⟩ = some (.int .i64 (X q)))
    (h63 : n + 1 ≤ maxLen) (hbytes : (n + 1) * bytes ≤ 140737488355328) (hbase : base ≤ w.heap.size) (H : Nat) (hH : w.heap.size = H)
    (hK : ∀ g cap w', OwnL w' base e k (.slice (some ⟨g, 0, none⟩) (n + 1) cap) (n + 1) (cat (n * k) U X) → w.grownBy w' v.ownBlock → (v.ownBlock = some g ∨ g = H) → g < w'.heap.size → wpList P ops Q rest (a.put o.dst (.slice (some ⟨g, 0, none⟩) (n + 1) cap)) w') : wpList P ops Q (o :: rest) a w :=
  wpList_plain hgd fun K hK' => by
    have q := step_appk (ops := ops) (K := K) (Q := Q) (E := True) hgd s x t ho base e k bytes z ht hinfo hzs hk v n U hs h B c X hx hv h63 hbytes hbase H hH (fun g cap w' h1 h2 h3 h4 => hK' _ _ (hK g cap w' h1 h2 h3 h4))
    rwa [if_pos (by simp [Region.wanted, hgd])] at q
end Go.Proofs.YthekeeagjokpeaaGreat
namespace Go.Proofs.YthekeeagjokpeaaGreat
open Go.RowKit
set_option linter.unusedVariables false
set_option linter.unusedSimpArgs false

set_option maxHeartbeats 8000000 in
theorem spanAround_any (x y u v : Int) (w : World) (hx : -4000000000 ≤ x ∧ x ≤ 4000000000) (hy : -4000000000 ≤ y ∧ y ≤ 4000000000) (hu : -4000000000 ≤ u ∧ u ≤ 4000000000) (hv : -4000000000 ≤ v ∧ v ≤ 4000000000) :
    Calls Tryz.prog 122 #[vv x y, vv u v] w fun e w' => e = .returned (b4 (x - u) (y - v) (x + u) (y + v)) ∧ Below w.heap.size w w' := by
  have hset := cset_map
  go_enter Tryz.func122, Tryz.ntmps122
  go_wp2
  go_region_held3 (fun w' => w'.cell? ⟨w.heap.size, 0, none⟩ = some (.int .i64 x) ∧ w'.cell? ⟨w.heap.size, 1, none⟩ = some (.int .i64 y) ∧ w'.cell? ⟨w.heap.size + 1, 0, none⟩ = some (.int .i64 u) ∧ w'.cell? ⟨w.heap.size + 1, 1, none⟩ = some (.int .i64 v)) (first | (go_simp; done) | (go_keep; done)) (first
    | (go_at_call 129; refine (plus_any _ _ _ _ _ (by omega) (by omega) (by omega) (by omega)).mono ?_; rintro e w1 ⟨rfl, hb1⟩; obtain ⟨hc1, hf1⟩ := bcell hb1; have hl1 := blt hb1; have hz1 := hb1.size; (try simp only [World.size_drew, World.size_alloc, World.size_setCell] at hc1 hf1 hl1 hz1); (try have hq1x0 : w.heap.size < w1.heap.size := (by omega)); (try have hq1x1 : w.heap.size + 1 < w1.heap.size := (by omega)); (try have hq1x2 : w.heap.size + 1 + 1 < w1.heap.size := (by omega)))
    | (go_at_call 95; refine (less_any _ _ _ _ _ (by omega) (by omega) (by omega) (by omega)).mono ?_; rintro e w1 ⟨rfl, hb1⟩; obtain ⟨hc1, hf1⟩ := bcell hb1; have hl1 := blt hb1; have hz1 := hb1.size; (try simp only [World.size_drew, World.size_alloc, World.size_setCell] at hc1 hf1 hl1 hz1); (try have hq1x0 : w.heap.size < w1.heap.size := (by omega)); (try have hq1x1 : w.heap.size + 1 < w1.heap.size := (by omega)); (try have hq1x2 : w.heap.size + 1 + 1 < w1.heap.size := (by omega))))
  all_goals
    go_wp2
    exact bodyPost_ret (v := b4 (x - u) (y - v) (x + u) (y + v)) (by simp [results, Tryz.results122, go_sem, *]) rfl ⟨rfl, by repeat (first | with_reducible apply Below.refl | (with_reducible apply Below.setCell; rotate_left; focus (first | omega | (simp; done) | (simp; omega))) | (with_reducible apply Below.alloc; rotate_left; focus (first | omega | (simp; done) | (simp; omega))) | with_reducible apply Below.drew | with_reducible apply belowDrewN | (with_reducible apply Below.trans; rotate_left; with_reducible apply Below.mono; with_reducible assumption; focus (first | omega | (simp; done) | (simp; omega))))⟩

end Go.Proofs.YthekeeagjokpeaaGreat
namespace Go.Proofs.YthekeeagjokpeaaGreat
open Go.RowKit
set_option linter.unusedVariables false
set_option linter.unusedSimpArgs false

theorem unit_z (x y X Y : Int) (w : World) (hx : -1000000000 ≤ x ∧ x ≤ 1000000000) (hy : -1000000000 ≤ y ∧ y ≤ 1000000000) (e1 : ux x y = X) (e2 : uy x y = Y) :
    Calls Tryz.prog 119 #[vv x y] w fun e w' => e = .returned (vv X Y) ∧ Below w.heap.size w w' := by
  subst e1; subst e2; exact unit_any x y w hx hy
theorem length_z (x y L : Int) (w : World) (hx : -1000000000 ≤ x ∧ x ≤ 1000000000) (hy : -1000000000 ≤ y ∧ y ≤ 1000000000) (e : vl x y = L) :
    Calls Tryz.prog 120 #[vv x y] w fun e w' => e = .returned (.int .i64 L) ∧ Below w.heap.size w w' := by
  subst e; exact length_any x y w hx hy
set_option maxHeartbeats 4000000 in
theorem roundDent_q (dx dy g X Y D : Int) (K : Bool) (w : World) (qx : -6000000 ≤ dx ∧ dx ≤ 6000000) (qy : -6000000 ≤ dy ∧ dy ≤ 6000000) (g0 : 0 ≤ g ∧ g ≤ 100000) (e : rdT dx dy g = ((X, Y, D), K)) :
    Calls Tryz.prog 94 #[vv dx dy, .int .i64 g] w fun e w' => e = .returned (.tuple #[s3 X Y D, .bool K]) ∧ Below w.heap.size w w' := by
  have hset := cset_map
  have m3 := mul_bd (a := g) (b := g) (A := 100000) (B := 100000) (by omega) (by omega)
  have w3 := i64w (n := g * g) (by omega)
  unfold rdT at e
  cases dd : decide (g * g < dx * dx + dy * dy) with
  | true =>
    have hn := of_decide_eq_true dd
    rw [if_neg (by omega)] at e
    simp only [Prod.mk.injEq] at e
    obtain ⟨⟨eX, eY, eD⟩, eK⟩ := e
    subst eX
    subst eY
    subst eD
    subst eK
    clear hn m3
    go_enter Tryz.func94, Tryz.ntmps94
    go_wp2_with (go_at_call 118; refine (products_any _ _ _ _ _ (by omega) (by omega) (by omega) (by omega)).mono ?_; rintro e w1 ⟨rfl, hb1⟩; obtain ⟨hc1, hf1⟩ := bcell hb1; have hz1 := hb1.size; (try simp only [World.size_drew, World.size_alloc, World.size_setCell] at hc1 hf1 hz1); have hk1x0 := fun o => hc1 (w.heap.size) o (by omega); have hj1x0 := fun o => hf1 (w.heap.size) o (by omega); have hq1x0 : w.heap.size < w1.heap.size := (by omega); have hk1x1 := fun o => hc1 (w.heap.size + 1) o (by omega); have hj1x1 := fun o => hf1 (w.heap.size + 1) o (by omega); have hq1x1 : w.heap.size + 1 < w1.heap.size := (by omega); clear hc1 hf1)
    exact bodyPost_ret (v := .tuple #[s3 0 0 0, .bool false]) (by simp [results, Tryz.results94, go_sem, *]) rfl ⟨rfl, by repeat (first | with_reducible apply Below.refl | (with_reducible apply Below.setCell; rotate_left; focus (first | omega | (simp; done) | (simp; omega))) | (with_reducible apply Below.alloc; rotate_left; focus (first | omega | (simp; done) | (simp; omega))) | with_reducible apply Below.drew | with_reducible apply belowDrewN | (with_reducible apply Below.trans; rotate_left; with_reducible apply Below.mono; with_reducible assumption; focus (first | omega | (simp; done) | (simp; omega))))⟩
  | false =>
    have hn := of_decide_eq_false dd
    rw [if_pos (by omega)] at e
    obtain ⟨L, eL⟩ : ∃ z, vl dx dy = z := ⟨_, rfl⟩
    have lb := vl_bd dx dy
    rw [eL] at lb e
    simp only [Prod.mk.injEq] at e
    obtain ⟨⟨eX, eY, eD⟩, eK⟩ := e
    subst eD
    subst eK
    have w4 := i64w (n := g - L) (by omega)
    clear hn m3
    go_enter Tryz.func94, Tryz.ntmps94
    go_upto_region 3 with (go_at_call 118; refine (products_any _ _ _ _ _ (by omega) (by omega) (by omega) (by omega)).mono ?_; rintro e w1 ⟨rfl, hb1⟩; obtain ⟨hc1, hf1⟩ := bcell hb1; have hz1 := hb1.size; (try simp only [World.size_drew, World.size_alloc, World.size_setCell] at hc1 hf1 hz1); have hk1x0 := fun o => hc1 (w.heap.size) o (by omega); have hj1x0 := fun o => hf1 (w.heap.size) o (by omega); have hq1x0 : w.heap.size < w1.heap.size := (by omega); have hk1x1 := fun o => hc1 (w.heap.size + 1) o (by omega); have hj1x1 := fun o => hf1 (w.heap.size + 1) o (by omega); have hq1x1 : w.heap.size + 1 < w1.heap.size := (by omega); clear hc1 hf1)
    refine wp_region_held_drew (S := fun w' => w'.cell? ⟨w.heap.size, 0, none⟩ = some (.int .i64 dx) ∧ w'.cell? ⟨w.heap.size, 1, none⟩ = some (.int .i64 dy)) (by kernel_rfl) ?_ (fun hHeld => ?_)
    · (try dsimp only)
      (first | (go_simp; done) | (go_keep; done))
    (refine wpAnyH_take (i := 0) (oi := { dst := some 14, op := Go.Op.load 87 (Go.Operand.tmp 2), type := 87, pos := "l5_touch.go:55", after := #[], guard := none }) (v := ?_) rfl (by kernel_rfl) (by kernel_rfl) (by kernel_rfl) (fun _ _ _ h => h) (Or.inl ⟨by rfl, ?_⟩) hHeld ?_; rotate_left; (focus ((intro w hSw; (try dsimp only at hSw); go_simp); (try with_reducible rfl); done)); (try simp only [Act.put, List.setIfInBounds_toArray, List.set_cons_zero, List.set_cons_succ]))
    (refine wpAnyH_take (i := 2) (oi := { dst := some 16, op := Go.Op.move (Go.Operand.tmp 1), type := 78, pos := "l5_touch.go:55", after := #[], guard := none }) (v := ?_) rfl (by kernel_rfl) (by kernel_rfl) (by kernel_rfl) (fun _ _ _ h => h) (Or.inl ⟨by rfl, ?_⟩) hHeld ?_; rotate_left; (focus ((intro w hSw; (try dsimp only at hSw); go_simp); (try with_reducible rfl); done)); (try simp only [Act.put, List.setIfInBounds_toArray, List.set_cons_zero, List.set_cons_succ]))
    (refine wpAnyH_take (i := 3) (oi := { dst := some 17, op := Go.Op.load 87 (Go.Operand.tmp 2), type := 87, pos := "l5_touch.go:55", after := #[], guard := none }) (v := ?_) rfl (by kernel_rfl) (by kernel_rfl) (by kernel_rfl) (fun _ _ _ h => h) (Or.inl ⟨by rfl, ?_⟩) hHeld ?_; rotate_left; (focus ((intro w hSw; (try dsimp only at hSw); go_simp); (try with_reducible rfl); done)); (try simp only [Act.put, List.setIfInBounds_toArray, List.set_cons_zero, List.set_cons_succ]))
    (refine wpAnyH_ready (rs := [1]) (by kernel_rfl) (by simp) ?_; refine AllReadyH.cons (o := { dst := some 15, op := Go.Op.call { callee := Go.Callee.value (Go.Operand.func 119), args := #[Go.Operand.tmp 14], argTypes := #[87] }, type := 87, pos := "l5_touch.go:55", after := #[{ on := 0, ground := Go.Ground.data }], guard := none }) rfl (fun K hK => ?_) AllReadyH.nil; go_simp; (go_at_call 119; refine (unit_z _ _ _ _ _ (by omega) (by omega) eX eY).mono ?_; rintro e w2 ⟨rfl, hb2⟩; obtain ⟨hc2, hf2⟩ := bcell hb2; have hz2 := hb2.size; (try simp only [World.size_drew, World.size_alloc, World.size_setCell] at hc2 hf2 hz2); have hk2x0 := fun o => hc2 (w.heap.size) o (by omega); have hj2x0 := fun o => hf2 (w.heap.size) o (by omega); have hq2x0 : w.heap.size < w2.heap.size := (by omega); have hk2x1 := fun o => hc2 (w.heap.size + 1) o (by omega); have hj2x1 := fun o => hf2 (w.heap.size + 1) o (by omega); have hq2x1 : w.heap.size + 1 < w2.heap.size := (by omega); clear hc2 hf2); (try go_wp2_with fail); refine hK.out _ _ ?_ (fun hHeld => ?_); (focus ((try dsimp only); (first | (go_simp; done) | (go_keep; done)))); clear hK K; (try simp only [Act.put, List.setIfInBounds_toArray, List.set_cons_zero, List.set_cons_succ]))
    (refine wpAnyH_ready (rs := [4]) (by kernel_rfl) (by simp) ?_; refine AllReadyH.cons (o := { dst := some 18, op := Go.Op.call { callee := Go.Callee.value (Go.Operand.func 120), args := #[Go.Operand.tmp 17], argTypes := #[87] }, type := 78, pos := "l5_touch.go:55", after := #[{ on := 3, ground := Go.Ground.data }, { on := 1, ground := Go.Ground.chain }], guard := none }) rfl (fun K hK => ?_) AllReadyH.nil; go_simp; (go_at_call 120; refine (length_z _ _ _ _ (by omega) (by omega) eL).mono ?_; rintro e w3 ⟨rfl, hb3⟩; obtain ⟨hc3, hf3⟩ := bcell hb3; have hz3 := hb3.size; (try simp only [World.size_drew, World.size_alloc, World.size_setCell] at hc3 hf3 hz3); have hk3x0 := fun o => hc3 (w.heap.size) o (by omega); have hj3x0 := fun o => hf3 (w.heap.size) o (by omega); have hq3x0 : w.heap.size < w3.heap.size := (by omega); have hk3x1 := fun o => hc3 (w.heap.size + 1) o (by omega); have hj3x1 := fun o => hf3 (w.heap.size + 1) o (by omega); have hq3x1 : w.heap.size + 1 < w3.heap.size := (by omega); clear hc3 hf3); (try go_wp2_with fail); refine hK.out _ _ ?_ (fun hHeld => ?_); (focus ((try dsimp only); (first | (go_simp; done) | (go_keep; done)))); clear hK K; (try simp only [Act.put, List.setIfInBounds_toArray, List.set_cons_zero, List.set_cons_succ]))
    (refine wpAnyH_take (i := 5) (oi := { dst := some 19, op := Go.Op.binOp Go.BinOp.sub 78 (Go.Operand.tmp 16) (Go.Operand.tmp 18) 78, type := 78, pos := "l5_touch.go:55", after := #[{ on := 2, ground := Go.Ground.data }, { on := 4, ground := Go.Ground.data }], guard := none }) (v := ?_) rfl (by kernel_rfl) (by kernel_rfl) (by kernel_rfl) (fun _ _ _ h => h) (Or.inl ⟨by rfl, ?_⟩) hHeld ?_; rotate_left; (focus ((intro w hSw; (try dsimp only at hSw); go_simp); (try with_reducible rfl); done)); (try simp only [Act.put, List.setIfInBounds_toArray, List.set_cons_zero, List.set_cons_succ]))
    (refine wpAnyH_take (i := 6) (oi := { dst := some 20, op := Go.Op.build 93 #[(0, Go.Operand.tmp 15), (1, Go.Operand.tmp 19)], type := 93, pos := "l5_touch.go:55", after := #[{ on := 1, ground := Go.Ground.data }, { on := 5, ground := Go.Ground.data }], guard := none }) (v := ?_) rfl (by kernel_rfl) (by kernel_rfl) (by kernel_rfl) (fun _ _ _ h => h) (Or.inl ⟨by rfl, ?_⟩) hHeld ?_; rotate_left; (focus ((intro w hSw; (try dsimp only at hSw); go_simp); (try with_reducible rfl); done)); (try simp only [Act.put, List.setIfInBounds_toArray, List.set_cons_zero, List.set_cons_succ]))
    (refine wpAnyH_ready (rs := [7]) (by kernel_rfl) (by simp) ?_; refine AllReadyH.cons (o := { dst := none, op := Go.Op.store 93 (Go.Operand.tmp 4) (Go.Operand.tmp 20), type := 0, pos := "l5_touch.go:55", after := #[{ on := 6, ground := Go.Ground.data }, { on := 4, ground := Go.Ground.chain }, { on := 0, ground := Go.Ground.phase }, { on := 1, ground := Go.Ground.phase }, { on := 2, ground := Go.Ground.phase }, { on := 3, ground := Go.Ground.phase }, { on := 4, ground := Go.Ground.phase }, { on := 5, ground := Go.Ground.phase }, { on := 6, ground := Go.Ground.phase }], guard := none }) rfl (fun K hK => ?_) AllReadyH.nil; go_simp; refine hK.out _ _ ?_ (fun hHeld => ?_); (focus ((try dsimp only); (first | (go_simp; done) | (go_keep; done)))); clear hK K; (try simp only [Act.put, List.setIfInBounds_toArray, List.set_cons_zero, List.set_cons_succ]))
    (refine wpAnyH_take (i := 8) (oi := { dst := some 5, op := Go.Op.assign (Go.Operand.const (Go.Value.bool true)), type := 4, pos := "l5_touch.go:55", after := #[{ on := 7, ground := Go.Ground.chain }, { on := 0, ground := Go.Ground.phase }, { on := 1, ground := Go.Ground.phase }, { on := 2, ground := Go.Ground.phase }, { on := 3, ground := Go.Ground.phase }, { on := 4, ground := Go.Ground.phase }, { on := 5, ground := Go.Ground.phase }, { on := 6, ground := Go.Ground.phase }, { on := 7, ground := Go.Ground.phase }], guard := none }) (v := ?_) rfl (by kernel_rfl) (by kernel_rfl) (by kernel_rfl) (fun _ _ _ h => h) (Or.inl ⟨by rfl, ?_⟩) hHeld ?_; rotate_left; (focus ((intro w hSw; (try dsimp only at hSw); go_simp); (try with_reducible rfl); done)); (try simp only [Act.put, List.setIfInBounds_toArray, List.set_cons_zero, List.set_cons_succ]))
    refine wpAnyH_done (by kernel_rfl) ?_ _
    go_wp2_with fail
    exact bodyPost_ret (v := .tuple #[s3 X Y (g - L), .bool true]) (by simp [results, Tryz.results94, go_sem, *]) rfl ⟨rfl, by repeat (first | with_reducible apply Below.refl | (with_reducible apply Below.setCell; rotate_left; focus (first | omega | (simp; done) | (simp; omega))) | (with_reducible apply Below.alloc; rotate_left; focus (first | omega | (simp; done) | (simp; omega))) | with_reducible apply Below.drew | with_reducible apply belowDrewN | (with_reducible apply Below.trans; rotate_left; with_reducible apply Below.mono; with_reducible assumption; focus (first | omega | (simp; done) | (simp; omega))))⟩

set_option maxHeartbeats 4000000 in
theorem placedBounds_q (x y g h : Int) (w : World) (qx : -3000000 ≤ x ∧ x ≤ 3000000) (qy : -3000000 ≤ y ∧ y ≤ 3000000) (qg : -3000000 ≤ g ∧ g ≤ 3000000) (qh : -3000000 ≤ h ∧ h ≤ 3000000) :
    Calls Tryz.prog 98 #[b4 x y g h] w fun e w' => e = .returned (b4 (x - g) (y - h) (x + g) (y + h)) ∧ Below w.heap.size w w' := by
  have hset := cset_map
  go_enter Tryz.func98, Tryz.ntmps98
  go_wp2_with (go_at_call 122; refine (spanAround_any _ _ _ _ _ (by omega) (by omega) (by omega) (by omega)).mono ?_; rintro e w1 ⟨rfl, hb1⟩; obtain ⟨hc1, hf1⟩ := bcell hb1; have hz1 := hb1.size; (try simp only [World.size_drew, World.size_alloc, World.size_setCell] at hc1 hf1 hz1); have hk1x0 := fun o => hc1 (w.heap.size) o (by omega); have hj1x0 := fun o => hf1 (w.heap.size) o (by omega); have hq1x0 : w.heap.size < w1.heap.size := (by omega); have hk1x1 := fun o => hc1 (w.heap.size + 1) o (by omega); have hj1x1 := fun o => hf1 (w.heap.size + 1) o (by omega); have hq1x1 : w.heap.size + 1 < w1.heap.size := (by omega); clear hc1 hf1)
  exact bodyPost_ret (v := b4 (x - g) (y - h) (x + g) (y + h)) (by simp [results, Tryz.results98, go_sem, *]) rfl ⟨rfl, by repeat (first | with_reducible apply Below.refl | (with_reducible apply Below.setCell; rotate_left; focus (first | omega | (simp; done) | (simp; omega))) | (with_reducible apply Below.alloc; rotate_left; focus (first | omega | (simp; done) | (simp; omega))) | with_reducible apply Below.drew | with_reducible apply belowDrewN | (with_reducible apply Below.trans; rotate_left; with_reducible apply Below.mono; with_reducible assumption; focus (first | omega | (simp; done) | (simp; omega))))⟩
set_option maxHeartbeats 4000000 in
theorem placedWide_q (x y g h : Int) (w : World) :
    Calls Tryz.prog 96 #[b4 x y g h] w fun e w' => e = .returned (.int .i64 g) ∧ Below w.heap.size w w' := by
  have hset := cset_map
  go_enter Tryz.func96, Tryz.ntmps96
  go_wp2_with fail
  go_ret
  exact ⟨rfl, by repeat (first | with_reducible apply Below.refl | (with_reducible apply Below.setCell; rotate_left; focus (first | omega | (simp; done) | (simp; omega))) | (with_reducible apply Below.alloc; rotate_left; focus (first | omega | (simp; done) | (simp; omega))) | with_reducible apply Below.drew | with_reducible apply belowDrewN | (with_reducible apply Below.trans; rotate_left; with_reducible apply Below.mono; with_reducible assumption; focus (first | omega | (simp; done) | (simp; omega))))⟩
set_option maxHeartbeats 4000000 in
theorem dentHit_q (X Y D : Int) (w : World) :
    Calls Tryz.prog 50 #[s3 X Y D] w fun e w' => e = .returned (s3 X Y D) ∧ Below w.heap.size w w' := by
  have hset := cset_map
  go_enter Tryz.func50, Tryz.ntmps50
  go_upto_region 1 with fail
  refine wp_region_held_drew (S := fun w' => w'.cell? ⟨w.heap.size, 0, none⟩ = some (.int .i64 X) ∧ w'.cell? ⟨w.heap.size, 1, none⟩ = some (.int .i64 Y) ∧ w'.cell? ⟨w.heap.size, 2, none⟩ = some (.int .i64 D)) (by kernel_rfl) ?_ (fun hHeld => ?_)
  · (try dsimp only)
    (first | (go_simp; done) | (go_keep; done))
  (refine wpAnyH_take (i := 0) (oi := { dst := some 3, op := Go.Op.fieldAddr 93 (Go.Operand.tmp 1) 0, type := 0, pos := "l5_touch.go:42", after := #[], guard := none }) (v := ?_) rfl (by kernel_rfl) (by kernel_rfl) (by kernel_rfl) (fun _ _ _ h => h) (Or.inl ⟨by rfl, ?_⟩) hHeld ?_; rotate_left; (focus ((intro w hSw; (try dsimp only at hSw); go_simp); (try with_reducible rfl); done)); (try simp only [Act.put, List.setIfInBounds_toArray, List.set_cons_zero, List.set_cons_succ]))
  (refine wpAnyH_take (i := 1) (oi := { dst := some 4, op := Go.Op.load 87 (Go.Operand.tmp 3), type := 87, pos := "l5_touch.go:42", after := #[{ on := 0, ground := Go.Ground.data }], guard := none }) (v := ?_) rfl (by kernel_rfl) (by kernel_rfl) (by kernel_rfl) (fun _ _ _ h => h) (Or.inl ⟨by rfl, ?_⟩) hHeld ?_; rotate_left; (focus ((intro w hSw; (try dsimp only at hSw); go_simp); (try with_reducible rfl); done)); (try simp only [Act.put, List.setIfInBounds_toArray, List.set_cons_zero, List.set_cons_succ]))
  (refine wpAnyH_take (i := 3) (oi := { dst := some 6, op := Go.Op.fieldAddr 93 (Go.Operand.tmp 1) 1, type := 0, pos := "l5_touch.go:42", after := #[], guard := none }) (v := ?_) rfl (by kernel_rfl) (by kernel_rfl) (by kernel_rfl) (fun _ _ _ h => h) (Or.inl ⟨by rfl, ?_⟩) hHeld ?_; rotate_left; (focus ((intro w hSw; (try dsimp only at hSw); go_simp); (try with_reducible rfl); done)); (try simp only [Act.put, List.setIfInBounds_toArray, List.set_cons_zero, List.set_cons_succ]))
  (refine wpAnyH_take (i := 4) (oi := { dst := some 7, op := Go.Op.load 78 (Go.Operand.tmp 6), type := 78, pos := "l5_touch.go:42", after := #[{ on := 3, ground := Go.Ground.data }], guard := none }) (v := ?_) rfl (by kernel_rfl) (by kernel_rfl) (by kernel_rfl) (fun _ _ _ h => h) (Or.inl ⟨by rfl, ?_⟩) hHeld ?_; rotate_left; (focus ((intro w hSw; (try dsimp only at hSw); go_simp); (try with_reducible rfl); done)); (try simp only [Act.put, List.setIfInBounds_toArray, List.set_cons_zero, List.set_cons_succ]))
  (refine wpAnyH_ready (rs := [2]) (by kernel_rfl) (by simp) ?_; refine AllReadyH.cons (o := { dst := some 5, op := Go.Op.call { callee := Go.Callee.value (Go.Operand.func 75), args := #[Go.Operand.tmp 4], argTypes := #[87] }, type := 53, pos := "l5_touch.go:42", after := #[{ on := 1, ground := Go.Ground.data }], guard := none }) rfl (fun K hK => ?_) AllReadyH.nil; go_simp; (go_at_call 75; refine (vec_any _ _ _).mono ?_; rintro e w1 ⟨rfl, hb1⟩; obtain ⟨hc1, hf1⟩ := bcell hb1; have hz1 := hb1.size; (try simp only [World.size_drew, World.size_alloc, World.size_setCell] at hc1 hf1 hz1); have hk1x0 := fun o => hc1 (w.heap.size) o (by omega); have hj1x0 := fun o => hf1 (w.heap.size) o (by omega); have hq1x0 : w.heap.size < w1.heap.size := (by omega); have hk1x1 := fun o => hc1 (w.heap.size + 1) o (by omega); have hj1x1 := fun o => hf1 (w.heap.size + 1) o (by omega); have hq1x1 : w.heap.size + 1 < w1.heap.size := (by omega); clear hc1 hf1); (try go_wp2_with fail); refine hK.out _ _ ?_ (fun hHeld => ?_); (focus ((try dsimp only); (first | (go_simp; done) | (go_keep; done)))); clear hK K; (try simp only [Act.put, List.setIfInBounds_toArray, List.set_cons_zero, List.set_cons_succ]))
  (refine wpAnyH_take (i := 5) (oi := { dst := some 8, op := Go.Op.build 58 #[(0, Go.Operand.tmp 5), (1, Go.Operand.tmp 7)], type := 58, pos := "l5_touch.go:42", after := #[{ on := 2, ground := Go.Ground.data }, { on := 4, ground := Go.Ground.data }], guard := none }) (v := ?_) rfl (by kernel_rfl) (by kernel_rfl) (by kernel_rfl) (fun _ _ _ h => h) (Or.inl ⟨by rfl, ?_⟩) hHeld ?_; rotate_left; (focus ((intro w hSw; (try dsimp only at hSw); go_simp); (try with_reducible rfl); done)); (try simp only [Act.put, List.setIfInBounds_toArray, List.set_cons_zero, List.set_cons_succ]))
  (refine wpAnyH_ready (rs := [6]) (by kernel_rfl) (by simp) ?_; refine AllReadyH.cons (o := { dst := none, op := Go.Op.store 58 (Go.Operand.tmp 2) (Go.Operand.tmp 8), type := 0, pos := "l5_touch.go:42", after := #[{ on := 5, ground := Go.Ground.data }, { on := 2, ground := Go.Ground.chain }, { on := 0, ground := Go.Ground.phase }, { on := 1, ground := Go.Ground.phase }, { on := 2, ground := Go.Ground.phase }, { on := 3, ground := Go.Ground.phase }, { on := 4, ground := Go.Ground.phase }, { on := 5, ground := Go.Ground.phase }], guard := none }) rfl (fun K hK => ?_) AllReadyH.nil; go_simp; refine hK.out _ _ ?_ (fun hHeld => ?_); (focus ((try dsimp only); (first | (go_simp; done) | (go_keep; done)))); clear hK K; (try simp only [Act.put, List.setIfInBounds_toArray, List.set_cons_zero, List.set_cons_succ]))
  refine wpAnyH_done (by kernel_rfl) ?_ _
  go_wp2_with fail
  exact bodyPost_ret (v := s3 X Y D) (by simp [results, Tryz.results50, go_sem, *]) rfl ⟨rfl, by repeat (first | with_reducible apply Below.refl | (with_reducible apply Below.setCell; rotate_left; focus (first | omega | (simp; done) | (simp; omega))) | (with_reducible apply Below.alloc; rotate_left; focus (first | omega | (simp; done) | (simp; omega))) | with_reducible apply Below.drew | with_reducible apply belowDrewN | (with_reducible apply Below.trans; rotate_left; with_reducible apply Below.mono; with_reducible assumption; focus (first | omega | (simp; done) | (simp; omega))))⟩
set_option maxHeartbeats 4000000 in
theorem opp_z (x y : Int) (w : World) (hx : -2000000000 ≤ x ∧ x ≤ 2000000000) (hy : -2000000000 ≤ y ∧ y ≤ 2000000000) :
    Calls Tryz.prog 121 #[vv x y] w fun e w' => e = .returned (vv (-x) (-y)) ∧ Below w.heap.size w w' := by
  have hset := cset_map
  have w1 := i64w (n := -x) (by omega)
  have w2 := i64w (n := -y) (by omega)
  go_enter Tryz.func121, Tryz.ntmps121
  go_wp2_with fail
  exact bodyPost_ret (v := vv (-x) (-y)) (by simp [results, Tryz.results121, go_sem, *]) rfl ⟨rfl, by repeat (first | with_reducible apply Below.refl | (with_reducible apply Below.setCell; rotate_left; focus (first | omega | (simp; done) | (simp; omega))) | (with_reducible apply Below.alloc; rotate_left; focus (first | omega | (simp; done) | (simp; omega))) | with_reducible apply Below.drew | with_reducible apply belowDrewN | (with_reducible apply Below.trans; rotate_left; with_reducible apply Below.mono; with_reducible assumption; focus (first | omega | (simp; done) | (simp; omega))))⟩
set_option maxHeartbeats 4000000 in
theorem dentTurned_q (X Y D : Int) (w : World) (hx : -2000000000 ≤ X ∧ X ≤ 2000000000) (hy : -2000000000 ≤ Y ∧ Y ≤ 2000000000) :
    Calls Tryz.prog 97 #[s3 X Y D] w fun e w' => e = .returned (s3 (-X) (-Y) D) ∧ Below w.heap.size w w' := by
  have hset := cset_map
  go_enter Tryz.func97, Tryz.ntmps97
  go_upto_region 1 with fail
  refine wp_region_held_drew (S := fun w' => w'.cell? ⟨w.heap.size, 0, none⟩ = some (.int .i64 X) ∧ w'.cell? ⟨w.heap.size, 1, none⟩ = some (.int .i64 Y) ∧ w'.cell? ⟨w.heap.size, 2, none⟩ = some (.int .i64 D)) (by kernel_rfl) ?_ (fun hHeld => ?_)
  · (try dsimp only)
    (first | (go_simp; done) | (go_keep; done))
  (refine wpAnyH_take (i := 0) (oi := { dst := some 3, op := Go.Op.fieldAddr 93 (Go.Operand.tmp 1) 0, type := 0, pos := "l5_touch.go:47", after := #[], guard := none }) (v := ?_) rfl (by kernel_rfl) (by kernel_rfl) (by kernel_rfl) (fun _ _ _ h => h) (Or.inl ⟨by rfl, ?_⟩) hHeld ?_; rotate_left; (focus ((intro w hSw; (try dsimp only at hSw); go_simp); (try with_reducible rfl); done)); (try simp only [Act.put, List.setIfInBounds_toArray, List.set_cons_zero, List.set_cons_succ]))
  (refine wpAnyH_take (i := 1) (oi := { dst := some 4, op := Go.Op.load 87 (Go.Operand.tmp 3), type := 87, pos := "l5_touch.go:47", after := #[{ on := 0, ground := Go.Ground.data }], guard := none }) (v := ?_) rfl (by kernel_rfl) (by kernel_rfl) (by kernel_rfl) (fun _ _ _ h => h) (Or.inl ⟨by rfl, ?_⟩) hHeld ?_; rotate_left; (focus ((intro w hSw; (try dsimp only at hSw); go_simp); (try with_reducible rfl); done)); (try simp only [Act.put, List.setIfInBounds_toArray, List.set_cons_zero, List.set_cons_succ]))
  (refine wpAnyH_take (i := 3) (oi := { dst := some 6, op := Go.Op.fieldAddr 93 (Go.Operand.tmp 1) 1, type := 0, pos := "l5_touch.go:47", after := #[], guard := none }) (v := ?_) rfl (by kernel_rfl) (by kernel_rfl) (by kernel_rfl) (fun _ _ _ h => h) (Or.inl ⟨by rfl, ?_⟩) hHeld ?_; rotate_left; (focus ((intro w hSw; (try dsimp only at hSw); go_simp); (try with_reducible rfl); done)); (try simp only [Act.put, List.setIfInBounds_toArray, List.set_cons_zero, List.set_cons_succ]))
  (refine wpAnyH_take (i := 4) (oi := { dst := some 7, op := Go.Op.load 78 (Go.Operand.tmp 6), type := 78, pos := "l5_touch.go:47", after := #[{ on := 3, ground := Go.Ground.data }], guard := none }) (v := ?_) rfl (by kernel_rfl) (by kernel_rfl) (by kernel_rfl) (fun _ _ _ h => h) (Or.inl ⟨by rfl, ?_⟩) hHeld ?_; rotate_left; (focus ((intro w hSw; (try dsimp only at hSw); go_simp); (try with_reducible rfl); done)); (try simp only [Act.put, List.setIfInBounds_toArray, List.set_cons_zero, List.set_cons_succ]))
  (refine wpAnyH_ready (rs := [2]) (by kernel_rfl) (by simp) ?_; refine AllReadyH.cons (o := { dst := some 5, op := Go.Op.call { callee := Go.Callee.value (Go.Operand.func 121), args := #[Go.Operand.tmp 4], argTypes := #[87] }, type := 87, pos := "l5_touch.go:47", after := #[{ on := 1, ground := Go.Ground.data }], guard := none }) rfl (fun K hK => ?_) AllReadyH.nil; go_simp; (go_at_call 121; refine (opp_z _ _ _ (by omega) (by omega)).mono ?_; rintro e w1 ⟨rfl, hb1⟩; obtain ⟨hc1, hf1⟩ := bcell hb1; have hz1 := hb1.size; (try simp only [World.size_drew, World.size_alloc, World.size_setCell] at hc1 hf1 hz1); have hk1x0 := fun o => hc1 (w.heap.size) o (by omega); have hj1x0 := fun o => hf1 (w.heap.size) o (by omega); have hq1x0 : w.heap.size < w1.heap.size := (by omega); have hk1x1 := fun o => hc1 (w.heap.size + 1) o (by omega); have hj1x1 := fun o => hf1 (w.heap.size + 1) o (by omega); have hq1x1 : w.heap.size + 1 < w1.heap.size := (by omega); clear hc1 hf1); (try go_wp2_with fail); refine hK.out _ _ ?_ (fun hHeld => ?_); (focus ((try dsimp only); (first | (go_simp; done) | (go_keep; done)))); clear hK K; (try simp only [Act.put, List.setIfInBounds_toArray, List.set_cons_zero, List.set_cons_succ]))
  (refine wpAnyH_take (i := 5) (oi := { dst := some 8, op := Go.Op.build 93 #[(0, Go.Operand.tmp 5), (1, Go.Operand.tmp 7)], type := 93, pos := "l5_touch.go:47", after := #[{ on := 2, ground := Go.Ground.data }, { on := 4, ground := Go.Ground.data }], guard := none }) (v := ?_) rfl (by kernel_rfl) (by kernel_rfl) (by kernel_rfl) (fun _ _ _ h => h) (Or.inl ⟨by rfl, ?_⟩) hHeld ?_; rotate_left; (focus ((intro w hSw; (try dsimp only at hSw); go_simp); (try with_reducible rfl); done)); (try simp only [Act.put, List.setIfInBounds_toArray, List.set_cons_zero, List.set_cons_succ]))
  (refine wpAnyH_ready (rs := [6]) (by kernel_rfl) (by simp) ?_; refine AllReadyH.cons (o := { dst := none, op := Go.Op.store 93 (Go.Operand.tmp 2) (Go.Operand.tmp 8), type := 0, pos := "l5_touch.go:47", after := #[{ on := 5, ground := Go.Ground.data }, { on := 2, ground := Go.Ground.chain }, { on := 0, ground := Go.Ground.phase }, { on := 1, ground := Go.Ground.phase }, { on := 2, ground := Go.Ground.phase }, { on := 3, ground := Go.Ground.phase }, { on := 4, ground := Go.Ground.phase }, { on := 5, ground := Go.Ground.phase }], guard := none }) rfl (fun K hK => ?_) AllReadyH.nil; go_simp; refine hK.out _ _ ?_ (fun hHeld => ?_); (focus ((try dsimp only); (first | (go_simp; done) | (go_keep; done)))); clear hK K; (try simp only [Act.put, List.setIfInBounds_toArray, List.set_cons_zero, List.set_cons_succ]))
  refine wpAnyH_done (by kernel_rfl) ?_ _
  go_wp2_with fail
  exact bodyPost_ret (v := s3 (-X) (-Y) D) (by simp [results, Tryz.results97, go_sem, *]) rfl ⟨rfl, by repeat (first | with_reducible apply Below.refl | (with_reducible apply Below.setCell; rotate_left; focus (first | omega | (simp; done) | (simp; omega))) | (with_reducible apply Below.alloc; rotate_left; focus (first | omega | (simp; done) | (simp; omega))) | with_reducible apply Below.drew | with_reducible apply belowDrewN | (with_reducible apply Below.trans; rotate_left; with_reducible apply Below.mono; with_reducible assumption; focus (first | omega | (simp; done) | (simp; omega))))⟩
end Go.Proofs.YthekeeagjokpeaaGreat
namespace Go.Proofs.YthekeeagjokpeaaGreat
open Go.RowKit
set_option linter.unusedVariables false
set_option linter.unusedSimpArgs false

theorem ix4_0 (v0 v1 v2 v3 v4 v5 v6 v7 v8 v9 v10 v11 : Int) (w : World) : Sem.run Tryz.prog (Instr.index 165 (.agg #[.int .i64 v0, .int .i64 v1, .int .i64 v2, .int .i64 v3, .int .i64 v4, .int .i64 v5, .int .i64 v6, .int .i64 v7, .int .i64 v8, .int .i64 v9, .int .i64 v10, .int .i64 v11]) (.int .i64 0)) w = Result.ok (s3 v0 v1 v2) w := by
  unfold Instr.index asIntOf
  go_simp

theorem ix4_1 (v0 v1 v2 v3 v4 v5 v6 v7 v8 v9 v10 v11 : Int) (w : World) : Sem.run Tryz.prog (Instr.index 165 (.agg #[.int .i64 v0, .int .i64 v1, .int .i64 v2, .int .i64 v3, .int .i64 v4, .int .i64 v5, .int .i64 v6, .int .i64 v7, .int .i64 v8, .int .i64 v9, .int .i64 v10, .int .i64 v11]) (.int .i64 1)) w = Result.ok (s3 v3 v4 v5) w := by
  unfold Instr.index asIntOf
  go_simp

theorem ix4_2 (v0 v1 v2 v3 v4 v5 v6 v7 v8 v9 v10 v11 : Int) (w : World) : Sem.run Tryz.prog (Instr.index 165 (.agg #[.int .i64 v0, .int .i64 v1, .int .i64 v2, .int .i64 v3, .int .i64 v4, .int .i64 v5, .int .i64 v6, .int .i64 v7, .int .i64 v8, .int .i64 v9, .int .i64 v10, .int .i64 v11]) (.int .i64 2)) w = Result.ok (s3 v6 v7 v8) w := by
  unfold Instr.index asIntOf
  go_simp

theorem ix4_3 (v0 v1 v2 v3 v4 v5 v6 v7 v8 v9 v10 v11 : Int) (w : World) : Sem.run Tryz.prog (Instr.index 165 (.agg #[.int .i64 v0, .int .i64 v1, .int .i64 v2, .int .i64 v3, .int .i64 v4, .int .i64 v5, .int .i64 v6, .int .i64 v7, .int .i64 v8, .int .i64 v9, .int .i64 v10, .int .i64 v11]) (.int .i64 3)) w = Result.ok (s3 v9 v10 v11) w := by
  unfold Instr.index asIntOf
  go_simp

set_option maxRecDepth 20000 in
set_option maxHeartbeats 16000000 in
theorem spanDent_q (a b c d r s t u X Y D : Int) (w : World) (qa : -3000000 ≤ a ∧ a ≤ 3000000) (qb : -3000000 ≤ b ∧ b ≤ 3000000) (qc : -3000000 ≤ c ∧ c ≤ 3000000) (qd : -3000000 ≤ d ∧ d ≤ 3000000) (qr : -3000000 ≤ r ∧ r ≤ 3000000) (qs : -3000000 ≤ s ∧ s ≤ 3000000) (qt : -3000000 ≤ t ∧ t ≤ 3000000) (qu : -3000000 ≤ u ∧ u ≤ 3000000) (e : bsT (c - r) (t - a) (d - s) (u - b) = (X, Y, D)) :
    Calls Tryz.prog 100 #[b4 a b c d, b4 r s t u] w fun e w' => e = .returned (s3 X Y D) ∧ Below w.heap.size w w' := by
  have hset := cset_map
  have hi0 := ix4_0
  have hi1 := ix4_1
  have hi2 := ix4_2
  have hi3 := ix4_3
  obtain ⟨s0, es0⟩ : ∃ z, c - r = z := ⟨_, rfl⟩
  have ws0 := i64w (n := c - r) (by omega)
  rw [es0] at e ws0
  obtain ⟨s1, es1⟩ : ∃ z, t - a = z := ⟨_, rfl⟩
  have ws1 := i64w (n := t - a) (by omega)
  rw [es1] at e ws1
  obtain ⟨s2, es2⟩ : ∃ z, d - s = z := ⟨_, rfl⟩
  have ws2 := i64w (n := d - s) (by omega)
  rw [es2] at e ws2
  obtain ⟨s3', es3'⟩ : ∃ z, u - b = z := ⟨_, rfl⟩
  have ws3' := i64w (n := u - b) (by omega)
  rw [es3'] at e ws3'
  unfold bsT at e
  cases d1 : decide (s1 < s0) with
  | true =>
    simp only [if_pos (of_decide_eq_true d1)] at e
    cases d2 : decide (s2 < s1) with
    | true =>
      simp only [if_pos (of_decide_eq_true d2)] at e
      cases d3 : decide (s3' < s2) with
      | true =>
        simp only [if_pos (of_decide_eq_true d3)] at e
        simp only [Prod.mk.injEq] at e
        obtain ⟨eX, eY, eD⟩ := e
        subst eX
        subst eY
        subst eD
        go_enter Tryz.func100, Tryz.ntmps100
        go_wp2_with fail
        refine wp_loop_rounds 5 ?_
        rw [rounds_succ]
        go_wp2_with fail
        rw [rounds_succ]
        go_wp2_with fail
        rw [rounds_succ]
        go_wp2_with fail
        rw [rounds_succ]
        go_wp2_with fail
        rw [rounds_succ]
        go_wp2_with fail
        exact bodyPost_ret (v := s3 0 (-256) s3') (by simp [results, Tryz.results100, go_sem, *]) rfl ⟨rfl, by repeat (first | with_reducible apply Below.refl | (with_reducible apply Below.setCell; rotate_left; focus (first | omega | (simp; done) | (simp; omega))) | (with_reducible apply Below.alloc; rotate_left; focus (first | omega | (simp; done) | (simp; omega))) | with_reducible apply Below.drew | with_reducible apply belowDrewN | (with_reducible apply Below.trans; rotate_left; with_reducible apply Below.mono; with_reducible assumption; focus (first | omega | (simp; done) | (simp; omega))))⟩
      | false =>
        simp only [if_neg (of_decide_eq_false d3)] at e
        simp only [Prod.mk.injEq] at e
        obtain ⟨eX, eY, eD⟩ := e
        subst eX
        subst eY
        subst eD
        go_enter Tryz.func100, Tryz.ntmps100
        go_wp2_with fail
        refine wp_loop_rounds 5 ?_
        rw [rounds_succ]
        go_wp2_with fail
        rw [rounds_succ]
        go_wp2_with fail
        rw [rounds_succ]
        go_wp2_with fail
        rw [rounds_succ]
        go_wp2_with fail
        rw [rounds_succ]
        go_wp2_with fail
        exact bodyPost_ret (v := s3 0 256 s2) (by simp [results, Tryz.results100, go_sem, *]) rfl ⟨rfl, by repeat (first | with_reducible apply Below.refl | (with_reducible apply Below.setCell; rotate_left; focus (first | omega | (simp; done) | (simp; omega))) | (with_reducible apply Below.alloc; rotate_left; focus (first | omega | (simp; done) | (simp; omega))) | with_reducible apply Below.drew | with_reducible apply belowDrewN | (with_reducible apply Below.trans; rotate_left; with_reducible apply Below.mono; with_reducible assumption; focus (first | omega | (simp; done) | (simp; omega))))⟩
    | false =>
      simp only [if_neg (of_decide_eq_false d2)] at e
      cases d3 : decide (s3' < s1) with
      | true =>
        simp only [if_pos (of_decide_eq_true d3)] at e
        simp only [Prod.mk.injEq] at e
        obtain ⟨eX, eY, eD⟩ := e
        subst eX
        subst eY
        subst eD
        go_enter Tryz.func100, Tryz.ntmps100
        go_wp2_with fail
        refine wp_loop_rounds 5 ?_
        rw [rounds_succ]
        go_wp2_with fail
        rw [rounds_succ]
        go_wp2_with fail
        rw [rounds_succ]
        go_wp2_with fail
        rw [rounds_succ]
        go_wp2_with fail
        rw [rounds_succ]
        go_wp2_with fail
        exact bodyPost_ret (v := s3 0 (-256) s3') (by simp [results, Tryz.results100, go_sem, *]) rfl ⟨rfl, by repeat (first | with_reducible apply Below.refl | (with_reducible apply Below.setCell; rotate_left; focus (first | omega | (simp; done) | (simp; omega))) | (with_reducible apply Below.alloc; rotate_left; focus (first | omega | (simp; done) | (simp; omega))) | with_reducible apply Below.drew | with_reducible apply belowDrewN | (with_reducible apply Below.trans; rotate_left; with_reducible apply Below.mono; with_reducible assumption; focus (first | omega | (simp; done) | (simp; omega))))⟩
      | false =>
        simp only [if_neg (of_decide_eq_false d3)] at e
        simp only [Prod.mk.injEq] at e
        obtain ⟨eX, eY, eD⟩ := e
        subst eX
        subst eY
        subst eD
        go_enter Tryz.func100, Tryz.ntmps100
        go_wp2_with fail
        refine wp_loop_rounds 5 ?_
        rw [rounds_succ]
        go_wp2_with fail
        rw [rounds_succ]
        go_wp2_with fail
        rw [rounds_succ]
        go_wp2_with fail
        rw [rounds_succ]
        go_wp2_with fail
        rw [rounds_succ]
        go_wp2_with fail
        exact bodyPost_ret (v := s3 (-256) 0 s1) (by simp [results, Tryz.results100, go_sem, *]) rfl ⟨rfl, by repeat (first | with_reducible apply Below.refl | (with_reducible apply Below.setCell; rotate_left; focus (first | omega | (simp; done) | (simp; omega))) | (with_reducible apply Below.alloc; rotate_left; focus (first | omega | (simp; done) | (simp; omega))) | with_reducible apply Below.drew | with_reducible apply belowDrewN | (with_reducible apply Below.trans; rotate_left; with_reducible apply Below.mono; with_reducible assumption; focus (first | omega | (simp; done) | (simp; omega))))⟩
  | false =>
    simp only [if_neg (of_decide_eq_false d1)] at e
    cases d2 : decide (s2 < s0) with
    | true =>
      simp only [if_pos (of_decide_eq_true d2)] at e
      cases d3 : decide (s3' < s2) with
      | true =>
        simp only [if_pos (of_decide_eq_true d3)] at e
        simp only [Prod.mk.injEq] at e
        obtain ⟨eX, eY, eD⟩ := e
        subst eX
        subst eY
        subst eD
        go_enter Tryz.func100, Tryz.ntmps100
        go_wp2_with fail
        refine wp_loop_rounds 5 ?_
        rw [rounds_succ]
        go_wp2_with fail
        rw [rounds_succ]
        go_wp2_with fail
        rw [rounds_succ]
        go_wp2_with fail
        rw [rounds_succ]
        go_wp2_with fail
        rw [rounds_succ]
        go_wp2_with fail
        exact bodyPost_ret (v := s3 0 (-256) s3') (by simp [results, Tryz.results100, go_sem, *]) rfl ⟨rfl, by repeat (first | with_reducible apply Below.refl | (with_reducible apply Below.setCell; rotate_left; focus (first | omega | (simp; done) | (simp; omega))) | (with_reducible apply Below.alloc; rotate_left; focus (first | omega | (simp; done) | (simp; omega))) | with_reducible apply Below.drew | with_reducible apply belowDrewN | (with_reducible apply Below.trans; rotate_left; with_reducible apply Below.mono; with_reducible assumption; focus (first | omega | (simp; done) | (simp; omega))))⟩
      | false =>
        simp only [if_neg (of_decide_eq_false d3)] at e
        simp only [Prod.mk.injEq] at e
        obtain ⟨eX, eY, eD⟩ := e
        subst eX
        subst eY
        subst eD
        go_enter Tryz.func100, Tryz.ntmps100
        go_wp2_with fail
        refine wp_loop_rounds 5 ?_
        rw [rounds_succ]
        go_wp2_with fail
        rw [rounds_succ]
        go_wp2_with fail
        rw [rounds_succ]
        go_wp2_with fail
        rw [rounds_succ]
        go_wp2_with fail
        rw [rounds_succ]
        go_wp2_with fail
        exact bodyPost_ret (v := s3 0 256 s2) (by simp [results, Tryz.results100, go_sem, *]) rfl ⟨rfl, by repeat (first | with_reducible apply Below.refl | (with_reducible apply Below.setCell; rotate_left; focus (first | omega | (simp; done) | (simp; omega))) | (with_reducible apply Below.alloc; rotate_left; focus (first | omega | (simp; done) | (simp; omega))) | with_reducible apply Below.drew | with_reducible apply belowDrewN | (with_reducible apply Below.trans; rotate_left; with_reducible apply Below.mono; with_reducible assumption; focus (first | omega | (simp; done) | (simp; omega))))⟩
    | false =>
      simp only [if_neg (of_decide_eq_false d2)] at e
      cases d3 : decide (s3' < s0) with
      | true =>
        simp only [if_pos (of_decide_eq_true d3)] at e
        simp only [Prod.mk.injEq] at e
        obtain ⟨eX, eY, eD⟩ := e
        subst eX
        subst eY
        subst eD
        go_enter Tryz.func100, Tryz.ntmps100
        go_wp2_with fail
        refine wp_loop_rounds 5 ?_
        rw [rounds_succ]
        go_wp2_with fail
        rw [rounds_succ]
        go_wp2_with fail
        rw [rounds_succ]
        go_wp2_with fail
        rw [rounds_succ]
        go_wp2_with fail
        rw [rounds_succ]
        go_wp2_with fail
        exact bodyPost_ret (v := s3 0 (-256) s3') (by simp [results, Tryz.results100, go_sem, *]) rfl ⟨rfl, by repeat (first | with_reducible apply Below.refl | (with_reducible apply Below.setCell; rotate_left; focus (first | omega | (simp; done) | (simp; omega))) | (with_reducible apply Below.alloc; rotate_left; focus (first | omega | (simp; done) | (simp; omega))) | with_reducible apply Below.drew | with_reducible apply belowDrewN | (with_reducible apply Below.trans; rotate_left; with_reducible apply Below.mono; with_reducible assumption; focus (first | omega | (simp; done) | (simp; omega))))⟩
      | false =>
        simp only [if_neg (of_decide_eq_false d3)] at e
        simp only [Prod.mk.injEq] at e
        obtain ⟨eX, eY, eD⟩ := e
        subst eX
        subst eY
        subst eD
        go_enter Tryz.func100, Tryz.ntmps100
        go_wp2_with fail
        refine wp_loop_rounds 5 ?_
        rw [rounds_succ]
        go_wp2_with fail
        rw [rounds_succ]
        go_wp2_with fail
        rw [rounds_succ]
        go_wp2_with fail
        rw [rounds_succ]
        go_wp2_with fail
        rw [rounds_succ]
        go_wp2_with fail
        exact bodyPost_ret (v := s3 256 0 s0) (by simp [results, Tryz.results100, go_sem, *]) rfl ⟨rfl, by repeat (first | with_reducible apply Below.refl | (with_reducible apply Below.setCell; rotate_left; focus (first | omega | (simp; done) | (simp; omega))) | (with_reducible apply Below.alloc; rotate_left; focus (first | omega | (simp; done) | (simp; omega))) | with_reducible apply Below.drew | with_reducible apply belowDrewN | (with_reducible apply Below.trans; rotate_left; with_reducible apply Below.mono; with_reducible assumption; focus (first | omega | (simp; done) | (simp; omega))))⟩
end Go.Proofs.YthekeeagjokpeaaGreat
namespace Go.Proofs.YthekeeagjokpeaaGreat
open Go.RowKit
set_option linter.unusedVariables false
set_option linter.unusedSimpArgs false

set_option maxHeartbeats 8000000 in
theorem spanNear_any (a b c d x y : Int) (w : World) :
    Calls Tryz.prog 101 #[b4 a b c d, vv x y] w fun e w' => e = .returned (vv (mn (mx x a) c) (mn (mx y b) d)) ∧ Below w.heap.size w w' := by
  have hset := cset_map
  go_enter Tryz.func101, Tryz.ntmps101
  go_wp2
  go_region_held3 (fun w' => w'.cell? ⟨w.heap.size, 0, none⟩ = some (.int .i64 a) ∧ w'.cell? ⟨w.heap.size, 1, none⟩ = some (.int .i64 b) ∧ w'.cell? ⟨w.heap.size, 2, none⟩ = some (.int .i64 c) ∧ w'.cell? ⟨w.heap.size, 3, none⟩ = some (.int .i64 d) ∧ w'.cell? ⟨w.heap.size + 1, 0, none⟩ = some (.int .i64 x) ∧ w'.cell? ⟨w.heap.size + 1, 1, none⟩ = some (.int .i64 y)) (first | (go_simp; done) | (go_keep; done)) (first
    | (go_at_call 125; refine (least_any _ _ _ _ _).mono ?_; rintro e w2 ⟨rfl, hb2⟩; obtain ⟨hc2, hf2⟩ := bcell hb2; have hl2 := blt hb2; have hz2 := hb2.size; (try simp only [World.size_drew, World.size_alloc, World.size_setCell] at hc2 hf2 hl2 hz2); (try have hq2x0 : w.heap.size < w2.heap.size := (by omega)); (try have hq2x1 : w.heap.size + 1 < w2.heap.size := (by omega)); (try have hq2x2 : w.heap.size + 1 + 1 < w2.heap.size := (by omega)))
    | (go_at_call 124; refine (greatest_any _ _ _ _ _).mono ?_; rintro e w1 ⟨rfl, hb1⟩; obtain ⟨hc1, hf1⟩ := bcell hb1; have hl1 := blt hb1; have hz1 := hb1.size; (try simp only [World.size_drew, World.size_alloc, World.size_setCell] at hc1 hf1 hl1 hz1); (try have hq1x0 : w.heap.size < w1.heap.size := (by omega)); (try have hq1x1 : w.heap.size + 1 < w1.heap.size := (by omega)); (try have hq1x2 : w.heap.size + 1 + 1 < w1.heap.size := (by omega))))
  all_goals
    go_wp2
    exact bodyPost_ret (v := vv (mn (mx x a) c) (mn (mx y b) d)) (by simp [results, Tryz.results101, go_sem, *]) rfl ⟨rfl, by repeat (first | with_reducible apply Below.refl | (with_reducible apply Below.setCell; rotate_left; focus (first | omega | (simp; done) | (simp; omega))) | (with_reducible apply Below.alloc; rotate_left; focus (first | omega | (simp; done) | (simp; omega))) | with_reducible apply Below.drew | with_reducible apply belowDrewN | (with_reducible apply Below.trans; rotate_left; with_reducible apply Below.mono; with_reducible assumption; focus (first | omega | (simp; done) | (simp; omega))))⟩

end Go.Proofs.YthekeeagjokpeaaGreat
