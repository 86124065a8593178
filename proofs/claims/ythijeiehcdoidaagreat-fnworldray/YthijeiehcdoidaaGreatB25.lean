/- Texts of a proof. -/
import Derived.Test.YthijeiehcdoidaaGreatB5
import Derived.Test.YthijeiehcdoidaaGreatSTch3
import Derived.Deep.RegionHeld3
import Derived.Deep.DeepCutAuto
import Derived.Test.YthijeiehcdoidaaGreatB13
import Derived.Test.YthijeiehcdoidaaGreatB24
import Derived.Test.YthijeiehcdoidaaGreatB23
import Derived.Test.YthijeiehcdoidaaGreatB6
import Derived.Test.YthijeiehcdoidaaGreatB14
import Derived.Test.YthijeiehcdoidaaGreatB20
import Derived.Test.YthijeiehcdoidaaGreatB15
import Derived.OrdersHeld
set_option maxHeartbeats 16000000
set_option maxRecDepth 20000
namespace Go.Proofs.YthijeiehcdoidaaGreat
open Go.RowKit
set_option linter.unusedVariables false
set_option linter.unusedSimpArgs false
def tcT (k1 g1 h1 x y k2 g2 h2 u v : Int) : (Int × Int × Int) × Bool :=
 if k1 = 1 then (if k2 = 1 then rdT (u - x) (v - y) (g1 + g2) else tnT (mxT (u - g2) (v - h2) (u + g2) (v + h2) x y g1))
 else (if k2 = 1 then mxT (x - g1) (y - h1) (x + g1) (y + h1) u v g2 else bxT (x - g1) (y - h1) (x + g1) (y + h1) (u - g2) (v - h2) (u + g2) (v + h2))
def toT (k1 g1 h1 x y k2 g2 h2 u v : Int) : (Int × Int × Int) × Bool := if (shB k1 g1 h1 && (shB k2 g2 h2 && (inB 2560000 x y && inB 2560000 u v))) = true then tcT k1 g1 h1 x y k2 g2 h2 u v else ((0, 0, 0), false)
theorem shB_kinds {k g h : Int} (e : shB k g h = true) : (k = 1 ∧ h = 0 ∧ 1 ≤ g ∧ g ≤ 25600) ∨ (k = 2 ∧ 1 ≤ g ∧ g ≤ 25600 ∧ 1 ≤ h ∧ h ≤ 25600) := by
 unfold shB rdB bxB at e; simp only [Bool.or_eq_true, decide_eq_true_eq] at e; omega
def tcH (C : Nat → Nat → Int) (i k : Nat) : (Int × Int × Int) × Bool := toT (C 1 i) (C 2 i) (C 3 i) (C 4 i) (C 5 i) (C 1 k) (C 2 k) (C 3 k) (C 4 k) (C 5 k)
def conB (C : Nat → Nat → Int) (i k : Nat) : Bool := decide (i < k) && (!(decide (C 8 i = 0) && decide (C 8 k = 0)) && (tcH C i k).2)
def conOne (C : Nat → Nat → Int) (i k : Nat) : List Int := if conB C i k = true then [(i : Int), (k : Int), (tcH C i k).1.1, (tcH C i k).1.2.1, (tcH C i k).1.2.2] else []
def conIn (C : Nat → Nat → Int) (i : Nat) : Nat → List Int
 | 0 => []
 | k + 1 => conIn C i k ++ conOne C i k
def conOut (C : Nat → Nat → Int) (n : Nat) : Nat → List Int
 | 0 => []
 | i + 1 => conOut C n i ++ conIn C i n
def conL (C : Nat → Nat → Int) (n : Nat) : List Int := conOut C n n
theorem conOne_len (C : Nat → Nat → Int) (i k : Nat) : ∃ m, (conOne C i k).length = m * 5 ∧ m ≤ 1 := by
 unfold conOne
 split
 · exact ⟨1, rfl, Nat.le_refl _⟩
 · exact ⟨0, rfl, by omega⟩
theorem conIn_len (C : Nat → Nat → Int) (i : Nat) : ∀ k, ∃ m, (conIn C i k).length = m * 5 ∧ m ≤ k
 | 0 => ⟨0, rfl, Nat.le_refl _⟩
 | k + 1 => by
  obtain ⟨m, h1, h2⟩ := conIn_len C i k
  obtain ⟨m', h3, h4⟩ := conOne_len C i k
  exact ⟨m + m', by rw [conIn, List.length_append, h1, h3]; omega, by omega⟩
theorem conOut_len (C : Nat → Nat → Int) (n : Nat) : ∀ i, ∃ m, (conOut C n i).length = m * 5 ∧ m ≤ i * n
 | 0 => ⟨0, rfl, by omega⟩
 | i + 1 => by
  obtain ⟨m, h1, h2⟩ := conOut_len C n i
  obtain ⟨m', h3, h4⟩ := conIn_len C i n
  exact ⟨m + m', by rw [conOut, List.length_append, h1, h3]; omega, by rw [Nat.succ_mul]; omega⟩
theorem conB_ge {C : Nat → Nat → Int} {i k : Nat} (h : k ≤ i) : conB C i k = false := by
 unfold conB
 rw [decide_eq_false (by omega)]
 rfl
theorem conOne_no {C : Nat → Nat → Int} {i k : Nat} (h : conB C i k = false) : conOne C i k = [] := by
 unfold conOne
 rw [h]
 rfl
theorem conOne_yes {C : Nat → Nat → Int} {i k : Nat} {X Y D : Int} (h : conB C i k = true) (e : tcH C i k = ((X, Y, D), true)) : conOne C i k = [(i : Int), (k : Int), X, Y, D] := by
 unfold conOne
 rw [if_pos h, e]
theorem conB_yes {C : Nat → Nat → Int} {i k : Nat} {X Y D : Int} (h : i < k) (hf : ¬ (C 8 i = 0 ∧ C 8 k = 0)) (e : tcH C i k = ((X, Y, D), true)) : conB C i k = true := by
 unfold conB
 rw [e, decide_eq_true h]
 by_cases e1 : C 8 i = 0
 · have e2 : ¬ C 8 k = 0 := fun q => hf ⟨e1, q⟩
   simp [e2]
 · simp [e1]
theorem conIn_ge {C : Nat → Nat → Int} (i : Nat) : ∀ k, k ≤ i + 1 → conIn C i k = []
 | 0, _ => rfl
 | k + 1, h => by rw [conIn, conIn_ge i k (by omega), conOne_no (conB_ge (by omega))]; rfl
structure LsAt (w2 W : World) (lb t k : Nat) (a : Option Addr) (m c : Nat) (l : List Int) : Prop where
 fr : Fr (fun b => b = lb) w2 W
 box : W.cell? ⟨lb, 0, none⟩ = some (.slice a m c)
 nf : W.frozen? ⟨lb, 0, none⟩ = false
 len : l.length = m * k
 own : OwnL W w2.heap.size t k (.slice a m c) m (ofL l)
theorem Fr.sm {X : Nat → Prop} {w2 W W' : World} {B : Nat} (h : Fr X w2 W) (hs : Sm B W W') (hB : w2.heap.size ≤ B) : Fr X w2 W' :=
 ⟨hs.below.os.trans h.os, hs.below.tape.trans h.tape, hs.below.output.trans h.output, Nat.le_trans h.size hs.size, fun k hk hn => (hs.below.block k (by omega)).trans (h.block k hk hn), fun k o hk ho => (hs.below.block k (by have := (Array.getElem?_eq_some_iff.1 hk).1; omega)).trans (h.kind k o hk ho)⟩
theorem LsAt.sm {w2 W W' : World} {B lb t k m c : Nat} {a : Option Addr} {l : List Int} (h : LsAt w2 W lb t k a m c l) (hs : Sm B W W') (hB : w2.heap.size ≤ B) : LsAt w2 W' lb t k a m c l :=
 ⟨h.fr.sm hs hB, hs.cell h.box, hs.frozen h.box h.nf, h.len, h.own.sm hs⟩
theorem LsAt.below {w2 W W' : World} {lb t k m c : Nat} {a : Option Addr} {l : List Int} (h : LsAt w2 W lb t k a m c l) (hs : Below W.heap.size W W') : LsAt w2 W' lb t k a m c l := h.sm (Sm.of_below hs (Nat.le_refl _)) h.fr.size
theorem LsAt.start {w2 : World} {lb t k : Nat} (h : w2.cell? ⟨lb, 0, none⟩ = some (.slice none 0 0)) (hf : w2.frozen? ⟨lb, 0, none⟩ = false) : LsAt w2 w2 lb t k none 0 0 [] :=
 ⟨Fr.refl _ _, h, hf, by simp, OwnL.nil _ _ _ _ _⟩
theorem LsAt.keeps {w2 W W1 : World} {lb t k m c m' c' : Nat} {a a' : Option Addr} {l : List Int} (h : LsAt w2 W lb t k a m c l) (hlb : lb < w2.heap.size) (hg : W.grownBy W1 (Value.slice a m c).ownBlock) :
 Fr (fun b => b = lb ∨ (Value.slice a m c).ownBlock = some b) W (W1.setCell ⟨lb, 0, none⟩ (.slice a' m' c')) :=
 (Fr.grown hg (fun b hb => .inr hb) h.own.isCells).trans (Fr.setCell (.inl rfl) _)
theorem LsAt.push {w2 W W1 : World} {lb t k m c : Nat} {a a' : Option Addr} {c' : Nat} {l x : List Int} (h : LsAt w2 W lb t k a m c l) (hlb : lb < w2.heap.size) (hx : x.length = k) (hg : W.grownBy W1 (Value.slice a m c).ownBlock)
 (ho : OwnL W1 w2.heap.size t k (.slice a' (m + 1) c') (m + 1) (cat (m * k) (ofL l) (ofL x))) : LsAt w2 (W1.setCell ⟨lb, 0, none⟩ (.slice a' (m + 1) c')) lb t k a' (m + 1) c' (l ++ x) := by
 have hne : ∀ b, (Value.slice a m c).ownBlock = some b → b ≠ lb := fun b hb => by have := (h.own.lt b hb).1; omega
 have hl : lb < W.heap.size := Nat.lt_of_lt_of_le hlb h.fr.size
 have hb1 : W1.heap[lb]? = W.heap[lb]? := hg.block lb hl (fun e => hne lb e.symm rfl)
 refine ⟨(h.fr.trans' (Fr.grown (X := fun b => (Value.slice a m c).ownBlock = some b) hg (fun b hb => hb) h.own.isCells) (fun i hi e => by have := (h.own.lt i e).1; omega)).trans (Fr.setCell (X := fun b => b = lb) rfl _), cset_same ((World.cell?_of_block (a := ⟨lb, 0, none⟩) hb1).trans h.box), ?_, by rw [List.length_append, h.len, hx, Nat.succ_mul], ?_⟩
 · rw [World.frozen?_setCell]; exact (World.frozen?_of_block (a := ⟨lb, 0, none⟩) hb1).trans h.nf
 · rw [← cat_ofL, h.len]
   refine OwnL.frame (X := fun b => b = lb) ho (Fr.setCell (X := fun b => b = lb) rfl _) (fun b hb e => ?_)
   have := (ho.lt b hb).1
   omega
theorem _root_.Go.KeepsFrom.sm {B B' : Nat} {W X X' : World} (h : KeepsFrom B W X) (hs : Sm B' X X') (hB : W.heap.size ≤ B') : KeepsFrom B W X' :=
 ⟨Nat.le_trans h.size hs.size, fun k o hk h0 ho => (hs.below.block k (by have := (Array.getElem?_eq_some_iff.1 h0).1; omega)).trans (h.same k o hk h0 ho)⟩
theorem wake_ok {V : Nat → Int} (b : Bool) (h : BOk V) : BOk (wakeV b V) := by
 unfold wakeV
 cases hl : (b && decide (8 ≤ V 11)) with
 | false => exact h
 | true =>
  simp only [Bool.and_eq_true, decide_eq_true_eq] at hl
  obtain ⟨a0, a1, a2, a3, a4, a5, a6, a7, a8, a9, b0, b1⟩ := h
  have m8 : V 8 ≠ 0 := fun e => by have := b0 e; omega
  show BOk (setV V 11 0)
  have e : ∀ j, j ≠ 11 → setV V 11 0 j = V j := fun j hj => setV_ne hj
  have eb : setV V 11 0 11 = 0 := setV_eq
  generalize setV V 11 0 = W at e eb
  have w0 := e 0 (by decide)
  have w1 := e 1 (by decide)
  have w2 := e 2 (by decide)
  have w3 := e 3 (by decide)
  have w4 := e 4 (by decide)
  have w5 := e 5 (by decide)
  have w6 := e 6 (by decide)
  have w7 := e 7 (by decide)
  have w8 := e 8 (by decide)
  have w9 := e 9 (by decide)
  have wa := e 10 (by decide)
  exact ⟨by rw [w0]; exact a0, by rw [w1, w2, w3]; exact a1, by rw [w4]; exact a2, by rw [w5]; exact a3, by rw [w6]; exact a4, by rw [w7]; exact a5, by rw [w8]; exact a6, by rw [w9]; exact a7, by rw [wa]; exact a8, by rw [eb]; omega, by rw [eb]; exact fun _ => rfl, .inl ⟨by rw [w8]; exact m8, by rw [eb]; decide⟩⟩
theorem sl_ok {V : Nat → Int} (h : BOk V) (m8 : V 8 ≠ 0) : BOk (slV V) := by
 obtain ⟨a0, a1, a2, a3, a4, a5, a6, a7, a8, a9, b0, b1⟩ := h
 have e : ∀ j, j ≠ 7 → j ≠ 6 → j ≠ 11 → slV V j = V j := fun j h1 h2 h3 => by unfold slV; rw [if_neg h1, if_neg h2, if_neg h3]
 have e7 : slV V 7 = 0 := rfl
 have e6 : slV V 6 = 0 := rfl
 have eb : slV V 11 = 8 := rfl
 generalize slV V = W at e e7 e6 eb
 have w0 := e 0 (by decide) (by decide) (by decide)
 have w1 := e 1 (by decide) (by decide) (by decide)
 have w2 := e 2 (by decide) (by decide) (by decide)
 have w3 := e 3 (by decide) (by decide) (by decide)
 have w4 := e 4 (by decide) (by decide) (by decide)
 have w5 := e 5 (by decide) (by decide) (by decide)
 have w8 := e 8 (by decide) (by decide) (by decide)
 have w9 := e 9 (by decide) (by decide) (by decide)
 have wa := e 10 (by decide) (by decide) (by decide)
 exact ⟨by rw [w0]; exact a0, by rw [w1, w2, w3]; exact a1, by rw [w4]; exact a2, by rw [w5]; exact a3, by rw [e6]; omega, by rw [e7]; omega, by rw [w8]; exact a6, by rw [w9]; exact a7, by rw [wa]; exact a8, by rw [eb]; omega, by rw [w8]; exact fun q => absurd q m8, .inr ⟨e6, e7⟩⟩
theorem Bods.wake {n : Nat} {U G : Nat → Int} {A : Nat → Bool} (h : Bods n U) : Bods n (mapR (fun i V => wakeV (awK G A i) V) U n) :=
 h.map (fun k hk => (wake_ok _ (h.row hk)).to) (fun k hk => by show wakeV _ (fun j => U (k * 12 + j)) 0 = _; unfold wakeV; cases (awK G A k && decide (8 ≤ (fun j => U (k * 12 + j)) 11)) <;> rfl)
theorem slF_8 (G : Nat → Int) (g i : Nat) (V : Nat → Int) : slF G g i V 8 = V 8 := by unfold slF; cases decide (G i = (g : Int)) <;> rfl
theorem Bods.sleepS {n : Nat} {U G : Nat → Int} {A : Nat → Bool} (h : Bods n U) (hG : ∀ k, k < n → 0 ≤ G k → U (k * 12 + 8) ≠ 0) (g : Nat) : Bods n (sleepS G A n g U) ∧ ∀ k, k < n → sleepS G A n g U (k * 12 + 8) = U (k * 12 + 8) := by
 unfold Go.Proofs.YthijeiehcdoidaaGreat.sleepS
 cases (A g && allQ G U g n) with
 | false => exact ⟨h, fun k hk => rfl⟩
 | true =>
  refine ⟨h.map (fun k hk => ?_) (fun k hk => ?_), fun k hk => (mapR_in hk (by omega)).trans (slF_8 G g k _)⟩
  · unfold slF
    by_cases e : G k = (g : Int)
    · rw [decide_eq_true e]; exact (sl_ok (h.row hk) (hG k hk (by omega))).to
    · rw [decide_eq_false e]; exact h.ok k hk
  · unfold slF; cases decide (G k = (g : Int)) <;> rfl
theorem Bods.sleep {n : Nat} {U G : Nat → Int} {A : Nat → Bool} (h : Bods n U) (hG : ∀ k, k < n → 0 ≤ G k → U (k * 12 + 8) ≠ 0) : ∀ g, Bods n (sleepN G A n U g) ∧ ∀ k, k < n → sleepN G A n U g (k * 12 + 8) = U (k * 12 + 8)
 | 0 => ⟨h, fun k hk => rfl⟩
 | g + 1 => by
  obtain ⟨h1, h2⟩ := Bods.sleep h hG g
  obtain ⟨q1, q2⟩ := Bods.sleepS (A := A) h1 (fun k hk h0 => by rw [h2 k hk]; exact hG k hk h0) g
  exact ⟨q1, fun k hk => (q2 k hk).trans (h2 k hk)⟩
theorem OwnL.setO {w : World} {base t k n b o : Nat} {v : Value} {U : Nat → Int} (h : OwnL w base t k v n U) (hb : b < base) (x : Value) : OwnL (w.setCell ⟨b, o, none⟩ x) base t k v n U :=
 h.frame (X := fun y => y = b) (Fr.setCell (X := fun y => y = b) rfl _) (fun y hy e => by have := (h.lt y hy).1; omega)
structure OutW (w w' : World) (a : Option Addr) (n c : Nat) (U : Nat → Int) (a' : Option Addr) (m c' : Nat) (Q : Nat → Int) : Prop where
 bel : Below w.heap.size w w'
 ob : OwnL w' w.heap.size 41 12 (.slice a n c) n U
 op : OwnL w' w.heap.size 58 2 (.slice a' m c') m Q
 ne : ∀ b, (Value.slice a n c).ownBlock = some b → (Value.slice a' m c').ownBlock ≠ some b
theorem OutW.on {w w' w2 : World} {a a' : Option Addr} {n c m c' : Nat} {U Q : Nat → Int} (h : OutW w w' a n c U a' m c' Q) (hb : Below w'.heap.size w' w2) : OutW w w2 a n c U a' m c' Q := ⟨h.bel.trans (hb.mono h.bel.size), h.ob.below hb, h.op.below hb, h.ne⟩
theorem OwnL.neT {w : World} {b1 b2 t1 t2 k1 k2 n1 n2 : Nat} {v1 v2 : Value} {U1 U2 : Nat → Int} (h1 : OwnL w b1 t1 k1 v1 n1 U1) (h2 : OwnL w b2 t2 k2 v2 n2 U2) (ht : t1 ≠ t2) : ∀ b, v1.ownBlock = Option.some b → v2.ownBlock ≠ Option.some b := by
 intro b e1 e2
 rcases h1.2 with ⟨hv, _⟩ | ⟨g, cap, cur, hv, hb, hg, _⟩
 · subst hv; simp [Value.ownBlock] at e1
 · rcases h2.2 with ⟨hv', _⟩ | ⟨g', cap', cur', hv', hb', hg', _⟩
   · subst hv'; simp [Value.ownBlock] at e2
   · subst hv hv'
     simp [Value.ownBlock] at e1 e2
     subst e1 e2
     rw [hg] at hg'
     simp only [Option.some.injEq, Obj.cells.injEq] at hg'
     exact ht hg'.2.1
theorem bodiesOk_q (a : Option Addr) (n c : Nat) (U : Nat → Int) (b : Bool) (w : World) (h : Flat w a (n * 12) U) (hn : n ≤ 1048576) (eb : bodsB n U = b) :
 Calls Tryz.prog 41 #[.slice a n c] w fun e w' => e = .returned (.bool b) ∧ Below w.heap.size w w' := by
 have hset := cset_map
 cases b with
 | true =>
  go_enter Tryz.func41, Tryz.ntmps41
  go_wp2_with (go_at_call 73; refine (columnsOf_ok a n c U _ h hn eb).mono ?_; rintro e w1 ⟨cb, S, rfl, hcb, hC, hb1⟩)
  go_ret
  exact ⟨rfl, bel_a⟩
 | false =>
  go_enter Tryz.func41, Tryz.ntmps41
  go_wp2_with (go_at_call 73; refine (columnsOf_no a n c U _ h hn eb).mono ?_; rintro e w1 ⟨rfl, hb1⟩)
  go_ret
  exact ⟨rfl, bel_a⟩
def Al (w0 w : World) (ab n : Nat) (V : Nat → Int) : Prop := w0.heap.size ≤ ab ∧ ab < w.heap.size ∧ (∀ i, i < n → w.cell? ⟨ab, i, none⟩ = some (.int .i64 (V i))) ∧ ∀ i, i < n → w.frozen? ⟨ab, i, none⟩ = false
theorem Al.up {rb : Nat} {w0 w w' : World} {ab n : Nat} {V : Nat → Int} (h : Al w0 w ab n V) (hrb : rb < w0.heap.size) (k : But rb w w') : Al w0 w' ab n V := by
 obtain ⟨h1, h2, h3, h4⟩ := h
 exact ⟨h1, Nat.lt_of_lt_of_le h2 k.size, fun i hi => (k.cell (p := ⟨ab, i, none⟩) h2 (by simp only [ne_eq]; omega)).trans (h3 i hi), fun i hi => (k.frozen (p := ⟨ab, i, none⟩) h2 (by simp only [ne_eq]; omega)).trans (h4 i hi)⟩
theorem Al.set {w0 w : World} {ab n : Nat} {V : Nat → Int} (h : Al w0 w ab n V) (k : Nat) (hk : k < n) (v : Int) : Al w0 (w.setCell ⟨ab, k, none⟩ (.int .i64 v)) ab n (fun j => if j = k then v else V j) := by
 obtain ⟨h1, h2, h3, h4⟩ := h
 refine ⟨h1, by simpa [World.setCell] using h2, fun i hi => ?_, fun i hi => ?_⟩
 · by_cases e : i = k
   · subst e; rw [cset_map, h3 i hi]; simp
   · rw [cset_other (by intro q; injection q with q1 q2; exact e q2.symm), h3 i hi]; simp [e]
 · rw [World.frozen?_setCell]; exact h4 i hi
theorem but_alloc (rb : Nat) (w : World) (o : Obj) : But rb w (w.alloc o) := (But.refl rb w).alloc o
theorem Al.new {w0 w : World} {cs : Array Value} {t : TypeId} {n : Nat} {V : Nat → Int} (hsz : w0.heap.size ≤ w.heap.size) (hc : ∀ i, i < n → cs[i]? = some (.int .i64 (V i))) : Al w0 (w.alloc (.cells cs t)) w.heap.size n V :=
 ⟨hsz, by simp, fun i hi => by rw [World.cell?_alloc_new]; exact hc i hi, fun i hi => by go_simp⟩
theorem Al.congr {w0 w : World} {ab n : Nat} {V U : Nat → Int} (h : Al w0 w ab n V) (k : ∀ i, i < n → V i = U i) : Al w0 w ab n U :=
 ⟨h.1, h.2.1, fun i hi => by rw [h.2.2.1 i hi, k i hi], h.2.2.2⟩
end Go.Proofs.YthijeiehcdoidaaGreat
namespace Go.Proofs.YthijeiehcdoidaaGreat
open Go.RowKit
set_option linter.unusedVariables false
set_option linter.unusedSimpArgs false
section
variable {P : Program} {ops : Array Oper} {Q : Exit → Act → World → Prop} {md : Region.Mode}
end
def Li (w0 w : World) (lb len : Nat) (xs : List Int) : Prop := w0.heap.size ≤ lb ∧ lb < w.heap.size ∧ ∀ i, i < len → w.cell? ⟨lb, i, none⟩ = some (.int .i64 (xs.getD i 0))
theorem Li.up {rb : Nat} {w0 w w' : World} {lb len : Nat} {xs : List Int} (h : Li w0 w lb len xs) (hrb : rb < w0.heap.size) (k : But rb w w') : Li w0 w' lb len xs := by
 obtain ⟨h1, h2, h3⟩ := h
 exact ⟨h1, Nat.lt_of_lt_of_le h2 k.size, fun i hi => (k.cell (p := ⟨lb, i, none⟩) h2 (by simp only [ne_eq]; omega)).trans (h3 i hi)⟩
abbrev VI (lo hi : Int) (x : Value) : Prop := ∃ n, x = .int .i64 n ∧ lo ≤ n ∧ n ≤ hi
abbrev VP (rb : Nat) (x : Value) : Prop := x = .pointer (some ⟨rb, 0, none⟩)
abbrev VN (n : Int) (x : Value) : Prop := x = .int .i64 n
abbrev VV (lo hi : Int) (x : Value) : Prop := ∃ a b, x = vv a b ∧ (lo ≤ a ∧ a ≤ hi) ∧ lo ≤ b ∧ b ≤ hi
abbrev VS (lo hi : Int) (x : Value) : Prop := ∃ a b c, x = s3 a b c ∧ (lo ≤ a ∧ a ≤ hi) ∧ (lo ≤ b ∧ b ≤ hi) ∧ lo ≤ c ∧ c ≤ hi
def VL (w0 w : World) (c : Bool) (len : Nat) (xs : List Int) (x : Value) : Prop := ∃ lb, x = .slice (some ⟨lb, 0, none⟩) len len ∧ (c = false → Li w0 w lb len xs)
def VA (w0 w : World) (c : Bool) (n : Nat) (V : Nat → Int) (x : Value) : Prop := ∃ ab, x = .pointer (some ⟨ab, 0, none⟩) ∧ (c = false → Al w0 w ab n V)
theorem VL.up {rb : Nat} {w0 w w' : World} {c : Bool} {len : Nat} {xs : List Int} {x : Value} (h : VL w0 w c len xs x) (hrb : rb < w0.heap.size) (k : But rb w w') : VL w0 w' c len xs x := by
 obtain ⟨lb, e, h⟩ := h; exact ⟨lb, e, fun q => (h q).up hrb k⟩
theorem VA.up {rb : Nat} {w0 w w' : World} {c : Bool} {n : Nat} {V : Nat → Int} {x : Value} (h : VA w0 w c n V x) (hrb : rb < w0.heap.size) (k : But rb w w') : VA w0 w' c n V x := by
 obtain ⟨lb, e, h⟩ := h; exact ⟨lb, e, fun q => (h q).up hrb k⟩
theorem Li.new {w0 w : World} {cs : Array Value} {t : TypeId} {len : Nat} {xs : List Int} (hsz : w0.heap.size ≤ w.heap.size) (hc : ∀ i, i < len → cs[i]? = some (.int .i64 (xs.getD i 0))) : Li w0 (w.alloc (.cells cs t)) w.heap.size len xs :=
 ⟨hsz, by simp, fun i hi => by rw [World.cell?_alloc_new]; exact hc i hi⟩
end Go.Proofs.YthijeiehcdoidaaGreat
