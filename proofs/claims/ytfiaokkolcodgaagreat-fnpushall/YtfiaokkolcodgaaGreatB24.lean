/- Texts of a proof. -/
import Derived.Test.YtfiaokkolcodgaaGreatB9
import Derived.OrdersHeld
import Derived.Deep.RegionHeld3
import Derived.Deep.DeepCutAuto
import Derived.Test.YtfiaokkolcodgaaGreatB4
import Derived.Test.YtfiaokkolcodgaaGreatSTch3
import Derived.Test.YtfiaokkolcodgaaGreatB7
import Derived.Test.YtfiaokkolcodgaaGreatB11
import Derived.Deep.AppendLies
import Derived.Laws.OwnMore
import Derived.Test.YtfiaokkolcodgaaGreatB23
import Derived.Test.YtfiaokkolcodgaaGreatB1
import Derived.Test.YtfiaokkolcodgaaGreatB2
import Derived.Test.YtfiaokkolcodgaaGreatB17
set_option maxHeartbeats 16000000
set_option maxRecDepth 20000
namespace Go.Proofs.YtfiaokkolcodgaaGreat
open Go.RowKit
set_option linter.unusedVariables false
set_option linter.unusedSimpArgs false
def Al (w0 w : World) (ab n : Nat) (V : Nat → Int) : Prop := w0.heap.size ≤ ab ∧ ab < w.heap.size ∧ (∀ i, i < n → w.cell? ⟨ab, i, none⟩ = some (.int .i64 (V i))) ∧ ∀ i, i < n → w.frozen? ⟨ab, i, none⟩ = false
theorem Al.up {rb : Nat} {w0 w w' : World} {ab n : Nat} {V : Nat → Int} (h : Al w0 w ab n V) (hrb : rb < w0.heap.size) (k : But rb w w') : Al w0 w' ab n V := by
 obtain ⟨h1, h2, h3, h4⟩ := h
 exact ⟨h1, Nat.lt_of_lt_of_le h2 k.size, fun i hi => (k.cell (p := ⟨ab, i, none⟩) h2 (by simp only [ne_eq]; omega)).trans (h3 i hi), fun i hi => (k.frozen (p := ⟨ab, i, none⟩) h2 (by simp only [ne_eq]; omega)).trans (h4 i hi)⟩
theorem Al.set {w0 w : World} {ab n : Nat} {V : Nat → Int} (h : Al w0 w ab n V) (k : Nat) (hk : k < n) (v : Int) : Al w0 (w.setCell ⟨ab, k, none⟩ (.int .i64 v)) ab n (fun j => if j = k then v else V j) := by
 obtain ⟨h1, h2, h3, h4⟩ := h
 refine ⟨h1, by simpa [World.setCell] using h2, fun i hi => ?_, fun i hi => ?_⟩
 · by_cases e : i = k
   · subst e; rw [cset_map, h3 i hi]; simp
   · rw [cset_other (by intro q; injection q with q1 q2; exact e q2.symm), h3 i hi]; simp [e]
 · rw [World.frozen?_setCell]; exact h4 i hi
theorem but_alloc (rb : Nat) (w : World) (o : Obj) : But rb w (w.alloc o) := (But.refl rb w).alloc o
theorem Al.new {w0 w : World} {cs : Array Value} {t : TypeId} {n : Nat} {V : Nat → Int} (hsz : w0.heap.size ≤ w.heap.size) (hc : ∀ i, i < n → cs[i]? = some (.int .i64 (V i))) : Al w0 (w.alloc (.cells cs t)) w.heap.size n V :=
 ⟨hsz, by simp, fun i hi => by rw [World.cell?_alloc_new]; exact hc i hi, fun i hi => by go_simp⟩
theorem Al.congr {w0 w : World} {ab n : Nat} {V U : Nat → Int} (h : Al w0 w ab n V) (k : ∀ i, i < n → V i = U i) : Al w0 w ab n U :=
 ⟨h.1, h.2.1, fun i hi => by rw [h.2.2.1 i hi, k i hi], h.2.2.2⟩
end Go.Proofs.YtfiaokkolcodgaaGreat
namespace Go.Proofs.YtfiaokkolcodgaaGreat
open Go.RowKit
set_option linter.unusedVariables false
set_option linter.unusedSimpArgs false
section
variable {P : Program} {ops : Array Oper} {Q : Exit → Act → World → Prop} {md : Region.Mode}
end
def Li (w0 w : World) (lb len : Nat) (xs : List Int) : Prop := w0.heap.size ≤ lb ∧ lb < w.heap.size ∧ ∀ i, i < len → w.cell? ⟨lb, i, none⟩ = some (.int .i64 (xs.getD i 0))
theorem Li.up {rb : Nat} {w0 w w' : World} {lb len : Nat} {xs : List Int} (h : Li w0 w lb len xs) (hrb : rb < w0.heap.size) (k : But rb w w') : Li w0 w' lb len xs := by
 obtain ⟨h1, h2, h3⟩ := h
 exact ⟨h1, Nat.lt_of_lt_of_le h2 k.size, fun i hi => (k.cell (p := ⟨lb, i, none⟩) h2 (by simp only [ne_eq]; omega)).trans (h3 i hi)⟩
abbrev VI (lo hi : Int) (x : Value) : Prop := ∃ n, x = .int .i64 n ∧ lo ≤ n ∧ n ≤ hi
abbrev VP (rb : Nat) (x : Value) : Prop := x = .pointer (some ⟨rb, 0, none⟩)
abbrev VN (n : Int) (x : Value) : Prop := x = .int .i64 n
abbrev VV (lo hi : Int) (x : Value) : Prop := ∃ a b, x = vv a b ∧ (lo ≤ a ∧ a ≤ hi) ∧ lo ≤ b ∧ b ≤ hi
abbrev VS (lo hi : Int) (x : Value) : Prop := ∃ a b c, x = s3 a b c ∧ (lo ≤ a ∧ a ≤ hi) ∧ (lo ≤ b ∧ b ≤ hi) ∧ lo ≤ c ∧ c ≤ hi
def VL (w0 w : World) (c : Bool) (len : Nat) (xs : List Int) (x : Value) : Prop := ∃ lb, x = .slice (some ⟨lb, 0, none⟩) len len ∧ (c = false → Li w0 w lb len xs)
def VA (w0 w : World) (c : Bool) (n : Nat) (V : Nat → Int) (x : Value) : Prop := ∃ ab, x = .pointer (some ⟨ab, 0, none⟩) ∧ (c = false → Al w0 w ab n V)
theorem VL.up {rb : Nat} {w0 w w' : World} {c : Bool} {len : Nat} {xs : List Int} {x : Value} (h : VL w0 w c len xs x) (hrb : rb < w0.heap.size) (k : But rb w w') : VL w0 w' c len xs x := by
 obtain ⟨lb, e, h⟩ := h; exact ⟨lb, e, fun q => (h q).up hrb k⟩
theorem VA.up {rb : Nat} {w0 w w' : World} {c : Bool} {n : Nat} {V : Nat → Int} {x : Value} (h : VA w0 w c n V x) (hrb : rb < w0.heap.size) (k : But rb w w') : VA w0 w' c n V x := by
 obtain ⟨lb, e, h⟩ := h; exact ⟨lb, e, fun q => (h q).up hrb k⟩
theorem Li.new {w0 w : World} {cs : Array Value} {t : TypeId} {len : Nat} {xs : List Int} (hsz : w0.heap.size ≤ w.heap.size) (hc : ∀ i, i < len → cs[i]? = some (.int .i64 (xs.getD i 0))) : Li w0 (w.alloc (.cells cs t)) w.heap.size len xs :=
 ⟨hsz, by simp, fun i hi => by rw [World.cell?_alloc_new]; exact hc i hi⟩
end Go.Proofs.YtfiaokkolcodgaaGreat
namespace Go.Proofs.YtfiaokkolcodgaaGreat
open Go.RowKit
set_option linter.unusedVariables false
set_option linter.unusedSimpArgs false
theorem balloc (w : World) (o : Obj) : Below w.heap.size w (w.alloc o) := (Below.refl _ _).alloc (Nat.le_refl _) o
theorem Al.bl {w0 w w' : World} {ab n B : Nat} {V : Nat → Int} (h : Al w0 w ab n V) (k : Below B w w') (hB : ab < B) : Al w0 w' ab n V := by
 obtain ⟨h1, h2, h3, h4⟩ := h
 exact ⟨h1, Nat.lt_of_lt_of_le h2 k.size, fun i hi => (k.cell (p := ⟨ab, i, none⟩) hB).trans (h3 i hi), fun i hi => (k.frozen (p := ⟨ab, i, none⟩) hB).trans (h4 i hi)⟩
theorem Al.ne {rb : Nat} {w0 w w' : World} {ab n : Nat} {V : Nat → Int} (h : Al w0 w ab n V) (hne : ab ≠ rb) (k : But rb w w') : Al w0 w' ab n V := by
 obtain ⟨h1, h2, h3, h4⟩ := h
 exact ⟨h1, Nat.lt_of_lt_of_le h2 k.size, fun i hi => (k.cell (p := ⟨ab, i, none⟩) h2 hne).trans (h3 i hi), fun i hi => (k.frozen (p := ⟨ab, i, none⟩) h2 hne).trans (h4 i hi)⟩
theorem Al.off {w0 w : World} {ab n b k : Nat} {V : Nat → Int} (h : Al w0 w ab n V) (hb : ab ≠ b) (v : Value) : Al w0 (w.setCell ⟨b, k, none⟩ v) ab n V := by
 obtain ⟨h1, h2, h3, h4⟩ := h
 refine ⟨h1, by simpa [World.setCell] using h2, fun i hi => ?_, fun i hi => ?_⟩
 · rw [cset_far (by simp; omega)]; exact h3 i hi
 · rw [World.frozen?_setCell]; exact h4 i hi
abbrev Bls := List (Nat × Nat × (Nat → Int))
structure AL (w w' : World) (L : Bls) : Prop where
 bel : Below w.heap.size w w'
 al : ∀ x ∈ L, Al w w' x.1 x.2.1 x.2.2
theorem AL.nil (w : World) : AL w w [] := ⟨Below.refl _ _, fun x hx => by cases hx⟩
theorem AL.new {w w' : World} {L : Bls} (h : AL w w' L) (b n : Nat) (V : Nat → Int) {cs : Array Value} {t : TypeId} (hb : b = w'.heap.size) (hc : ∀ i, i < n → cs[i]? = some (.int .i64 (V i))) :
 AL w (w'.alloc (.cells cs t)) ((b, n, V) :: L) := by
 subst hb
 refine ⟨h.bel.alloc h.bel.size _, fun x hx => ?_⟩
 rcases List.mem_cons.mp hx with rfl | hx
 · exact Al.new h.bel.size hc
 · exact (h.al x hx).bl (balloc _ _) (h.al x hx).2.1
theorem AL.call {w w' w1 : World} {L : Bls} (h : AL w w' L) (k : Below w'.heap.size w' w1) : AL w w1 L :=
 ⟨h.bel.trans (k.mono h.bel.size), fun x hx => (h.al x hx).bl k (h.al x hx).2.1⟩
theorem AL.get {w w' : World} {L : Bls} (h : AL w w' L) {x : Nat × Nat × (Nat → Int)} (hx : x ∈ L) : Al w w' x.1 x.2.1 x.2.2 := h.al x hx
theorem AL.sub {w w' : World} {L M : Bls} (h : AL w w' L) (k : ∀ x ∈ M, x ∈ L) : AL w w' M := ⟨h.bel, fun x hx => h.al x (k x hx)⟩
theorem AL.lt {w w' : World} {L : Bls} (h : AL w w' L) {x : Nat × Nat × (Nat → Int)} (hx : x ∈ L) : x.1 < w'.heap.size := (h.al x hx).2.1
theorem AL.drew {w w' : World} {L : Bls} (h : AL w w' L) : AL w w'.drew L := ⟨h.bel.drew, h.al⟩
theorem AL.set {w w' : World} {b n : Nat} {V : Nat → Int} {L : Bls} (h : AL w w' ((b, n, V) :: L)) (hne : ∀ x ∈ L, x.1 ≠ b) (k : Nat) (hk : k < n) (v : Int) :
 AL w (w'.setCell ⟨b, k, none⟩ (.int .i64 v)) ((b, n, fun j => if j = k then v else V j) :: L) := by
 have hb := h.al _ (List.mem_cons_self ..)
 have hlo := hb.1
 dsimp only at hlo
 refine ⟨h.bel.setCell (by simpa using hlo) _, fun x hx => ?_⟩
 rcases List.mem_cons.mp hx with rfl | hx
 · exact hb.set k hk v
 · exact (h.al x (List.mem_cons_of_mem _ hx)).off (hne x hx) _
structure DL (w w' : World) (rb p : Nat) (L : Bls) : Prop where
 rs : RS w' rb p
 bel : Below w.heap.size w w'
 lo : w.heap.size ≤ rb
 al : ∀ x ∈ L, Al w w' x.1 x.2.1 x.2.2 ∧ x.1 ≠ rb
theorem AL.opened {w w0 w1 : World} {L : Bls} (h : AL w w0 L) (k : Below w0.heap.size w0 w1) (r : RS w1 w0.heap.size 0) : DL w w1 w0.heap.size 0 L :=
 ⟨r, h.bel.trans (k.mono h.bel.size), h.bel.size, fun x hx => ⟨(h.al x hx).bl k (h.al x hx).2.1, by have := (h.al x hx).2.1; omega⟩⟩
theorem DL.call {w w' w1 : World} {rb p p1 : Nat} {L : Bls} (h : DL w w' rb p L) (k : RB w' w1 rb p1) : DL w w1 rb p1 L :=
 ⟨RS.of k, h.bel.trans (k.but.below h.lo h.bel.size), h.lo, fun x hx => ⟨(h.al x hx).1.ne (h.al x hx).2 k.but, (h.al x hx).2⟩⟩
theorem DL.mono {w w' : World} {rb p p1 : Nat} {L : Bls} (h : DL w w' rb p L) (k : p ≤ p1) : DL w w' rb p1 L := ⟨h.rs.mono k, h.bel, h.lo, h.al⟩
theorem DL.drew {w w' : World} {rb p : Nat} {L : Bls} (h : DL w w' rb p L) : DL w w'.drew rb p L := ⟨h.rs.drew, h.bel.drew, h.lo, h.al⟩
theorem DL.new {w w' : World} {rb p : Nat} {L : Bls} (h : DL w w' rb p L) (n : Nat) (V : Nat → Int) {cs : Array Value} {t : TypeId} (hc : ∀ i, i < n → cs[i]? = some (.int .i64 (V i))) :
 DL w (w'.alloc (.cells cs t)) rb p ((w'.heap.size, n, V) :: L) := by
 refine ⟨h.rs.alloc _, h.bel.alloc h.bel.size _, h.lo, fun x hx => ?_⟩
 rcases List.mem_cons.mp hx with rfl | hx
 · exact ⟨Al.new h.bel.size hc, by have := h.rs.lt; dsimp only; omega⟩
 · exact ⟨(h.al x hx).1.bl (balloc _ _) (h.al x hx).1.2.1, (h.al x hx).2⟩
theorem DL.alloc {w w' : World} {rb p : Nat} {L : Bls} (h : DL w w' rb p L) (o : Obj) : DL w (w'.alloc o) rb p L :=
 ⟨h.rs.alloc _, h.bel.alloc h.bel.size _, h.lo, fun x hx => ⟨(h.al x hx).1.bl (balloc _ _) (h.al x hx).1.2.1, (h.al x hx).2⟩⟩
theorem DL.sub {w w' : World} {rb p : Nat} {L M : Bls} (h : DL w w' rb p L) (k : ∀ x ∈ M, x ∈ L) : DL w w' rb p M := ⟨h.rs, h.bel, h.lo, fun x hx => h.al x (k x hx)⟩
theorem DL.get {w w' : World} {rb p : Nat} {L : Bls} (h : DL w w' rb p L) {x : Nat × Nat × (Nat → Int)} (hx : x ∈ L) : Al w w' x.1 x.2.1 x.2.2 := (h.al x hx).1
theorem DL.lt {w w' : World} {rb p : Nat} {L : Bls} (h : DL w w' rb p L) {x : Nat × Nat × (Nat → Int)} (hx : x ∈ L) : x.1 < w'.heap.size := (h.al x hx).1.2.1
theorem DL.headc {w w' : World} {rb p b n : Nat} {V U : Nat → Int} {L : Bls} (h : DL w w' rb p ((b, n, V) :: L)) (k : ∀ i, i < n → V i = U i) : DL w w' rb p ((b, n, U) :: L) := by
 refine ⟨h.rs, h.bel, h.lo, fun x hx => ?_⟩
 rcases List.mem_cons.mp hx with rfl | hx
 · have q := h.al _ (List.mem_cons_self ..)
   exact ⟨q.1.congr k, q.2⟩
 · exact h.al x (List.mem_cons_of_mem _ hx)
theorem DL.set {w w' : World} {rb p b n : Nat} {V : Nat → Int} {L : Bls} (h : DL w w' rb p ((b, n, V) :: L)) (hr : rb < b) (hne : ∀ x ∈ L, x.1 ≠ b) (k : Nat) (hk : k < n) (v : Int) :
 DL w (w'.setCell ⟨b, k, none⟩ (.int .i64 v)) rb p ((b, n, fun j => if j = k then v else V j) :: L) := by
 have hb := (h.al _ (List.mem_cons_self ..)).1
 have hlo := hb.1
 dsimp only at hlo
 refine ⟨h.rs.setNew (by simpa using hr) _, h.bel.setCell (by simpa using hlo) _, h.lo, fun x hx => ?_⟩
 rcases List.mem_cons.mp hx with rfl | hx
 · exact ⟨hb.set k hk v, by dsimp only; omega⟩
 · exact ⟨(h.al x (List.mem_cons_of_mem _ hx)).1.off (hne x hx) _, (h.al x (List.mem_cons_of_mem _ hx)).2⟩
def tcT (k1 g1 h1 x y k2 g2 h2 u v : Int) : (Int × Int × Int) × Bool :=
 if k1 = 1 then (if k2 = 1 then rdT (u - x) (v - y) (g1 + g2) else tnT (mxT (u - g2) (v - h2) (u + g2) (v + h2) x y g1))
 else (if k2 = 1 then mxT (x - g1) (y - h1) (x + g1) (y + h1) u v g2 else bxT (x - g1) (y - h1) (x + g1) (y + h1) (u - g2) (v - h2) (u + g2) (v + h2))
def toT (k1 g1 h1 x y k2 g2 h2 u v : Int) : (Int × Int × Int) × Bool := if (shB k1 g1 h1 && (shB k2 g2 h2 && (inB 2560000 x y && inB 2560000 u v))) = true then tcT k1 g1 h1 x y k2 g2 h2 u v else ((0, 0, 0), false)
theorem shB_kinds {k g h : Int} (e : shB k g h = true) : (k = 1 ∧ h = 0 ∧ 1 ≤ g ∧ g ≤ 25600) ∨ (k = 2 ∧ 1 ≤ g ∧ g ≤ 25600 ∧ 1 ≤ h ∧ h ≤ 25600) := by
 unfold shB rdB bxB at e; simp only [Bool.or_eq_true, decide_eq_true_eq] at e; omega
def tcH (C : Nat → Nat → Int) (i k : Nat) : (Int × Int × Int) × Bool := toT (C 1 i) (C 2 i) (C 3 i) (C 4 i) (C 5 i) (C 1 k) (C 2 k) (C 3 k) (C 4 k) (C 5 k)
def conB (C : Nat → Nat → Int) (i k : Nat) : Bool := decide (i < k) && (!(decide (C 8 i = 0) && decide (C 8 k = 0)) && (tcH C i k).2)
def conOne (C : Nat → Nat → Int) (i k : Nat) : List Int := if conB C i k = true then [(i : Int), (k : Int), (tcH C i k).1.1, (tcH C i k).1.2.1, (tcH C i k).1.2.2] else []
def conIn (C : Nat → Nat → Int) (i : Nat) : Nat → List Int
 | 0 => []
 | k + 1 => conIn C i k ++ conOne C i k
def conOut (C : Nat → Nat → Int) (n : Nat) : Nat → List Int
 | 0 => []
 | i + 1 => conOut C n i ++ conIn C i n
def conL (C : Nat → Nat → Int) (n : Nat) : List Int := conOut C n n
theorem conOne_len (C : Nat → Nat → Int) (i k : Nat) : ∃ m, (conOne C i k).length = m * 5 ∧ m ≤ 1 := by
 unfold conOne
 split
 · exact ⟨1, rfl, Nat.le_refl _⟩
 · exact ⟨0, rfl, by omega⟩
theorem conIn_len (C : Nat → Nat → Int) (i : Nat) : ∀ k, ∃ m, (conIn C i k).length = m * 5 ∧ m ≤ k
 | 0 => ⟨0, rfl, Nat.le_refl _⟩
 | k + 1 => by
  obtain ⟨m, h1, h2⟩ := conIn_len C i k
  obtain ⟨m', h3, h4⟩ := conOne_len C i k
  exact ⟨m + m', by rw [conIn, List.length_append, h1, h3]; omega, by omega⟩
theorem conOut_len (C : Nat → Nat → Int) (n : Nat) : ∀ i, ∃ m, (conOut C n i).length = m * 5 ∧ m ≤ i * n
 | 0 => ⟨0, rfl, by omega⟩
 | i + 1 => by
  obtain ⟨m, h1, h2⟩ := conOut_len C n i
  obtain ⟨m', h3, h4⟩ := conIn_len C i n
  exact ⟨m + m', by rw [conOut, List.length_append, h1, h3]; omega, by rw [Nat.succ_mul]; omega⟩
theorem conB_ge {C : Nat → Nat → Int} {i k : Nat} (h : k ≤ i) : conB C i k = false := by
 unfold conB
 rw [decide_eq_false (by omega)]
 rfl
theorem conOne_no {C : Nat → Nat → Int} {i k : Nat} (h : conB C i k = false) : conOne C i k = [] := by
 unfold conOne
 rw [h]
 rfl
theorem conOne_yes {C : Nat → Nat → Int} {i k : Nat} {X Y D : Int} (h : conB C i k = true) (e : tcH C i k = ((X, Y, D), true)) : conOne C i k = [(i : Int), (k : Int), X, Y, D] := by
 unfold conOne
 rw [if_pos h, e]
theorem conB_yes {C : Nat → Nat → Int} {i k : Nat} {X Y D : Int} (h : i < k) (hf : ¬ (C 8 i = 0 ∧ C 8 k = 0)) (e : tcH C i k = ((X, Y, D), true)) : conB C i k = true := by
 unfold conB
 rw [e, decide_eq_true h]
 by_cases e1 : C 8 i = 0
 · have e2 : ¬ C 8 k = 0 := fun q => hf ⟨e1, q⟩
   simp [e2]
 · simp [e1]
theorem conIn_ge {C : Nat → Nat → Int} (i : Nat) : ∀ k, k ≤ i + 1 → conIn C i k = []
 | 0, _ => rfl
 | k + 1, h => by rw [conIn, conIn_ge i k (by omega), conOne_no (conB_ge (by omega))]; rfl
structure LsAt (w2 W : World) (lb t k : Nat) (a : Option Addr) (m c : Nat) (l : List Int) : Prop where
 fr : Fr (fun b => b = lb) w2 W
 box : W.cell? ⟨lb, 0, none⟩ = some (.slice a m c)
 nf : W.frozen? ⟨lb, 0, none⟩ = false
 len : l.length = m * k
 own : OwnL W w2.heap.size t k (.slice a m c) m (ofL l)
theorem Fr.sm {X : Nat → Prop} {w2 W W' : World} {B : Nat} (h : Fr X w2 W) (hs : Sm B W W') (hB : w2.heap.size ≤ B) : Fr X w2 W' :=
 ⟨hs.below.os.trans h.os, hs.below.tape.trans h.tape, hs.below.output.trans h.output, Nat.le_trans h.size hs.size, fun k hk hn => (hs.below.block k (by omega)).trans (h.block k hk hn), fun k o hk ho => (hs.below.block k (by have := (Array.getElem?_eq_some_iff.1 hk).1; omega)).trans (h.kind k o hk ho)⟩
theorem LsAt.sm {w2 W W' : World} {B lb t k m c : Nat} {a : Option Addr} {l : List Int} (h : LsAt w2 W lb t k a m c l) (hs : Sm B W W') (hB : w2.heap.size ≤ B) : LsAt w2 W' lb t k a m c l :=
 ⟨h.fr.sm hs hB, hs.cell h.box, hs.frozen h.box h.nf, h.len, h.own.sm hs⟩
theorem LsAt.below {w2 W W' : World} {lb t k m c : Nat} {a : Option Addr} {l : List Int} (h : LsAt w2 W lb t k a m c l) (hs : Below W.heap.size W W') : LsAt w2 W' lb t k a m c l := h.sm (Sm.of_below hs (Nat.le_refl _)) h.fr.size
theorem LsAt.start {w2 : World} {lb t k : Nat} (h : w2.cell? ⟨lb, 0, none⟩ = some (.slice none 0 0)) (hf : w2.frozen? ⟨lb, 0, none⟩ = false) : LsAt w2 w2 lb t k none 0 0 [] :=
 ⟨Fr.refl _ _, h, hf, by simp, OwnL.nil _ _ _ _ _⟩
theorem LsAt.keeps {w2 W W1 : World} {lb t k m c m' c' : Nat} {a a' : Option Addr} {l : List Int} (h : LsAt w2 W lb t k a m c l) (hlb : lb < w2.heap.size) (hg : W.grownBy W1 (Value.slice a m c).ownBlock) :
 Fr (fun b => b = lb ∨ (Value.slice a m c).ownBlock = some b) W (W1.setCell ⟨lb, 0, none⟩ (.slice a' m' c')) :=
 (Fr.grown hg (fun b hb => .inr hb) h.own.isCells).trans (Fr.setCell (.inl rfl) _)
theorem LsAt.push {w2 W W1 : World} {lb t k m c : Nat} {a a' : Option Addr} {c' : Nat} {l x : List Int} (h : LsAt w2 W lb t k a m c l) (hlb : lb < w2.heap.size) (hx : x.length = k) (hg : W.grownBy W1 (Value.slice a m c).ownBlock)
 (ho : OwnL W1 w2.heap.size t k (.slice a' (m + 1) c') (m + 1) (cat (m * k) (ofL l) (ofL x))) : LsAt w2 (W1.setCell ⟨lb, 0, none⟩ (.slice a' (m + 1) c')) lb t k a' (m + 1) c' (l ++ x) := by
 have hne : ∀ b, (Value.slice a m c).ownBlock = some b → b ≠ lb := fun b hb => by have := (h.own.lt b hb).1; omega
 have hl : lb < W.heap.size := Nat.lt_of_lt_of_le hlb h.fr.size
 have hb1 : W1.heap[lb]? = W.heap[lb]? := hg.block lb hl (fun e => hne lb e.symm rfl)
 refine ⟨(h.fr.trans' (Fr.grown (X := fun b => (Value.slice a m c).ownBlock = some b) hg (fun b hb => hb) h.own.isCells) (fun i hi e => by have := (h.own.lt i e).1; omega)).trans (Fr.setCell (X := fun b => b = lb) rfl _), cset_same ((World.cell?_of_block (a := ⟨lb, 0, none⟩) hb1).trans h.box), ?_, by rw [List.length_append, h.len, hx, Nat.succ_mul], ?_⟩
 · rw [World.frozen?_setCell]; exact (World.frozen?_of_block (a := ⟨lb, 0, none⟩) hb1).trans h.nf
 · rw [← cat_ofL, h.len]
   refine OwnL.frame (X := fun b => b = lb) ho (Fr.setCell (X := fun b => b = lb) rfl _) (fun b hb e => ?_)
   have := (ho.lt b hb).1
   omega
theorem _root_.Go.KeepsFrom.sm {B B' : Nat} {W X X' : World} (h : KeepsFrom B W X) (hs : Sm B' X X') (hB : W.heap.size ≤ B') : KeepsFrom B W X' :=
 ⟨Nat.le_trans h.size hs.size, fun k o hk h0 ho => (hs.below.block k (by have := (Array.getElem?_eq_some_iff.1 h0).1; omega)).trans (h.same k o hk h0 ho)⟩
structure LsV (w wr : World) (t k : Nat) (a : Option Addr) (m c : Nat) (l : List Int) : Prop where
 bel : Below w.heap.size w wr
 len : l.length = m * k
 own : OwnL wr w.heap.size t k (.slice a m c) m (ofL l)
theorem LsV.below {w wr w' : World} {t k m c : Nat} {a : Option Addr} {l : List Int} (h : LsV w wr t k a m c l) (hb : Below wr.heap.size wr w') : LsV w w' t k a m c l := ⟨h.bel.trans (hb.mono h.bel.size), h.len, h.own.below hb⟩
theorem LsV.push {w wr w1 : World} {t k m c c' : Nat} {a a' : Option Addr} {l x : List Int} (h : LsV w wr t k a m c l) (hx : x.length = k) (hg : wr.grownBy w1 (Value.slice a m c).ownBlock) (ho : OwnL w1 w.heap.size t k (.slice a' (m + 1) c') (m + 1) (cat (m * k) (ofL l) (ofL x))) : LsV w w1 t k a' (m + 1) c' (l ++ x) :=
 ⟨h.bel.grown hg h.bel.size (fun b e => (h.own.lt b e).1), by rw [List.length_append, h.len, hx, Nat.succ_mul], by rw [← cat_ofL, h.len]; exact ho⟩
theorem LsV.new (w : World) (t k : Nat) : LsV w (w.alloc (.cells #[] t)) t k (some ⟨w.heap.size, 0, none⟩) 0 0 [] :=
 ⟨(Below.refl _ _).alloc (Nat.le_refl _) _, by simp, ⟨by simp [numL], .inr ⟨w.heap.size, 0, #[], rfl, Nat.le_refl _, Go.Deep.blk_alloc_new _ _, Nat.le_refl _, Nat.zero_le _, by simp, by simp [numL]⟩⟩⟩
theorem LsV.nil (w : World) (t k : Nat) : LsV w w t k none 0 0 [] := ⟨Below.refl _ _, by simp, OwnL.nil _ _ _ _ _⟩
theorem LsV.out {w0 w wr : World} {t k m c : Nat} {a : Option Addr} {l : List Int} (h : LsV w wr t k a m c l) (hb : Below w0.heap.size w0 w) : OutL w0 wr t k a m c (ofL l) := ⟨hb.trans (h.bel.mono hb.size), h.own.base hb.size⟩
structure LV (w wr : World) (t g cap n : Nat) (xs : List Value) : Prop where
 bel : Below w.heap.size w wr
 len : xs.length = n
 own : wr.ownsRow w.heap.size t 1 (.slice (some ⟨g, 0, none⟩) n cap) n xs
theorem LV.new {w wr : World} (t : Nat) (h : Below w.heap.size w wr) {s : Nat} (e : wr.heap.size = s) : LV w (wr.alloc (.cells #[] t)) t s 0 0 [] := by
 subst e
 exact ⟨h.alloc h.size _, rfl, ⟨rfl, .inr ⟨wr.heap.size, 0, #[], rfl, h.size, Go.Deep.blk_alloc_new _ _, Nat.le_refl _, Nat.zero_le _, by simp, by simp⟩⟩⟩
theorem LV.lt {w wr : World} {t g cap n : Nat} {xs : List Value} (h : LV w wr t g cap n xs) : w.heap.size ≤ g ∧ g < wr.heap.size := World.ownsRow.lt h.own g rfl
theorem LV.fro {w wr : World} {t g cap n : Nat} {xs : List Value} (h : LV w wr t g cap n xs) (j : Nat) : wr.frozen? ⟨g, j, none⟩ = false := World.ownsRow.frozenAt h.own j
theorem LV.cell {w wr : World} {t g cap n : Nat} {xs : List Value} (h : LV w wr t g cap n xs) {j : Nat} {u : Value} (hu : xs[j]? = some u) : wr.cell? ⟨g, j, none⟩ = some u := by
 have hj : j < n := by rw [← h.len]; exact (List.getElem?_eq_some_iff.1 hu).1
 rw [World.ownsRow.cellAt h.own j (by omega), hu]
theorem LV.on {w wr w' : World} {t g cap n : Nat} {xs : List Value} (h : LV w wr t g cap n xs) (hb : Below wr.heap.size wr w') : LV w w' t g cap n xs :=
 ⟨h.bel.trans (hb.mono h.bel.size), h.len, World.ownsRow.kept h.own (below_grown hb rfl) (.inr (by simp [Value.ownBlock]))⟩
theorem LV.dr {w wr : World} {t g cap n : Nat} {xs : List Value} (h : LV w wr t g cap n xs) : LV w wr.drew t g cap n xs := h.on (Below.drew (Below.refl _ _))
theorem LV.set {w wr : World} {t g cap n : Nat} {xs : List Value} (h : LV w wr t g cap n xs) (j : Nat) (u : Value) : LV w (wr.setCell ⟨g, j, none⟩ u) t g cap n (xs.set j u) :=
 ⟨h.bel.setCell h.lt.1 _, by rw [List.length_set]; exact h.len, (World.ownsRow.stored h.own j u).1⟩
theorem LV.ne {w wr : World} {t g cap n : Nat} {xs : List Value} (h : LV w wr t g cap n xs) {b : Nat} (hb : w.heap.size ≤ b) (hn : b ≠ g) (j : Nat) (u : Value) : LV w (wr.setCell ⟨b, j, none⟩ u) t g cap n xs :=
 ⟨h.bel.setCell hb _, h.len, World.ownsRow.kept h.own (row := some b) (by
  have hs := Fr.setCell (X := fun k => k = b) (w := wr) (p := ⟨b, j, none⟩) rfl u
  exact ⟨hs.os, hs.tape, hs.output, hs.size, fun k hk hne => hs.block k hk (fun e => hne (by rw [e]))⟩) (.inr (by simp [Value.ownBlock]; exact fun e => hn e.symm))⟩
theorem LV.kept {w wr w' : World} {t g cap n row : Nat} {xs : List Value} (h : LV w wr t g cap n xs) (hg : wr.grownBy w' (some row)) (hb : w.heap.size ≤ row) (hn : row ≠ g) : LV w w' t g cap n xs :=
 ⟨h.bel.grown hg h.bel.size (fun b e => by cases e; exact hb), h.len, World.ownsRow.kept h.own hg (.inr (by simp [Value.ownBlock]; exact fun e => hn e.symm))⟩
theorem wpList_push {P : Program} {ops : Array Oper} {rest : List Oper} {o : Oper} {a : Act} {Q : Exit → Act → World → Prop} {w wr wx : World} (hgd : o.guard = none) (s x : Operand) (t : TypeId)
 (ho : o.op = .call { callee := .builtin .append, args := #[s, x], argTypes := #[t, t] })
 (e bytes : Nat) (z : Value) (ht : P.underlying t = some (.slice e)) (hinfo : (P.info? e).map (fun i => (i.zero, i.size, i.bytes)) = some (some z, 1, bytes)) (hzs : z.cells.size = 1) (hby : bytes ≤ 8)
 (g cap n : Nat) (xs : List Value) (hs : a.eval s = .slice (some ⟨g, 0, none⟩) n cap) (h : LV w wr e g cap n xs) (hb : Below wr.heap.size wr wx) (b : Nat) (hx : a.eval x = .slice (some ⟨b, 0, none⟩) 1 1) (u : Value) (hu : wx.cell? ⟨b, 0, none⟩ = some u) (h1 : u.oneCell' = true)
 (hn : n ≤ 1048576) (hK : ∀ g' cap' w', LV w w' e g' cap' (n + 1) (xs ++ [u]) → wx.grownBy w' (some g) → (g' = g ∨ g' = wx.heap.size) → wpList P ops Q rest (a.put o.dst (.slice (some ⟨g', 0, none⟩) (n + 1) cap')) w') : wpList P ops Q (o :: rest) a wx := by
 obtain ⟨i, hi, hzz⟩ := Option.map_eq_some_iff.1 hinfo
 simp only [Prod.mk.injEq] at hzz
 obtain ⟨hz, hsz, hb8⟩ := hzz
 have hw := h.on hb
 refine wpList_append_lies wx hgd s x t ho w.heap.size e i z 1 bytes ht hi hz hsz hb8 hzs (by decide) (.slice (some ⟨g, 0, none⟩) n cap) n xs hs hw.own ⟨b, 0, none⟩ 1 1 [u] hx rfl ?_ ?_ (by decide) (by unfold maxLen; omega) ?_ hw.bel.size _ rfl ?_
 · intro j v hv
   cases j with
   | zero => simp at hv; subst hv; exact hu
   | succ j => simp at hv
 · intro v hv; simp at hv; rw [hv]; exact h1
 · have : (n + 1) * bytes ≤ (n + 1) * 8 := Nat.mul_le_mul_left _ hby
   omega
 · intro g' cap' w' r1 r2 r3 r4
   refine hK g' cap' w' ⟨hw.bel.grown r2 hw.bel.size (fun b e => by cases e; exact hw.lt.1), by rw [List.length_append, hw.len]; rfl, r1⟩ r2 ?_
   rcases r3 with r3 | r3
   · simp [Value.ownBlock] at r3; exact .inl r3.symm
   · exact .inr r3
def IV (l : List Int) : List Value := l.map (Value.int .i64)
theorem IV_app (l : List Int) (x : Int) : IV l ++ [.int .i64 x] = IV (l ++ [x]) := by unfold IV; rw [List.map_append]; rfl
theorem IV_set (l : List Int) (j : Nat) (x : Int) : (IV l).set j (.int .i64 x) = IV (l.set j x) := by unfold IV; rw [List.map_set]
theorem IV_len (l : List Int) : (IV l).length = l.length := by unfold IV; rw [List.length_map]
theorem IV_get {l : List Int} {j : Nat} (h : j < l.length) : (IV l)[j]? = some (.int .i64 (ofL l j)) := by
 unfold IV ofL
 rw [List.getElem?_map, List.getElem?_eq_getElem h, List.getD_eq_getElem?_getD, List.getElem?_eq_getElem h]
 rfl
theorem LV.flat {w wr : World} {t g cap n : Nat} {l : List Int} (h : LV w wr t g cap n (IV l)) : Flat wr (some ⟨g, 0, none⟩) (n * 1) (ofL l) := by
 intro h0
 refine ⟨g, 0, rfl, h.lt.2, fun j hj => ?_⟩
 rw [Nat.zero_add]
 have hl := h.len
 rw [IV_len] at hl
 exact h.cell (IV_get (by omega))
theorem LV.ic {w wr : World} {t g cap n : Nat} {l : List Int} (h : LV w wr t g cap n (IV l)) {j : Nat} (hj : j < n) : wr.cell? ⟨g, j, none⟩ = some (.int .i64 (ofL l j)) := by
 have hl := h.len
 rw [IV_len] at hl
 exact h.cell (IV_get (by omega))
abbrev zcInt : Value := .int .i64 0
theorem infoInt : (Tryz.prog.info? 3).map (fun i => (i.zero, i.size, i.bytes)) = some (some zcInt, 1, 8) := by kernel_rfl
theorem wake_ok {V : Nat → Int} (b : Bool) (h : BOk V) : BOk (wakeV b V) := by
 unfold wakeV
 cases hl : (b && decide (8 ≤ V 11)) with
 | false => exact h
 | true =>
  simp only [Bool.and_eq_true, decide_eq_true_eq] at hl
  obtain ⟨a0, a1, a2, a3, a4, a5, a6, a7, a8, a9, b0, b1⟩ := h
  have m8 : V 8 ≠ 0 := fun e => by have := b0 e; omega
  show BOk (setV V 11 0)
  have e : ∀ j, j ≠ 11 → setV V 11 0 j = V j := fun j hj => setV_ne hj
  have eb : setV V 11 0 11 = 0 := setV_eq
  generalize setV V 11 0 = W at e eb
  have w0 := e 0 (by decide)
  have w1 := e 1 (by decide)
  have w2 := e 2 (by decide)
  have w3 := e 3 (by decide)
  have w4 := e 4 (by decide)
  have w5 := e 5 (by decide)
  have w6 := e 6 (by decide)
  have w7 := e 7 (by decide)
  have w8 := e 8 (by decide)
  have w9 := e 9 (by decide)
  have wa := e 10 (by decide)
  exact ⟨by rw [w0]; exact a0, by rw [w1, w2, w3]; exact a1, by rw [w4]; exact a2, by rw [w5]; exact a3, by rw [w6]; exact a4, by rw [w7]; exact a5, by rw [w8]; exact a6, by rw [w9]; exact a7, by rw [wa]; exact a8, by rw [eb]; omega, by rw [eb]; exact fun _ => rfl, .inl ⟨by rw [w8]; exact m8, by rw [eb]; decide⟩⟩
theorem sl_ok {V : Nat → Int} (h : BOk V) (m8 : V 8 ≠ 0) : BOk (slV V) := by
 obtain ⟨a0, a1, a2, a3, a4, a5, a6, a7, a8, a9, b0, b1⟩ := h
 have e : ∀ j, j ≠ 7 → j ≠ 6 → j ≠ 11 → slV V j = V j := fun j h1 h2 h3 => by unfold slV; rw [if_neg h1, if_neg h2, if_neg h3]
 have e7 : slV V 7 = 0 := rfl
 have e6 : slV V 6 = 0 := rfl
 have eb : slV V 11 = 8 := rfl
 generalize slV V = W at e e7 e6 eb
 have w0 := e 0 (by decide) (by decide) (by decide)
 have w1 := e 1 (by decide) (by decide) (by decide)
 have w2 := e 2 (by decide) (by decide) (by decide)
 have w3 := e 3 (by decide) (by decide) (by decide)
 have w4 := e 4 (by decide) (by decide) (by decide)
 have w5 := e 5 (by decide) (by decide) (by decide)
 have w8 := e 8 (by decide) (by decide) (by decide)
 have w9 := e 9 (by decide) (by decide) (by decide)
 have wa := e 10 (by decide) (by decide) (by decide)
 exact ⟨by rw [w0]; exact a0, by rw [w1, w2, w3]; exact a1, by rw [w4]; exact a2, by rw [w5]; exact a3, by rw [e6]; omega, by rw [e7]; omega, by rw [w8]; exact a6, by rw [w9]; exact a7, by rw [wa]; exact a8, by rw [eb]; omega, by rw [w8]; exact fun q => absurd q m8, .inr ⟨e6, e7⟩⟩
theorem Bods.wake {n : Nat} {U G : Nat → Int} {A : Nat → Bool} (h : Bods n U) : Bods n (mapR (fun i V => wakeV (awK G A i) V) U n) :=
 h.map (fun k hk => (wake_ok _ (h.row hk)).to) (fun k hk => by show wakeV _ (fun j => U (k * 12 + j)) 0 = _; unfold wakeV; cases (awK G A k && decide (8 ≤ (fun j => U (k * 12 + j)) 11)) <;> rfl)
theorem slF_8 (G : Nat → Int) (g i : Nat) (V : Nat → Int) : slF G g i V 8 = V 8 := by unfold slF; cases decide (G i = (g : Int)) <;> rfl
theorem Bods.sleepS {n : Nat} {U G : Nat → Int} {A : Nat → Bool} (h : Bods n U) (hG : ∀ k, k < n → 0 ≤ G k → U (k * 12 + 8) ≠ 0) (g : Nat) : Bods n (sleepS G A n g U) ∧ ∀ k, k < n → sleepS G A n g U (k * 12 + 8) = U (k * 12 + 8) := by
 unfold Go.Proofs.YtfiaokkolcodgaaGreat.sleepS
 cases (A g && allQ G U g n) with
 | false => exact ⟨h, fun k hk => rfl⟩
 | true =>
  refine ⟨h.map (fun k hk => ?_) (fun k hk => ?_), fun k hk => (mapR_in hk (by omega)).trans (slF_8 G g k _)⟩
  · unfold slF
    by_cases e : G k = (g : Int)
    · rw [decide_eq_true e]; exact (sl_ok (h.row hk) (hG k hk (by omega))).to
    · rw [decide_eq_false e]; exact h.ok k hk
  · unfold slF; cases decide (G k = (g : Int)) <;> rfl
theorem Bods.sleep {n : Nat} {U G : Nat → Int} {A : Nat → Bool} (h : Bods n U) (hG : ∀ k, k < n → 0 ≤ G k → U (k * 12 + 8) ≠ 0) : ∀ g, Bods n (sleepN G A n U g) ∧ ∀ k, k < n → sleepN G A n U g (k * 12 + 8) = U (k * 12 + 8)
 | 0 => ⟨h, fun k hk => rfl⟩
 | g + 1 => by
  obtain ⟨h1, h2⟩ := Bods.sleep h hG g
  obtain ⟨q1, q2⟩ := Bods.sleepS (A := A) h1 (fun k hk h0 => by rw [h2 k hk]; exact hG k hk h0) g
  exact ⟨q1, fun k hk => (q2 k hk).trans (h2 k hk)⟩
theorem run_eq_vec (n d : Nat) (hn : n = d + 1) (a b x y : Int) (w : World) : (Op.equalIn (n + 1) 33 (.agg #[.int .i64 a, .int .i64 b]) (.agg #[.int .i64 x, .int .i64 y])).run Tryz.prog w = .ok (a == x && b == y) w := by
 have hi : Tryz.prog.underlying 3 = some (.int .i64) := by kernel_rfl
 have hs : Tryz.prog.stoodInHeld 33 = false := by kernel_rfl
 have hp : ∀ w, (program).run Tryz.prog w = .ok Tryz.prog w := fun w => by rfl
 have p0 : ∀ (a b : Int) w, (part 3 #[.int .i64 a, .int .i64 b] 0).run Tryz.prog w = .ok (.int .i64 a) w := fun a b w => by kernel_rfl
 have p1 : ∀ (a b : Int) w, (part 3 #[.int .i64 a, .int .i64 b] 1).run Tryz.prog w = .ok (.int .i64 b) w := fun a b w => by kernel_rfl
 simp only [Op.equalIn, Sem.run_bind, run_underlying Tryz.underlying33, Result.andThen_ok, hp, hs, Bool.false_eq_true, if_false, Sem.run_pure]
 subst hn
 have h0 : ∀ w, (Op.equalIn (d + 1) 3 (.int .i64 a) (.int .i64 x)).run Tryz.prog w = .ok (a == x) w := fun w => run_equalIn_int w d 3 .i64 .i64 a x hi
 have h1 : ∀ w, (Op.equalIn (d + 1) 3 (.int .i64 b) (.int .i64 y)).run Tryz.prog w = .ok (b == y) w := fun w => run_equalIn_int w d 3 .i64 .i64 b y hi
 simp only [List.forIn_toArray, List.forIn_cons, List.forIn_nil, Sem.run_bind, p0, h0, Result.andThen_ok, Sem.run_ite, Sem.run_pure]
 cases hx : (a == x) <;> cases hy : (b == y) <;> simp [Sem.run_bind, p0, p1, h0, h1, Sem.run_ite, hx, hy]
theorem eq_vec0 (a b x y : Int) (w : World) : (Op.equalIn 10000 33 (.agg #[.int .i64 a, .int .i64 b]) (.agg #[.int .i64 x, .int .i64 y])).run Tryz.prog w = .ok (a == x && b == y) w := run_eq_vec 9999 9998 rfl a b x y w
theorem opp_z (x y : Int) (w : World) (hx : -2000000000 ≤ x ∧ x ≤ 2000000000) (hy : -2000000000 ≤ y ∧ y ≤ 2000000000) :
 Calls Tryz.prog 64 #[vv x y] w fun e w' => e = .returned (vv (-x) (-y)) ∧ Below w.heap.size w w' := by
 have hset := cset_map
 have w1 := i64w (n := -x) (by omega)
 have w2 := i64w (n := -y) (by omega)
 go_enter Tryz.func64, Tryz.ntmps64
 go_wp2_with fail
 exact bodyPost_ret (v := vv (-x) (-y)) (by simp [results, Tryz.results64, go_sem, *]) rfl ⟨rfl, bel_a⟩
end Go.Proofs.YtfiaokkolcodgaaGreat
