/- What lies where while something is drawn: any number of blocks of numbers, and the reader. -/
import Derived.Test.YtpgoicdblbpcaaaFloat
import Derived.Deep.RegionHeld3
import Derived.Deep.DeepCutAuto
namespace Go.Proofs.Ytpgoicdblbpcaaa
open Go.RowKit
set_option linter.unusedVariables false
set_option linter.unusedSimpArgs false
theorem balloc (w : World) (o : Obj) : Below w.heap.size w (w.alloc o) := (Below.refl _ _).alloc (Nat.le_refl _) o
theorem Al.bl {w0 w w' : World} {ab n B : Nat} {V : Nat → Int} (h : Al w0 w ab n V) (k : Below B w w') (hB : ab < B) : Al w0 w' ab n V := by
  obtain ⟨h1, h2, h3, h4⟩ := h
  exact ⟨h1, Nat.lt_of_lt_of_le h2 k.size, fun i hi => (k.cell (p := ⟨ab, i, none⟩) hB).trans (h3 i hi), fun i hi => (k.frozen (p := ⟨ab, i, none⟩) hB).trans (h4 i hi)⟩
theorem Al.ne {rb : Nat} {w0 w w' : World} {ab n : Nat} {V : Nat → Int} (h : Al w0 w ab n V) (hne : ab ≠ rb) (k : But rb w w') : Al w0 w' ab n V := by
  obtain ⟨h1, h2, h3, h4⟩ := h
  exact ⟨h1, Nat.lt_of_lt_of_le h2 k.size, fun i hi => (k.cell (p := ⟨ab, i, none⟩) h2 hne).trans (h3 i hi), fun i hi => (k.frozen (p := ⟨ab, i, none⟩) h2 hne).trans (h4 i hi)⟩
theorem Al.off {w0 w : World} {ab n b k : Nat} {V : Nat → Int} (h : Al w0 w ab n V) (hb : ab ≠ b) (v : Value) : Al w0 (w.setCell ⟨b, k, none⟩ v) ab n V := by
  obtain ⟨h1, h2, h3, h4⟩ := h
  refine ⟨h1, by simpa [World.setCell] using h2, fun i hi => ?_, fun i hi => ?_⟩
  · rw [cset_far (by simp; omega)]; exact h3 i hi
  · rw [World.frozen?_setCell]; exact h4 i hi
abbrev Bls := List (Nat × Nat × (Nat → Int))
/-- blocks of numbers, all younger than w -/
structure AL (w w' : World) (L : Bls) : Prop where
  bel : Below w.heap.size w w'
  al : ∀ x ∈ L, Al w w' x.1 x.2.1 x.2.2
theorem AL.nil (w : World) : AL w w [] := ⟨Below.refl _ _, fun x hx => by cases hx⟩
theorem AL.new {w w' : World} {L : Bls} (h : AL w w' L) (b n : Nat) (V : Nat → Int) {cs : Array Value} {t : TypeId} (hb : b = w'.heap.size) (hc : ∀ i, i < n → cs[i]? = some (.int .i64 (V i))) :
    AL w (w'.alloc (.cells cs t)) ((b, n, V) :: L) := by
  subst hb
  refine ⟨h.bel.alloc h.bel.size _, fun x hx => ?_⟩
  rcases List.mem_cons.mp hx with rfl | hx
  · exact Al.new h.bel.size hc
  · exact (h.al x hx).bl (balloc _ _) (h.al x hx).2.1
theorem AL.call {w w' w1 : World} {L : Bls} (h : AL w w' L) (k : Below w'.heap.size w' w1) : AL w w1 L :=
  ⟨h.bel.trans (k.mono h.bel.size), fun x hx => (h.al x hx).bl k (h.al x hx).2.1⟩
theorem AL.get {w w' : World} {L : Bls} (h : AL w w' L) {x : Nat × Nat × (Nat → Int)} (hx : x ∈ L) : Al w w' x.1 x.2.1 x.2.2 := h.al x hx
theorem AL.sub {w w' : World} {L M : Bls} (h : AL w w' L) (k : ∀ x ∈ M, x ∈ L) : AL w w' M := ⟨h.bel, fun x hx => h.al x (k x hx)⟩
theorem AL.lt {w w' : World} {L : Bls} (h : AL w w' L) {x : Nat × Nat × (Nat → Int)} (hx : x ∈ L) : x.1 < w'.heap.size := (h.al x hx).2.1
theorem AL.drew {w w' : World} {L : Bls} (h : AL w w' L) : AL w w'.drew L := ⟨h.bel.drew, h.al⟩
theorem AL.set {w w' : World} {b n : Nat} {V : Nat → Int} {L : Bls} (h : AL w w' ((b, n, V) :: L)) (hne : ∀ x ∈ L, x.1 ≠ b) (k : Nat) (hk : k < n) (v : Int) :
    AL w (w'.setCell ⟨b, k, none⟩ (.int .i64 v)) ((b, n, fun j => if j = k then v else V j) :: L) := by
  have hb := h.al _ (List.mem_cons_self ..)
  have hlo := hb.1
  dsimp only at hlo
  refine ⟨h.bel.setCell (by simpa using hlo) _, fun x hx => ?_⟩
  rcases List.mem_cons.mp hx with rfl | hx
  · exact hb.set k hk v
  · exact (h.al x (List.mem_cons_of_mem _ hx)).off (hne x hx) _
/-- the same, with the reader -/
structure DL (w w' : World) (rb p : Nat) (L : Bls) : Prop where
  rs : RS w' rb p
  bel : Below w.heap.size w w'
  lo : w.heap.size ≤ rb
  al : ∀ x ∈ L, Al w w' x.1 x.2.1 x.2.2 ∧ x.1 ≠ rb
theorem AL.opened {w w0 w1 : World} {L : Bls} (h : AL w w0 L) (k : Below w0.heap.size w0 w1) (r : RS w1 w0.heap.size 0) : DL w w1 w0.heap.size 0 L :=
  ⟨r, h.bel.trans (k.mono h.bel.size), h.bel.size, fun x hx => ⟨(h.al x hx).bl k (h.al x hx).2.1, by have := (h.al x hx).2.1; omega⟩⟩
theorem DL.call {w w' w1 : World} {rb p p1 : Nat} {L : Bls} (h : DL w w' rb p L) (k : RB w' w1 rb p1) : DL w w1 rb p1 L :=
  ⟨RS.of k, h.bel.trans (k.but.below h.lo h.bel.size), h.lo, fun x hx => ⟨(h.al x hx).1.ne (h.al x hx).2 k.but, (h.al x hx).2⟩⟩
theorem DL.mono {w w' : World} {rb p p1 : Nat} {L : Bls} (h : DL w w' rb p L) (k : p ≤ p1) : DL w w' rb p1 L := ⟨h.rs.mono k, h.bel, h.lo, h.al⟩
theorem DL.drew {w w' : World} {rb p : Nat} {L : Bls} (h : DL w w' rb p L) : DL w w'.drew rb p L := ⟨h.rs.drew, h.bel.drew, h.lo, h.al⟩
theorem DL.new {w w' : World} {rb p : Nat} {L : Bls} (h : DL w w' rb p L) (n : Nat) (V : Nat → Int) {cs : Array Value} {t : TypeId} (hc : ∀ i, i < n → cs[i]? = some (.int .i64 (V i))) :
    DL w (w'.alloc (.cells cs t)) rb p ((w'.heap.size, n, V) :: L) := by
  refine ⟨h.rs.alloc _, h.bel.alloc h.bel.size _, h.lo, fun x hx => ?_⟩
  rcases List.mem_cons.mp hx with rfl | hx
  · exact ⟨Al.new h.bel.size hc, by have := h.rs.lt; dsimp only; omega⟩
  · exact ⟨(h.al x hx).1.bl (balloc _ _) (h.al x hx).1.2.1, (h.al x hx).2⟩
theorem DL.alloc {w w' : World} {rb p : Nat} {L : Bls} (h : DL w w' rb p L) (o : Obj) : DL w (w'.alloc o) rb p L :=
  ⟨h.rs.alloc _, h.bel.alloc h.bel.size _, h.lo, fun x hx => ⟨(h.al x hx).1.bl (balloc _ _) (h.al x hx).1.2.1, (h.al x hx).2⟩⟩
theorem DL.sub {w w' : World} {rb p : Nat} {L M : Bls} (h : DL w w' rb p L) (k : ∀ x ∈ M, x ∈ L) : DL w w' rb p M := ⟨h.rs, h.bel, h.lo, fun x hx => h.al x (k x hx)⟩
theorem DL.get {w w' : World} {rb p : Nat} {L : Bls} (h : DL w w' rb p L) {x : Nat × Nat × (Nat → Int)} (hx : x ∈ L) : Al w w' x.1 x.2.1 x.2.2 := (h.al x hx).1
theorem DL.lt {w w' : World} {rb p : Nat} {L : Bls} (h : DL w w' rb p L) {x : Nat × Nat × (Nat → Int)} (hx : x ∈ L) : x.1 < w'.heap.size := (h.al x hx).1.2.1
theorem DL.headc {w w' : World} {rb p b n : Nat} {V U : Nat → Int} {L : Bls} (h : DL w w' rb p ((b, n, V) :: L)) (k : ∀ i, i < n → V i = U i) : DL w w' rb p ((b, n, U) :: L) := by
  refine ⟨h.rs, h.bel, h.lo, fun x hx => ?_⟩
  rcases List.mem_cons.mp hx with rfl | hx
  · have q := h.al _ (List.mem_cons_self ..)
    exact ⟨q.1.congr k, q.2⟩
  · exact h.al x (List.mem_cons_of_mem _ hx)
theorem DL.toAL {w w' : World} {rb p : Nat} {L : Bls} (h : DL w w' rb p L) : AL w w' L := ⟨h.bel, fun x hx => (h.al x hx).1⟩
/-- a cell of the first block is written -/
theorem DL.set {w w' : World} {rb p b n : Nat} {V : Nat → Int} {L : Bls} (h : DL w w' rb p ((b, n, V) :: L)) (hr : rb < b) (hne : ∀ x ∈ L, x.1 ≠ b) (k : Nat) (hk : k < n) (v : Int) :
    DL w (w'.setCell ⟨b, k, none⟩ (.int .i64 v)) rb p ((b, n, fun j => if j = k then v else V j) :: L) := by
  have hb := (h.al _ (List.mem_cons_self ..)).1
  have hlo := hb.1
  dsimp only at hlo
  refine ⟨h.rs.setNew (by simpa using hr) _, h.bel.setCell (by simpa using hlo) _, h.lo, fun x hx => ?_⟩
  rcases List.mem_cons.mp hx with rfl | hx
  · exact ⟨hb.set k hk v, by dsimp only; omega⟩
  · exact ⟨(h.al x (List.mem_cons_of_mem _ hx)).1.off (hne x hx) _, (h.al x (List.mem_cons_of_mem _ hx)).2⟩
end Go.Proofs.Ytpgoicdblbpcaaa
