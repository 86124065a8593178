/- What lies where while something is drawn by one that was handed the reader. -/
import Derived.Test.YtpgoicdblbpcaaaDrawL
import Derived.Deep.RegionHeld3
import Derived.Deep.DeepCutAuto
namespace Go.Proofs.Ytpgoicdblbpcaaa
open Go.RowKit
set_option linter.unusedVariables false
set_option linter.unusedSimpArgs false
structure BL (w w' : World) (rb p : Nat) (L : Bls) : Prop where
  rs : RS w' rb p
  but : But rb w w'
  lo : rb < w.heap.size
  al : ∀ x ∈ L, Al w w' x.1 x.2.1 x.2.2
theorem BL.start {w : World} {rb p : Nat} (h : RS w rb p) : BL w w rb p [] := ⟨h, But.refl _ _, h.lt, fun x hx => by cases hx⟩
theorem BL.call {w w' w1 : World} {rb p p1 : Nat} {L : Bls} (h : BL w w' rb p L) (k : RB w' w1 rb p1) : BL w w1 rb p1 L :=
  ⟨RS.of k, h.but.trans k.but, h.lo, fun x hx => (h.al x hx).up h.lo k.but⟩
theorem BL.calb {w w' w1 : World} {rb p : Nat} {L : Bls} (h : BL w w' rb p L) (k : Below w'.heap.size w' w1) : BL w w1 rb p L := by
  obtain ⟨q, a, b⟩ := h.rs
  exact h.call (RB.mk (But.of_below k) ⟨q, a, b.below k⟩)
theorem BL.mono {w w' : World} {rb p p1 : Nat} {L : Bls} (h : BL w w' rb p L) (k : p ≤ p1) : BL w w' rb p1 L := ⟨h.rs.mono k, h.but, h.lo, h.al⟩
theorem BL.drew {w w' : World} {rb p : Nat} {L : Bls} (h : BL w w' rb p L) : BL w w'.drew rb p L := ⟨h.rs.drew, h.but.drew, h.lo, h.al⟩
theorem BL.new {w w' : World} {rb p : Nat} {L : Bls} (h : BL w w' rb p L) (b n : Nat) (V : Nat → Int) {cs : Array Value} {t : TypeId} (hb : b = w'.heap.size) (hc : ∀ i, i < n → cs[i]? = some (.int .i64 (V i))) :
    BL w (w'.alloc (.cells cs t)) rb p ((b, n, V) :: L) := by
  subst hb
  refine ⟨h.rs.alloc _, h.but.alloc _, h.lo, fun x hx => ?_⟩
  rcases List.mem_cons.mp hx with rfl | hx
  · exact Al.new h.but.size hc
  · exact (h.al x hx).bl (balloc _ _) (h.al x hx).2.1
theorem BL.alloc {w w' : World} {rb p : Nat} {L : Bls} (h : BL w w' rb p L) (o : Obj) : BL w (w'.alloc o) rb p L :=
  ⟨h.rs.alloc _, h.but.alloc _, h.lo, fun x hx => (h.al x hx).bl (balloc _ _) (h.al x hx).2.1⟩
theorem BL.sub {w w' : World} {rb p : Nat} {L M : Bls} (h : BL w w' rb p L) (k : ∀ x ∈ M, x ∈ L) : BL w w' rb p M := ⟨h.rs, h.but, h.lo, fun x hx => h.al x (k x hx)⟩
theorem BL.get {w w' : World} {rb p : Nat} {L : Bls} (h : BL w w' rb p L) {x : Nat × Nat × (Nat → Int)} (hx : x ∈ L) : Al w w' x.1 x.2.1 x.2.2 := h.al x hx
theorem BL.lt {w w' : World} {rb p : Nat} {L : Bls} (h : BL w w' rb p L) {x : Nat × Nat × (Nat → Int)} (hx : x ∈ L) : x.1 < w'.heap.size := (h.al x hx).2.1
theorem BL.set {w w' : World} {rb p b n : Nat} {V : Nat → Int} {L : Bls} (h : BL w w' rb p ((b, n, V) :: L)) (hne : ∀ x ∈ L, x.1 ≠ b) (k : Nat) (hk : k < n) (v : Int) :
    BL w (w'.setCell ⟨b, k, none⟩ (.int .i64 v)) rb p ((b, n, fun j => if j = k then v else V j) :: L) := by
  have hb := h.al _ (List.mem_cons_self ..)
  have hlo := hb.1
  dsimp only at hlo
  have h0 := h.lo
  refine ⟨h.rs.setNew (by dsimp only; omega) _, h.but.setNew (by simpa using hlo) _, h.lo, fun x hx => ?_⟩
  rcases List.mem_cons.mp hx with rfl | hx
  · exact hb.set k hk v
  · exact (h.al x (List.mem_cons_of_mem _ hx)).off (hne x hx) _
theorem BL.headc {w w' : World} {rb p b n : Nat} {V U : Nat → Int} {L : Bls} (h : BL w w' rb p ((b, n, V) :: L)) (k : ∀ i, i < n → V i = U i) : BL w w' rb p ((b, n, U) :: L) := by
  refine ⟨h.rs, h.but, h.lo, fun x hx => ?_⟩
  rcases List.mem_cons.mp hx with rfl | hx
  · exact (h.al _ (List.mem_cons_self ..)).congr k
  · exact h.al x (List.mem_cons_of_mem _ hx)
theorem BL.done {w w' : World} {rb p : Nat} {L : Bls} (h : BL w w' rb p L) : RB w w' rb p := RB.mk h.but h.rs
end Go.Proofs.Ytpgoicdblbpcaaa
