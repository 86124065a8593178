/- The contracts of the draws of places and shapes. -/
import Derived.Test.YtlnoiligennpjaaDrawV2
import Derived.Test.YtlnoiligennpjaaShape
import Derived.Test.YtlnoiligennpjaaBox
namespace Go.Proofs.Ytlnoiligennpjaa
open Go.RowKit
set_option linter.unusedVariables false
set_option linter.unusedSimpArgs false

/-- a number of a place, a box or a shape that was drawn -/
def Bn (x : Int) : Prop := -1100000000 ≤ x ∧ x ≤ 1100000000

/-- the reader at block rb, its place at most p -/
def RS (w : World) (rb p : Nat) : Prop := ∃ q, q ≤ p ∧ Rd w rb q
theorem RS.of {w0 w : World} {rb p : Nat} (h : RB w0 w rb p) : RS w rb p := by
  obtain ⟨q, a, b, c⟩ := h; exact ⟨q, a, b⟩
theorem RS.rb {w : World} {rb p : Nat} (h : RS w rb p) : RB w w rb p := by
  obtain ⟨q, a, b⟩ := h; exact ⟨q, a, b, But.refl _ _⟩
theorem RS.mono {w : World} {rb p p' : Nat} (h : RS w rb p) (k : p ≤ p') : RS w rb p' := by
  obtain ⟨q, a, b⟩ := h; exact ⟨q, by omega, b⟩
theorem RS.up {w0 w : World} {rb p p' : Nat} (h : RB w0 w rb p) (k : p ≤ p') : RS w rb p' := (RS.of h).mono k
theorem RB.but {w0 w : World} {rb p : Nat} (h : RB w0 w rb p) : But rb w0 w := by
  obtain ⟨q, a, b, c⟩ := h; exact c
theorem RB.mk {w0 w : World} {rb p : Nat} (h : But rb w0 w) (k : RS w rb p) : RB w0 w rb p := by
  obtain ⟨q, a, b⟩ := k; exact ⟨q, a, b, h⟩
theorem But.setNew {rb : Nat} {a w : World} (h : But rb a w) {x : Addr} (hx : a.heap.size ≤ x.block) (u : Value) : But rb a (w.setCell x u) :=
  ⟨h.os, h.tape, h.output, by simpa [World.setCell] using h.size, fun k hk hn => (Below.heap_setCell _ _ _ _ (by omega)).trans (h.block k hk hn)⟩
theorem But.drew {rb : Nat} {a w : World} (h : But rb a w) : But rb a w.drew := ⟨h.os, h.tape, h.output, h.size, h.block⟩
theorem RS.lt {w : World} {rb p : Nat} (h : RS w rb p) : rb < w.heap.size := h.rb.lt
theorem RS.alloc {w : World} {rb p : Nat} (h : RS w rb p) (o : Obj) : RS (w.alloc o) rb p := RS.of (h.rb.alloc o)
theorem RS.setNew {w : World} {rb p : Nat} (h : RS w rb p) {a : Addr} (ha : rb < a.block) (v : Value) : RS (w.setCell a v) rb p := by
  obtain ⟨q, k, b⟩ := h; exact ⟨q, k, b.setNew ha v⟩
theorem RS.drewN {w : World} {rb p : Nat} (h : RS w rb p) (n : Nat) : RS (w.drewN n) rb p := h
theorem RS.drew {w : World} {rb p : Nat} (h : RS w rb p) : RS w.drew rb p := h
theorem RB.drewN {w0 w : World} {rb p : Nat} (h : RB w0 w rb p) (n : Nat) : RB w0 (w.drewN n) rb p := by
  obtain ⟨q, a, b, c⟩ := h; exact ⟨q, a, b, c.drewN n⟩
theorem RB.drew {w0 w : World} {rb p : Nat} (h : RB w0 w rb p) : RB w0 w.drew rb p := by
  obtain ⟨q, a, b, c⟩ := h; exact ⟨q, a, b, c.drewN 1⟩
theorem RB.trans {a b c : World} {rb p p' : Nat} (h : RB a b rb p) (k : RB b c rb p') : RB a c rb p' := by
  obtain ⟨q, _, _, x⟩ := h
  obtain ⟨q', y, z, u⟩ := k
  exact ⟨q', y, z, x.trans u⟩
theorem pick_s (rb p : Nat) (n : Int) (w : World) (hr : RS w rb p) (hp : p ≤ 999000) (h0 : 1 ≤ n) (h1 : n ≤ 4000000000) :
    Calls Try.prog 23 #[.pointer (some ⟨rb, 0, none⟩), .int .i64 n] w fun e w' => ∃ v : Int, e = .returned (.int .i64 v) ∧ 0 ≤ v ∧ v < n ∧ RB w w' rb (p + 1) :=
  pick_rb w rb p n w hr.rb hp h0 h1
theorem one_s (lo hi : Int) (rb p len cap : Nat) (cs : Array Value) (t : TypeId) (w : World) (hr : RS w rb p) (hp : p ≤ 999000) (hcs : AllBd lo hi cs.toList) (hl : cs.size = len) (h0 : 1 ≤ len) (h1 : len ≤ 100) :
    Calls Try.prog 31 #[.pointer (some ⟨rb, 0, none⟩), .slice (some ⟨w.heap.size, 0, none⟩) len cap] (w.alloc (.cells cs t)) fun e w' => ∃ v : Int, e = .returned (.int .i64 v) ∧ lo ≤ v ∧ v ≤ hi ∧ RB w w' rb (p + 1) :=
  one_rb lo hi w rb p len cap cs t w hr.rb hp hcs hl h0 h1
theorem one_g (lo hi : Int) (rb p lb len cap : Nat) (xs : List Int) (w : World) (hr : RS w rb p) (hp : p ≤ 999000) (hx : ∀ x ∈ xs, lo ≤ x ∧ x ≤ hi) (hl : xs.length = len) (h0 : 1 ≤ len) (h1 : len ≤ 100) (hb : lb ≠ rb) (hc : ∀ i, i < len → w.cell? ⟨lb, i, none⟩ = some (.int .i64 (xs.getD i 0))) :
    Calls Try.prog 31 #[.pointer (some ⟨rb, 0, none⟩), .slice (some ⟨lb, 0, none⟩) len cap] w fun e w' => ∃ v : Int, e = .returned (.int .i64 v) ∧ lo ≤ v ∧ v ≤ hi ∧ RB w w' rb (p + 1) := by
  obtain ⟨q, hq, hd⟩ := hr
  refine (one_any rb q lb len cap xs w hd (by omega) hl h0 h1 hb hc).mono ?_
  rintro e w' ⟨v, rfl, hv, hr', hb'⟩
  obtain ⟨v0, v1⟩ := hx v hv
  exact ⟨v, rfl, v0, v1, q + 1, by omega, hr', hb'⟩
/-- a number of a place that was drawn -/
def Bm (x : Int) : Prop := -10000 ≤ x ∧ x ≤ 10000
theorem Bm.mk {x : Int} (h : -10000 ≤ x ∧ x ≤ 10000) : Bm x := h
theorem Bm.bn {x : Int} (h : Bm x) : Bn x := by unfold Bm Bn at *; omega
theorem Bn.mk {x : Int} (h : -1100000000 ≤ x ∧ x ≤ 1100000000) : Bn x := h

set_option maxHeartbeats 2000000 in
theorem l11Place_s (rb p : Nat) (w : World) (hs0 : RS w rb p) (hp : p ≤ 997900) :
    Calls Try.prog 33 #[.pointer (some ⟨rb, 0, none⟩)] w fun e w' => ∃ x y : Int, e = .returned (vv x y) ∧ (Bm x ∧ Bm y) ∧ RB w w' rb (p + 60) := by
  have hlt := hs0.lt
  have hne : (w.heap.size = rb) = False := eq_false (by omega)
  have hset := cset_map
  go_enter Try.func33, Try.ntmps33
  go_wp2_with (first
    | (have _ := hr1; go_at_call 23; refine (pick_s rb (p + 20) _ _ (by repeat (first | (with_reducible apply RS.setNew; rotate_left; (first | omega | (simp only [World.size_drew, World.size_alloc, World.size_setCell]; omega))) | with_reducible apply RS.alloc | (with_reducible apply RS.up hr1; omega) | (with_reducible apply RS.mono hs0; omega) | with_reducible apply RS.drew | with_reducible apply RS.drewN)) (by omega) (by omega) (by omega)).mono ?_; rintro e w2 ⟨v2, rfl, va2, vb2, hr2⟩; obtain ⟨hc2, hf2⟩ := RB.cells hr2; have hz2 := RB.size hr2; (try simp only [World.size_drew, World.size_alloc, World.size_setCell] at hc2 hf2 hz2); have hq2x0 : w.heap.size < w2.heap.size := (by omega); have ha2x0 : (w2.heap.size = w.heap.size) = False := eq_false (by omega); have hb2x0 : (w.heap.size = w2.heap.size) = False := eq_false (by omega); have he2x0 : (w.heap.size = rb) = False := eq_false (by omega); have hk2x0 := fun o => hc2 (w.heap.size) o (by omega) (by omega); have hj2x0 := fun o => hf2 (w.heap.size) o (by omega) (by omega))
    | (go_at_call 23; refine (pick_s rb (p + 10) _ _ (by repeat (first | (with_reducible apply RS.setNew; rotate_left; (first | omega | (simp only [World.size_drew, World.size_alloc, World.size_setCell]; omega))) | with_reducible apply RS.alloc | (with_reducible apply RS.mono hs0; omega) | with_reducible apply RS.drew | with_reducible apply RS.drewN)) (by omega) (by omega) (by omega)).mono ?_; rintro e w1 ⟨v1, rfl, va1, vb1, hr1⟩; obtain ⟨hc1, hf1⟩ := RB.cells hr1; have hz1 := RB.size hr1; (try simp only [World.size_drew, World.size_alloc, World.size_setCell] at hc1 hf1 hz1); have hq1x0 : w.heap.size < w1.heap.size := (by omega); have ha1x0 : (w1.heap.size = w.heap.size) = False := eq_false (by omega); have hb1x0 : (w.heap.size = w1.heap.size) = False := eq_false (by omega); have he1x0 : (w.heap.size = rb) = False := eq_false (by omega); have hk1x0 := fun o => hc1 (w.heap.size) o (by omega) (by omega); have hj1x0 := fun o => hf1 (w.heap.size) o (by omega) (by omega)))
  exact bodyPost_ret (v := vv (v1 * 8 - 1024) (v2 * 8 - 1024)) (by simp [results, Try.results33, go_sem, *]) rfl ⟨_, _, rfl, ⟨Bm.mk ⟨by omega, by omega⟩, Bm.mk ⟨by omega, by omega⟩⟩, RB.mk (by repeat (first | (with_reducible apply But.setNew; rotate_left; (first | omega | (simp only [World.size_drew, World.size_alloc, World.size_setCell]; omega))) | with_reducible apply But.alloc | with_reducible apply But.trans (k := RB.but hr2) | with_reducible apply But.trans (k := RB.but hr1) | with_reducible apply But.refl | with_reducible apply But.drewN | with_reducible apply But.drew)) (by repeat (first | (with_reducible apply RS.setNew; rotate_left; (first | omega | (simp only [World.size_drew, World.size_alloc, World.size_setCell]; omega))) | with_reducible apply RS.alloc | (with_reducible apply RS.up hr2; omega) | (with_reducible apply RS.up hr1; omega) | (with_reducible apply RS.mono hs0; omega) | with_reducible apply RS.drew | with_reducible apply RS.drewN))⟩

end Go.Proofs.Ytlnoiligennpjaa
