/- The contracts of the draws of places and shapes. Numbers of a block of its own, while others write elsewhere. A row of numbers whose cells change places: plain mathematics, and what lies where. -/
import Derived.Test.YtbngdlbecdloiaaB7
import Derived.Test.YtbngdlbecdloiaaB3
import Derived.Test.YtbngdlbecdloiaaBox
set_option maxHeartbeats 16000000
set_option maxRecDepth 20000
namespace Go.Proofs.Ytbngdlbecdloiaa
open Go.RowKit
set_option linter.unusedVariables false
set_option linter.unusedSimpArgs false

/-- a number of a place, a box or a shape that was drawn -/
def Bn (x : Int) : Prop := -1100000000 ≤ x ∧ x ≤ 1100000000

/-- the reader at block rb, its place at most p -/
def RS (w : World) (rb p : Nat) : Prop := ∃ q, q ≤ p ∧ Rd w rb q
theorem RS.of {w0 w : World} {rb p : Nat} (h : RB w0 w rb p) : RS w rb p := by
  obtain ⟨q, a, b, c⟩ := h; exact ⟨q, a, b⟩
theorem RS.rb {w : World} {rb p : Nat} (h : RS w rb p) : RB w w rb p := by
  obtain ⟨q, a, b⟩ := h; exact ⟨q, a, b, But.refl _ _⟩
theorem RS.mono {w : World} {rb p p' : Nat} (h : RS w rb p) (k : p ≤ p') : RS w rb p' := by
  obtain ⟨q, a, b⟩ := h; exact ⟨q, by omega, b⟩
theorem RS.up {w0 w : World} {rb p p' : Nat} (h : RB w0 w rb p) (k : p ≤ p') : RS w rb p' := (RS.of h).mono k
theorem RB.but {w0 w : World} {rb p : Nat} (h : RB w0 w rb p) : But rb w0 w := by
  obtain ⟨q, a, b, c⟩ := h; exact c
theorem RB.mk {w0 w : World} {rb p : Nat} (h : But rb w0 w) (k : RS w rb p) : RB w0 w rb p := by
  obtain ⟨q, a, b⟩ := k; exact ⟨q, a, b, h⟩
theorem But.setNew {rb : Nat} {a w : World} (h : But rb a w) {x : Addr} (hx : a.heap.size ≤ x.block) (u : Value) : But rb a (w.setCell x u) :=
  ⟨h.os, h.tape, h.output, by simpa [World.setCell] using h.size, fun k hk hn => (Below.heap_setCell _ _ _ _ (by omega)).trans (h.block k hk hn)⟩
theorem But.drew {rb : Nat} {a w : World} (h : But rb a w) : But rb a w.drew := ⟨h.os, h.tape, h.output, h.size, h.block⟩
theorem RS.lt {w : World} {rb p : Nat} (h : RS w rb p) : rb < w.heap.size := h.rb.lt
theorem RS.alloc {w : World} {rb p : Nat} (h : RS w rb p) (o : Obj) : RS (w.alloc o) rb p := RS.of (h.rb.alloc o)
theorem RS.setNew {w : World} {rb p : Nat} (h : RS w rb p) {a : Addr} (ha : rb < a.block) (v : Value) : RS (w.setCell a v) rb p := by
  obtain ⟨q, k, b⟩ := h; exact ⟨q, k, b.setNew ha v⟩
theorem RS.drewN {w : World} {rb p : Nat} (h : RS w rb p) (n : Nat) : RS (w.drewN n) rb p := h
theorem RS.drew {w : World} {rb p : Nat} (h : RS w rb p) : RS w.drew rb p := h
theorem RB.drewN {w0 w : World} {rb p : Nat} (h : RB w0 w rb p) (n : Nat) : RB w0 (w.drewN n) rb p := by
  obtain ⟨q, a, b, c⟩ := h; exact ⟨q, a, b, c.drewN n⟩
theorem RB.drew {w0 w : World} {rb p : Nat} (h : RB w0 w rb p) : RB w0 w.drew rb p := by
  obtain ⟨q, a, b, c⟩ := h; exact ⟨q, a, b, c.drewN 1⟩
theorem RB.trans {a b c : World} {rb p p' : Nat} (h : RB a b rb p) (k : RB b c rb p') : RB a c rb p' := by
  obtain ⟨q, _, _, x⟩ := h
  obtain ⟨q', y, z, u⟩ := k
  exact ⟨q', y, z, x.trans u⟩
theorem pick_s (rb p : Nat) (n : Int) (w : World) (hr : RS w rb p) (hp : p ≤ 999000) (h0 : 1 ≤ n) (h1 : n ≤ 4000000000) :
    Calls Try.prog 36 #[.pointer (some ⟨rb, 0, none⟩), .int .i64 n] w fun e w' => ∃ v : Int, e = .returned (.int .i64 v) ∧ 0 ≤ v ∧ v < n ∧ RB w w' rb (p + 1) :=
  pick_rb w rb p n w hr.rb hp h0 h1
theorem one_s (lo hi : Int) (rb p len cap : Nat) (cs : Array Value) (t : TypeId) (w : World) (hr : RS w rb p) (hp : p ≤ 999000) (hcs : AllBd lo hi cs.toList) (hl : cs.size = len) (h0 : 1 ≤ len) (h1 : len ≤ 100) :
    Calls Try.prog 35 #[.pointer (some ⟨rb, 0, none⟩), .slice (some ⟨w.heap.size, 0, none⟩) len cap] (w.alloc (.cells cs t)) fun e w' => ∃ v : Int, e = .returned (.int .i64 v) ∧ lo ≤ v ∧ v ≤ hi ∧ RB w w' rb (p + 1) :=
  one_rb lo hi w rb p len cap cs t w hr.rb hp hcs hl h0 h1
theorem one_g (lo hi : Int) (rb p lb len cap : Nat) (xs : List Int) (w : World) (hr : RS w rb p) (hp : p ≤ 999000) (hx : ∀ x ∈ xs, lo ≤ x ∧ x ≤ hi) (hl : xs.length = len) (h0 : 1 ≤ len) (h1 : len ≤ 100) (hb : lb ≠ rb) (hc : ∀ i, i < len → w.cell? ⟨lb, i, none⟩ = some (.int .i64 (xs.getD i 0))) :
    Calls Try.prog 35 #[.pointer (some ⟨rb, 0, none⟩), .slice (some ⟨lb, 0, none⟩) len cap] w fun e w' => ∃ v : Int, e = .returned (.int .i64 v) ∧ lo ≤ v ∧ v ≤ hi ∧ RB w w' rb (p + 1) := by
  obtain ⟨q, hq, hd⟩ := hr
  refine (one_any rb q lb len cap xs w hd (by omega) hl h0 h1 hb hc).mono ?_
  rintro e w' ⟨v, rfl, hv, hr', hb'⟩
  obtain ⟨v0, v1⟩ := hx v hv
  exact ⟨v, rfl, v0, v1, q + 1, by omega, hr', hb'⟩
/-- a number of a place that was drawn -/
def Bm (x : Int) : Prop := -10000 ≤ x ∧ x ≤ 10000
theorem Bm.mk {x : Int} (h : -10000 ≤ x ∧ x ≤ 10000) : Bm x := h
theorem Bm.bn {x : Int} (h : Bm x) : Bn x := by unfold Bm Bn at *; omega
theorem Bn.mk {x : Int} (h : -1100000000 ≤ x ∧ x ≤ 1100000000) : Bn x := h

set_option maxHeartbeats 2000000 in
theorem l11Place_s (rb p : Nat) (w : World) (hs0 : RS w rb p) (hp : p ≤ 997900) :
    Calls Try.prog 69 #[.pointer (some ⟨rb, 0, none⟩)] w fun e w' => ∃ x y : Int, e = .returned (vv x y) ∧ (Bm x ∧ Bm y) ∧ RB w w' rb (p + 60) := by
  have hlt := hs0.lt
  have hne : (w.heap.size = rb) = False := eq_false (by omega)
  have hset := cset_map
  go_enter Try.func69, Try.ntmps69
  go_wp2_with (first
    | (have _ := hr1; go_at_call 36; refine (pick_s rb (p + 20) _ _ (by repeat (first | (with_reducible apply RS.setNew; rotate_left; (first | omega | (simp only [World.size_drew, World.size_alloc, World.size_setCell]; omega))) | with_reducible apply RS.alloc | (with_reducible apply RS.up hr1; omega) | (with_reducible apply RS.mono hs0; omega) | with_reducible apply RS.drew | with_reducible apply RS.drewN)) (by omega) (by omega) (by omega)).mono ?_; rintro e w2 ⟨v2, rfl, va2, vb2, hr2⟩; obtain ⟨hc2, hf2⟩ := RB.cells hr2; have hz2 := RB.size hr2; (try simp only [World.size_drew, World.size_alloc, World.size_setCell] at hc2 hf2 hz2); have hq2x0 : w.heap.size < w2.heap.size := (by omega); have ha2x0 : (w2.heap.size = w.heap.size) = False := eq_false (by omega); have hb2x0 : (w.heap.size = w2.heap.size) = False := eq_false (by omega); have he2x0 : (w.heap.size = rb) = False := eq_false (by omega); have hk2x0 := fun o => hc2 (w.heap.size) o (by omega) (by omega); have hj2x0 := fun o => hf2 (w.heap.size) o (by omega) (by omega))
    | (go_at_call 36; refine (pick_s rb (p + 10) _ _ (by repeat (first | (with_reducible apply RS.setNew; rotate_left; (first | omega | (simp only [World.size_drew, World.size_alloc, World.size_setCell]; omega))) | with_reducible apply RS.alloc | (with_reducible apply RS.mono hs0; omega) | with_reducible apply RS.drew | with_reducible apply RS.drewN)) (by omega) (by omega) (by omega)).mono ?_; rintro e w1 ⟨v1, rfl, va1, vb1, hr1⟩; obtain ⟨hc1, hf1⟩ := RB.cells hr1; have hz1 := RB.size hr1; (try simp only [World.size_drew, World.size_alloc, World.size_setCell] at hc1 hf1 hz1); have hq1x0 : w.heap.size < w1.heap.size := (by omega); have ha1x0 : (w1.heap.size = w.heap.size) = False := eq_false (by omega); have hb1x0 : (w.heap.size = w1.heap.size) = False := eq_false (by omega); have he1x0 : (w.heap.size = rb) = False := eq_false (by omega); have hk1x0 := fun o => hc1 (w.heap.size) o (by omega) (by omega); have hj1x0 := fun o => hf1 (w.heap.size) o (by omega) (by omega)))
  exact bodyPost_ret (v := vv (v1 * 8 - 1024) (v2 * 8 - 1024)) (by simp [results, Try.results69, go_sem, *]) rfl ⟨_, _, rfl, ⟨Bm.mk ⟨by omega, by omega⟩, Bm.mk ⟨by omega, by omega⟩⟩, RB.mk (by repeat (first | (with_reducible apply But.setNew; rotate_left; (first | omega | (simp only [World.size_drew, World.size_alloc, World.size_setCell]; omega))) | with_reducible apply But.alloc | with_reducible apply But.trans (k := RB.but hr2) | with_reducible apply But.trans (k := RB.but hr1) | with_reducible apply But.refl | with_reducible apply But.drewN | with_reducible apply But.drew)) (by repeat (first | (with_reducible apply RS.setNew; rotate_left; (first | omega | (simp only [World.size_drew, World.size_alloc, World.size_setCell]; omega))) | with_reducible apply RS.alloc | (with_reducible apply RS.up hr2; omega) | (with_reducible apply RS.up hr1; omega) | (with_reducible apply RS.mono hs0; omega) | with_reducible apply RS.drew | with_reducible apply RS.drewN))⟩

end Go.Proofs.Ytbngdlbecdloiaa
namespace Go.Proofs.Ytbngdlbecdloiaa
open Go.RowKit
set_option linter.unusedVariables false
set_option linter.unusedSimpArgs false

/-- numbers of a block of its own -/
def Al (w0 w : World) (ab n : Nat) (V : Nat → Int) : Prop := w0.heap.size ≤ ab ∧ ab < w.heap.size ∧ (∀ i, i < n → w.cell? ⟨ab, i, none⟩ = some (.int .i64 (V i))) ∧ ∀ i, i < n → w.frozen? ⟨ab, i, none⟩ = false
theorem Al.up {rb : Nat} {w0 w w' : World} {ab n : Nat} {V : Nat → Int} (h : Al w0 w ab n V) (hrb : rb < w0.heap.size) (k : But rb w w') : Al w0 w' ab n V := by
  obtain ⟨h1, h2, h3, h4⟩ := h
  exact ⟨h1, Nat.lt_of_lt_of_le h2 k.size, fun i hi => (k.cell (p := ⟨ab, i, none⟩) h2 (by simp only [ne_eq]; omega)).trans (h3 i hi), fun i hi => (k.frozen (p := ⟨ab, i, none⟩) h2 (by simp only [ne_eq]; omega)).trans (h4 i hi)⟩
theorem Al.set {w0 w : World} {ab n : Nat} {V : Nat → Int} (h : Al w0 w ab n V) (k : Nat) (hk : k < n) (v : Int) : Al w0 (w.setCell ⟨ab, k, none⟩ (.int .i64 v)) ab n (fun j => if j = k then v else V j) := by
  obtain ⟨h1, h2, h3, h4⟩ := h
  refine ⟨h1, by simpa [World.setCell] using h2, fun i hi => ?_, fun i hi => ?_⟩
  · by_cases e : i = k
    · subst e; rw [cset_map, h3 i hi]; simp
    · rw [cset_other (by intro q; injection q with q1 q2; exact e q2.symm), h3 i hi]; simp [e]
  · rw [World.frozen?_setCell]; exact h4 i hi

theorem but_alloc (rb : Nat) (w : World) (o : Obj) : But rb w (w.alloc o) := (But.refl rb w).alloc o
theorem Al.new {w0 w : World} {cs : Array Value} {t : TypeId} {n : Nat} {V : Nat → Int} (hsz : w0.heap.size ≤ w.heap.size) (hc : ∀ i, i < n → cs[i]? = some (.int .i64 (V i))) : Al w0 (w.alloc (.cells cs t)) w.heap.size n V :=
  ⟨hsz, by simp, fun i hi => by rw [World.cell?_alloc_new]; exact hc i hi, fun i hi => by go_simp⟩
theorem Al.congr {w0 w : World} {ab n : Nat} {V U : Nat → Int} (h : Al w0 w ab n V) (k : ∀ i, i < n → V i = U i) : Al w0 w ab n U :=
  ⟨h.1, h.2.1, fun i hi => by rw [h.2.2.1 i hi, k i hi], h.2.2.2⟩
end Go.Proofs.Ytbngdlbecdloiaa
namespace Go.Proofs.Ytbngdlbecdloiaa
open Go.RowKit
set_option linter.unusedVariables false
set_option linter.unusedSimpArgs false
/-- the same numbers at other places -/
def Sw (n : Nat) (V U : Nat → Int) : Prop := ∃ s : Nat → Nat, (∀ i, i < n → s i < n) ∧ (∀ i j, i < n → j < n → s i = s j → i = j) ∧ ∀ i, i < n → U i = V (s i)
theorem Sw.refl (n : Nat) (V : Nat → Int) : Sw n V V := ⟨fun i => i, fun _ h => h, fun _ _ _ _ e => e, fun _ _ => rfl⟩
theorem Sw.trans {n : Nat} {V U X : Nat → Int} (h : Sw n V U) (k : Sw n U X) : Sw n V X := by
  obtain ⟨s, s1, s2, s3⟩ := h
  obtain ⟨t, t1, t2, t3⟩ := k
  exact ⟨fun i => s (t i), fun i hi => s1 _ (t1 i hi), fun i j hi hj e => t2 i j hi hj (s2 _ _ (t1 i hi) (t1 j hj) e), fun i hi => by rw [t3 i hi, s3 _ (t1 i hi)]⟩
/-- two cells change places -/
def swp (i j : Nat) (V : Nat → Int) : Nat → Int := fun k => if k = j then V i else if k = i then V j else V k
theorem Sw.swp {n i j : Nat} (V : Nat → Int) (hi : i < n) (hj : j < n) : Sw n V (swp i j V) := by
  refine ⟨fun k => if k = j then i else if k = i then j else k, ?_, ?_, ?_⟩
  · intro k hk
    dsimp only
    repeat' split
    all_goals assumption
  · intro a b ha hb e
    dsimp only at e
    repeat' split at e
    all_goals omega
  · intro k hk
    unfold Go.Proofs.Ytbngdlbecdloiaa.swp
    dsimp only
    by_cases h1 : k = j
    · rw [if_pos h1, if_pos h1]
    · rw [if_neg h1, if_neg h1]
      by_cases h2 : k = i
      · rw [if_pos h2, if_pos h2]
      · rw [if_neg h2, if_neg h2]
theorem perm_in : ∀ {l m : List Nat}, l.Nodup → (∀ x ∈ l, x ∈ m) → m.length ≤ l.length → l.Perm m
  | [], m, _, _, h => by
    have : m = [] := List.length_eq_zero_iff.1 (by simpa using h)
    subst this; exact List.Perm.refl _
  | a :: l, m, hn, hs, h => by
    have ha := hs a (List.mem_cons_self ..)
    have hp := List.perm_cons_erase ha
    rw [List.nodup_cons] at hn
    refine List.Perm.trans (List.Perm.cons a (perm_in hn.2 (fun x hx => ?_) ?_)) hp.symm
    · exact (List.mem_erase_of_ne (by rintro rfl; exact hn.1 hx)).2 (hs x (List.mem_cons_of_mem _ hx))
    · have := hp.length_eq
      simp only [List.length_cons] at this h
      omega
theorem Sw.perm {n : Nat} {V U : Nat → Int} (h : Sw n V U) : ((List.range n).map U).Perm ((List.range n).map V) := by
  obtain ⟨s, s1, s2, s3⟩ := h
  have e : (List.range n).map U = ((List.range n).map s).map V := by
    rw [List.map_map]
    apply List.map_congr_left
    intro i hi
    exact s3 i (List.mem_range.1 hi)
  rw [e]
  apply List.Perm.map
  have hn : ((List.range n).map s).Nodup := by
    rw [List.nodup_iff_pairwise_ne, List.pairwise_map]
    refine (List.pairwise_lt_range (n := n)).imp_of_mem ?_
    intro a b ha hb hab q
    have := s2 a b (List.mem_range.1 ha) (List.mem_range.1 hb) q
    omega
  refine perm_in hn (fun x hx => ?_) (by simp)
  obtain ⟨i, hi, rfl⟩ := List.mem_map.1 hx
  exact List.mem_range.2 (s1 i (List.mem_range.1 hi))
/-- numbers in a row, from a place of a block on -/
structure Rwo (w : World) (lb off n : Nat) (V : Nat → Int) : Prop where
  cell : ∀ i, i < n → w.cell? ⟨lb, off + i, none⟩ = some (.int .i64 (V i))
  free : ∀ i, i < n → w.frozen? ⟨lb, off + i, none⟩ = false
theorem Rwo.set {w : World} {lb off n : Nat} {V : Nat → Int} (h : Rwo w lb off n V) (k : Nat) (hk : k < n) (v : Int) : Rwo (w.setCell ⟨lb, off + k, none⟩ (.int .i64 v)) lb off n (fun j => if j = k then v else V j) := by
  refine ⟨fun i hi => ?_, fun i hi => ?_⟩
  · by_cases e : i = k
    · subst e; rw [cset_map, h.cell i hi]; simp
    · rw [cset_other (by intro q; injection q with q1 q2; omega), h.cell i hi]; simp [e]
  · rw [World.frozen?_setCell]; exact h.free i hi
theorem Rwo.congr {w : World} {lb off n : Nat} {V U : Nat → Int} (h : Rwo w lb off n V) (k : ∀ i, i < n → V i = U i) : Rwo w lb off n U :=
  ⟨fun i hi => by rw [h.cell i hi, k i hi], h.free⟩
/-- a swap, as the program does it -/
theorem Rwo.swp {w : World} {lb off n : Nat} {V : Nat → Int} (h : Rwo w lb off n V) {i j : Nat} (hi : i < n) (hj : j < n) :
    Rwo ((w.setCell ⟨lb, off + i, none⟩ (.int .i64 (V j))).setCell ⟨lb, off + j, none⟩ (.int .i64 (V i))) lb off n (swp i j V) := by
  refine ((h.set i hi (V j)).set j hj (V i)).congr fun k hk => ?_
  unfold Go.Proofs.Ytbngdlbecdloiaa.swp
  repeat' split
  all_goals rfl
end Go.Proofs.Ytbngdlbecdloiaa
