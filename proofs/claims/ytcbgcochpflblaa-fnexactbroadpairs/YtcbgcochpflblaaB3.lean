/- The contracts of the draws of places and shapes. Numbers of a block of its own, while others write elsewhere. A row of numbers whose cells change places: plain mathematics, and what lies where. A step of a drawn region, said shortly. The library's stable sort, as far as numbers change places: swapRange. The library's stable sort, as far as numbers change places: rotate, insertion. -/
import Derived.Test.YtcbgcochpflblaaB1
import Derived.Test.YtcbgcochpflblaaBox
import Derived.Deep.RegionHeld3
import Derived.Deep.DeepCutAuto
namespace Go.Proofs.Ytcbgcochpflblaa
open Go.RowKit
set_option linter.unusedVariables false
set_option linter.unusedSimpArgs false

/-- a number of a place, a box or a shape that was drawn -/
def Bn (x : Int) : Prop := -1100000000 ≤ x ∧ x ≤ 1100000000

/-- the reader at block rb, its place at most p -/
def RS (w : World) (rb p : Nat) : Prop := ∃ q, q ≤ p ∧ Rd w rb q
theorem RS.of {w0 w : World} {rb p : Nat} (h : RB w0 w rb p) : RS w rb p := by
  obtain ⟨q, a, b, c⟩ := h; exact ⟨q, a, b⟩
theorem RS.rb {w : World} {rb p : Nat} (h : RS w rb p) : RB w w rb p := by
  obtain ⟨q, a, b⟩ := h; exact ⟨q, a, b, But.refl _ _⟩
theorem RS.mono {w : World} {rb p p' : Nat} (h : RS w rb p) (k : p ≤ p') : RS w rb p' := by
  obtain ⟨q, a, b⟩ := h; exact ⟨q, by omega, b⟩
theorem RS.up {w0 w : World} {rb p p' : Nat} (h : RB w0 w rb p) (k : p ≤ p') : RS w rb p' := (RS.of h).mono k
theorem RB.but {w0 w : World} {rb p : Nat} (h : RB w0 w rb p) : But rb w0 w := by
  obtain ⟨q, a, b, c⟩ := h; exact c
theorem RB.mk {w0 w : World} {rb p : Nat} (h : But rb w0 w) (k : RS w rb p) : RB w0 w rb p := by
  obtain ⟨q, a, b⟩ := k; exact ⟨q, a, b, h⟩
theorem But.setNew {rb : Nat} {a w : World} (h : But rb a w) {x : Addr} (hx : a.heap.size ≤ x.block) (u : Value) : But rb a (w.setCell x u) :=
  ⟨h.os, h.tape, h.output, by simpa [World.setCell] using h.size, fun k hk hn => (Below.heap_setCell _ _ _ _ (by omega)).trans (h.block k hk hn)⟩
theorem But.drew {rb : Nat} {a w : World} (h : But rb a w) : But rb a w.drew := ⟨h.os, h.tape, h.output, h.size, h.block⟩
theorem RS.lt {w : World} {rb p : Nat} (h : RS w rb p) : rb < w.heap.size := h.rb.lt
theorem RS.alloc {w : World} {rb p : Nat} (h : RS w rb p) (o : Obj) : RS (w.alloc o) rb p := RS.of (h.rb.alloc o)
theorem RS.setNew {w : World} {rb p : Nat} (h : RS w rb p) {a : Addr} (ha : rb < a.block) (v : Value) : RS (w.setCell a v) rb p := by
  obtain ⟨q, k, b⟩ := h; exact ⟨q, k, b.setNew ha v⟩
theorem RS.drewN {w : World} {rb p : Nat} (h : RS w rb p) (n : Nat) : RS (w.drewN n) rb p := h
theorem RS.drew {w : World} {rb p : Nat} (h : RS w rb p) : RS w.drew rb p := h
theorem RB.drewN {w0 w : World} {rb p : Nat} (h : RB w0 w rb p) (n : Nat) : RB w0 (w.drewN n) rb p := by
  obtain ⟨q, a, b, c⟩ := h; exact ⟨q, a, b, c.drewN n⟩
theorem RB.drew {w0 w : World} {rb p : Nat} (h : RB w0 w rb p) : RB w0 w.drew rb p := by
  obtain ⟨q, a, b, c⟩ := h; exact ⟨q, a, b, c.drewN 1⟩
theorem RB.trans {a b c : World} {rb p p' : Nat} (h : RB a b rb p) (k : RB b c rb p') : RB a c rb p' := by
  obtain ⟨q, _, _, x⟩ := h
  obtain ⟨q', y, z, u⟩ := k
  exact ⟨q', y, z, x.trans u⟩
/-- a number of a place that was drawn -/
def Bm (x : Int) : Prop := -10000 ≤ x ∧ x ≤ 10000
theorem Bm.mk {x : Int} (h : -10000 ≤ x ∧ x ≤ 10000) : Bm x := h
theorem Bm.bn {x : Int} (h : Bm x) : Bn x := by unfold Bm Bn at *; omega
theorem Bn.mk {x : Int} (h : -1100000000 ≤ x ∧ x ≤ 1100000000) : Bn x := h

end Go.Proofs.Ytcbgcochpflblaa
namespace Go.Proofs.Ytcbgcochpflblaa
open Go.RowKit
set_option linter.unusedVariables false
set_option linter.unusedSimpArgs false

/-- numbers of a block of its own -/
def Al (w0 w : World) (ab n : Nat) (V : Nat → Int) : Prop := w0.heap.size ≤ ab ∧ ab < w.heap.size ∧ (∀ i, i < n → w.cell? ⟨ab, i, none⟩ = some (.int .i64 (V i))) ∧ ∀ i, i < n → w.frozen? ⟨ab, i, none⟩ = false
theorem Al.up {rb : Nat} {w0 w w' : World} {ab n : Nat} {V : Nat → Int} (h : Al w0 w ab n V) (hrb : rb < w0.heap.size) (k : But rb w w') : Al w0 w' ab n V := by
  obtain ⟨h1, h2, h3, h4⟩ := h
  exact ⟨h1, Nat.lt_of_lt_of_le h2 k.size, fun i hi => (k.cell (p := ⟨ab, i, none⟩) h2 (by simp only [ne_eq]; omega)).trans (h3 i hi), fun i hi => (k.frozen (p := ⟨ab, i, none⟩) h2 (by simp only [ne_eq]; omega)).trans (h4 i hi)⟩
theorem Al.set {w0 w : World} {ab n : Nat} {V : Nat → Int} (h : Al w0 w ab n V) (k : Nat) (hk : k < n) (v : Int) : Al w0 (w.setCell ⟨ab, k, none⟩ (.int .i64 v)) ab n (fun j => if j = k then v else V j) := by
  obtain ⟨h1, h2, h3, h4⟩ := h
  refine ⟨h1, by simpa [World.setCell] using h2, fun i hi => ?_, fun i hi => ?_⟩
  · by_cases e : i = k
    · subst e; rw [cset_map, h3 i hi]; simp
    · rw [cset_other (by intro q; injection q with q1 q2; exact e q2.symm), h3 i hi]; simp [e]
  · rw [World.frozen?_setCell]; exact h4 i hi

theorem but_alloc (rb : Nat) (w : World) (o : Obj) : But rb w (w.alloc o) := (But.refl rb w).alloc o
theorem Al.new {w0 w : World} {cs : Array Value} {t : TypeId} {n : Nat} {V : Nat → Int} (hsz : w0.heap.size ≤ w.heap.size) (hc : ∀ i, i < n → cs[i]? = some (.int .i64 (V i))) : Al w0 (w.alloc (.cells cs t)) w.heap.size n V :=
  ⟨hsz, by simp, fun i hi => by rw [World.cell?_alloc_new]; exact hc i hi, fun i hi => by go_simp⟩
theorem Al.congr {w0 w : World} {ab n : Nat} {V U : Nat → Int} (h : Al w0 w ab n V) (k : ∀ i, i < n → V i = U i) : Al w0 w ab n U :=
  ⟨h.1, h.2.1, fun i hi => by rw [h.2.2.1 i hi, k i hi], h.2.2.2⟩
end Go.Proofs.Ytcbgcochpflblaa
namespace Go.Proofs.Ytcbgcochpflblaa
open Go.RowKit
set_option linter.unusedVariables false
set_option linter.unusedSimpArgs false
/-- the same numbers at other places -/
def Sw (n : Nat) (V U : Nat → Int) : Prop := ∃ s : Nat → Nat, (∀ i, i < n → s i < n) ∧ (∀ i j, i < n → j < n → s i = s j → i = j) ∧ ∀ i, i < n → U i = V (s i)
theorem Sw.refl (n : Nat) (V : Nat → Int) : Sw n V V := ⟨fun i => i, fun _ h => h, fun _ _ _ _ e => e, fun _ _ => rfl⟩
theorem Sw.trans {n : Nat} {V U X : Nat → Int} (h : Sw n V U) (k : Sw n U X) : Sw n V X := by
  obtain ⟨s, s1, s2, s3⟩ := h
  obtain ⟨t, t1, t2, t3⟩ := k
  exact ⟨fun i => s (t i), fun i hi => s1 _ (t1 i hi), fun i j hi hj e => t2 i j hi hj (s2 _ _ (t1 i hi) (t1 j hj) e), fun i hi => by rw [t3 i hi, s3 _ (t1 i hi)]⟩
/-- two cells change places -/
def swp (i j : Nat) (V : Nat → Int) : Nat → Int := fun k => if k = j then V i else if k = i then V j else V k
theorem Sw.swp {n i j : Nat} (V : Nat → Int) (hi : i < n) (hj : j < n) : Sw n V (swp i j V) := by
  refine ⟨fun k => if k = j then i else if k = i then j else k, ?_, ?_, ?_⟩
  · intro k hk
    dsimp only
    repeat' split
    all_goals assumption
  · intro a b ha hb e
    dsimp only at e
    repeat' split at e
    all_goals omega
  · intro k hk
    unfold Go.Proofs.Ytcbgcochpflblaa.swp
    dsimp only
    by_cases h1 : k = j
    · rw [if_pos h1, if_pos h1]
    · rw [if_neg h1, if_neg h1]
      by_cases h2 : k = i
      · rw [if_pos h2, if_pos h2]
      · rw [if_neg h2, if_neg h2]
theorem perm_in : ∀ {l m : List Nat}, l.Nodup → (∀ x ∈ l, x ∈ m) → m.length ≤ l.length → l.Perm m
  | [], m, _, _, h => by
    have : m = [] := List.length_eq_zero_iff.1 (by simpa using h)
    subst this; exact List.Perm.refl _
  | a :: l, m, hn, hs, h => by
    have ha := hs a (List.mem_cons_self ..)
    have hp := List.perm_cons_erase ha
    rw [List.nodup_cons] at hn
    refine List.Perm.trans (List.Perm.cons a (perm_in hn.2 (fun x hx => ?_) ?_)) hp.symm
    · exact (List.mem_erase_of_ne (by rintro rfl; exact hn.1 hx)).2 (hs x (List.mem_cons_of_mem _ hx))
    · have := hp.length_eq
      simp only [List.length_cons] at this h
      omega
theorem Sw.perm {n : Nat} {V U : Nat → Int} (h : Sw n V U) : ((List.range n).map U).Perm ((List.range n).map V) := by
  obtain ⟨s, s1, s2, s3⟩ := h
  have e : (List.range n).map U = ((List.range n).map s).map V := by
    rw [List.map_map]
    apply List.map_congr_left
    intro i hi
    exact s3 i (List.mem_range.1 hi)
  rw [e]
  apply List.Perm.map
  have hn : ((List.range n).map s).Nodup := by
    rw [List.nodup_iff_pairwise_ne, List.pairwise_map]
    refine (List.pairwise_lt_range (n := n)).imp_of_mem ?_
    intro a b ha hb hab q
    have := s2 a b (List.mem_range.1 ha) (List.mem_range.1 hb) q
    omega
  refine perm_in hn (fun x hx => ?_) (by simp)
  obtain ⟨i, hi, rfl⟩ := List.mem_map.1 hx
  exact List.mem_range.2 (s1 i (List.mem_range.1 hi))
/-- numbers in a row, from a place of a block on -/
structure Rwo (w : World) (lb off n : Nat) (V : Nat → Int) : Prop where
  cell : ∀ i, i < n → w.cell? ⟨lb, off + i, none⟩ = some (.int .i64 (V i))
  free : ∀ i, i < n → w.frozen? ⟨lb, off + i, none⟩ = false
theorem Rwo.set {w : World} {lb off n : Nat} {V : Nat → Int} (h : Rwo w lb off n V) (k : Nat) (hk : k < n) (v : Int) : Rwo (w.setCell ⟨lb, off + k, none⟩ (.int .i64 v)) lb off n (fun j => if j = k then v else V j) := by
  refine ⟨fun i hi => ?_, fun i hi => ?_⟩
  · by_cases e : i = k
    · subst e; rw [cset_map, h.cell i hi]; simp
    · rw [cset_other (by intro q; injection q with q1 q2; omega), h.cell i hi]; simp [e]
  · rw [World.frozen?_setCell]; exact h.free i hi
theorem Rwo.congr {w : World} {lb off n : Nat} {V U : Nat → Int} (h : Rwo w lb off n V) (k : ∀ i, i < n → V i = U i) : Rwo w lb off n U :=
  ⟨fun i hi => by rw [h.cell i hi, k i hi], h.free⟩
/-- a swap, as the program does it -/
theorem Rwo.swp {w : World} {lb off n : Nat} {V : Nat → Int} (h : Rwo w lb off n V) {i j : Nat} (hi : i < n) (hj : j < n) :
    Rwo ((w.setCell ⟨lb, off + i, none⟩ (.int .i64 (V j))).setCell ⟨lb, off + j, none⟩ (.int .i64 (V i))) lb off n (swp i j V) := by
  refine ((h.set i hi (V j)).set j hj (V i)).congr fun k hk => ?_
  unfold Go.Proofs.Ytcbgcochpflblaa.swp
  repeat' split
  all_goals rfl
end Go.Proofs.Ytcbgcochpflblaa
namespace Go.Proofs.Ytcbgcochpflblaa
open Go.RowKit
set_option linter.unusedVariables false
section
variable {P : Program} {md : Region.Mode} {ops : Array Oper} {Q : Exit → Act → World → Prop} {S : World → Prop}
theorem tq (i : Nat) {o1 o2 o3 o4 o5 o6} {v : Value} {fuel : Nat} {listed : Array Bool} {a a' : Act} {w : World} (hS : S w)
    (h : wpAnyH P md ops Q S fuel (listed.setIfInBounds i true) a' w)
    (hi : ops[i]? = some (Oper.mk o1 o2 o3 o4 o5 o6) := by rfl)
    (hc : (Region.noSelect ops && (Region.free md ops listed i && (Region.ready md ops listed).contains i)) = true := by kernel_rfl)
    (hQ : ∀ c a w, Q (.panic c) (a.put (Oper.mk o1 o2 o3 o4 o5 o6).dst v) w → Q (.panic c) a w := by exact fun _ _ _ h => h)
    (hw : Region.wanted (Oper.mk o1 o2 o3 o4 o5 o6) (yielded ops a.tmps) = true := by rfl)
    (hv : ∀ w, S w → (execOp a.eval (Oper.mk o1 o2 o3 o4 o5 o6)).run P w = .ok (.value v) w := by (intro w s; (try dsimp only at s); go_simp; (try with_reducible rfl)))
    (he : a.put (Oper.mk o1 o2 o3 o4 o5 o6).dst v = a' := by ((try simp only [Act.put, List.setIfInBounds_toArray, List.set_cons_zero, List.set_cons_succ]); (try with_reducible rfl))) :
    wpAnyH P md ops Q S (fuel + 1) listed a w := by
  subst he
  simp only [Bool.and_eq_true] at hc
  exact wpAnyH_take hi hc.1 hc.2.1 hc.2.2 hQ (.inl ⟨hw, hv⟩) hS h
theorem tn (i : Nat) {o1 o2 o3 o4 o5 o6} {fuel : Nat} {listed : Array Bool} {a a' : Act} {w : World} (hS : S w)
    (h : wpAnyH P md ops Q S fuel (listed.setIfInBounds i true) a' w)
    (hi : ops[i]? = some (Oper.mk o1 o2 o3 o4 o5 o6) := by rfl)
    (hc : (Region.noSelect ops && (Region.free md ops listed i && (Region.ready md ops listed).contains i)) = true := by kernel_rfl)
    (hQ : ∀ c a w, Q (.panic c) (a.put (Oper.mk o1 o2 o3 o4 o5 o6).dst undef) w → Q (.panic c) a w := by exact fun _ _ _ h => h)
    (hw : Region.wanted (Oper.mk o1 o2 o3 o4 o5 o6) (yielded ops a.tmps) = false := by rfl)
    (he : a.put (Oper.mk o1 o2 o3 o4 o5 o6).dst undef = a' := by ((try simp only [Act.put, List.setIfInBounds_toArray, List.set_cons_zero, List.set_cons_succ]); (try with_reducible rfl))) :
    wpAnyH P md ops Q S (fuel + 1) listed a w := by
  subst he
  simp only [Bool.and_eq_true] at hc
  exact wpAnyH_take hi hc.1 hc.2.1 hc.2.2 hQ (.inr ⟨hw, rfl⟩) hS h
end
section
variable {P : Program} {md : Region.Mode} {ops : Array Oper} {Q : Exit → Act → World → Prop} {S : World → Prop}
/-- one alone may come up: a call, a store -/
theorem tc (i : Nat) {o1 o2 o3 o4 o5 o6} {fuel : Nat} {listed : Array Bool} {a : Act} {w : World}
    (h : ∀ K' : Act → World → Prop, Shut (∀ a w, S w → (S w → wpAnyH P md ops Q S fuel (listed.setIfInBounds i true) a w) → K' a w) → if Region.wanted (Oper.mk o1 o2 o3 o4 o5 o6) (yielded ops a.tmps) = true then Oper.wp P (Oper.mk o1 o2 o3 o4 o5 o6) a w K' Q else K' (a.put (Oper.mk o1 o2 o3 o4 o5 o6).dst undef) w)
    (hr : Region.ready md ops listed = [i] := by kernel_rfl)
    (hi : ops[i]? = some (Oper.mk o1 o2 o3 o4 o5 o6) := by rfl) :
    wpAnyH P md ops Q S (fuel + 1) listed a w := wpAnyH_ready hr (by simp) (AllReadyH.cons hi h AllReadyH.nil)
/-- back into the region behind it -/
theorem tr {K : Act → World → Prop} {fuel : Nat} {listed : Array Bool} (hK : Shut (∀ a w, S w → (S w → wpAnyH P md ops Q S fuel listed a w) → K a w)) {a a' : Act} {w : World}
    (h : S w → wpAnyH P md ops Q S fuel listed a' w)
    (hS : S w := by ((try dsimp only); (first | (go_simp; done) | (go_keep; done))))
    (he : a = a' := by ((try simp only [Act.put, List.setIfInBounds_toArray, List.set_cons_zero, List.set_cons_succ]); (try with_reducible rfl))) : K a w := by
  subst he
  exact hK.out _ _ hS h
end
end Go.Proofs.Ytcbgcochpflblaa
namespace Go.Proofs.Ytcbgcochpflblaa
open Go.RowKit
set_option linter.unusedVariables false
set_option linter.unusedSimpArgs false
/-- of one block nothing but a row has turned; of all older others nothing -/
structure Trn (lb off n : Nat) (w w' : World) : Prop where
  but : But lb w w'
  out : ∀ k, (k < off ∨ off + n ≤ k) → w'.cell? ⟨lb, k, none⟩ = w.cell? ⟨lb, k, none⟩
  frz : ∀ k, w'.frozen? ⟨lb, k, none⟩ = w.frozen? ⟨lb, k, none⟩
theorem Trn.refl (lb off n : Nat) (w : World) : Trn lb off n w w := ⟨But.refl _ _, fun _ _ => rfl, fun _ => rfl⟩
theorem Trn.trans {lb off n : Nat} {a b c : World} (h : Trn lb off n a b) (k : Trn lb off n b c) : Trn lb off n a c :=
  ⟨h.but.trans k.but, fun i hi => (k.out i hi).trans (h.out i hi), fun i => (k.frz i).trans (h.frz i)⟩
theorem Trn.drew {lb off n : Nat} {a b : World} (h : Trn lb off n a b) : Trn lb off n a b.drew :=
  ⟨⟨h.but.os, h.but.tape, h.but.output, h.but.size, h.but.block⟩, h.out, h.frz⟩
theorem Trn.set {lb off n : Nat} {a b : World} (h : Trn lb off n a b) (i : Nat) (hi : i < n) (v : Value) : Trn lb off n a (b.setCell ⟨lb, off + i, none⟩ v) := by
  refine ⟨h.but.setCell rfl v, fun k hk => ?_, fun k => ?_⟩
  · rw [cset_other (by intro q; injection q with q1 q2; omega)]; exact h.out k hk
  · rw [World.frozen?_setCell]; exact h.frz k
/-- what lays new blocks alone -/
theorem Trn.below {lb off n : Nat} {a b c : World} (h : Trn lb off n a b) (hlb : lb < a.heap.size) (k : Below b.heap.size b c) : Trn lb off n a c :=
  have hl : lb < b.heap.size := Nat.lt_of_lt_of_le hlb h.but.size
  ⟨h.but.trans (But.of_below k), fun i hi => (k.cell (p := ⟨lb, i, none⟩) hl).trans (h.out i hi), fun i => (k.frozen (p := ⟨lb, i, none⟩) hl).trans (h.frz i)⟩
theorem Trn.lt {lb off n : Nat} {a b : World} (h : Trn lb off n a b) {k : Nat} (hk : k < a.heap.size) : k < b.heap.size := Nat.lt_of_lt_of_le hk h.but.size
theorem Rwo.drew {w : World} {lb off n : Nat} {V : Nat → Int} (h : Rwo w lb off n V) : Rwo w.drew lb off n V := ⟨h.cell, h.free⟩
theorem Rwo.below {w w' : World} {lb off n : Nat} {V : Nat → Int} (h : Rwo w lb off n V) (hlb : lb < w.heap.size) (k : Below w.heap.size w w') : Rwo w' lb off n V :=
  ⟨fun i hi => (k.cell (p := ⟨lb, off + i, none⟩) hlb).trans (h.cell i hi), fun i hi => (k.frozen (p := ⟨lb, off + i, none⟩) hlb).trans (h.free i hi)⟩
/-- what the sort keeps: the same numbers, the row alone turned -/
structure Srt (lb off n : Nat) (V : Nat → Int) (w w' : World) : Prop where
  ex : ∃ U, Sw n V U ∧ Rwo w' lb off n U
  trn : Trn lb off n w w'
theorem Srt.refl {lb off n : Nat} {V : Nat → Int} {w : World} (h : Rwo w lb off n V) : Srt lb off n V w w := ⟨⟨V, Sw.refl _ _, h⟩, Trn.refl _ _ _ _⟩
theorem Srt.drew {lb off n : Nat} {V : Nat → Int} {w w' : World} (h : Srt lb off n V w w') : Srt lb off n V w w'.drew := by
  obtain ⟨⟨U, s, r⟩, t⟩ := h
  exact ⟨⟨U, s, r.drew⟩, t.drew⟩
theorem Srt.below {lb off n : Nat} {V : Nat → Int} {w w' w'' : World} (h : Srt lb off n V w w') (hlb : lb < w.heap.size) (k : Below w'.heap.size w' w'') : Srt lb off n V w w'' := by
  obtain ⟨⟨U, s, r⟩, t⟩ := h
  exact ⟨⟨U, s, r.below (t.lt hlb) k⟩, t.below hlb k⟩
theorem Srt.trans {lb off n : Nat} {V : Nat → Int} {w w' w'' : World} (h : Trn lb off n w w') {U : Nat → Int} (s : Sw n V U) (k : Srt lb off n U w' w'') : Srt lb off n V w w'' := by
  obtain ⟨⟨X, s2, r2⟩, t⟩ := k
  exact ⟨⟨X, s.trans s2, r2⟩, h.trans t⟩
theorem Srt.swp {lb off n : Nat} {V U : Nat → Int} {w w' : World} (hT : Trn lb off n w w') (hS : Sw n V U) (hR : Rwo w' lb off n U) {i j : Nat} (hi : i < n) (hj : j < n) :
    Srt lb off n V w ((w'.setCell ⟨lb, off + i, none⟩ (.int .i64 (U j))).setCell ⟨lb, off + j, none⟩ (.int .i64 (U i))) :=
  ⟨⟨_, hS.trans (Sw.swp U hi hj), hR.swp hi hj⟩, (hT.set i hi _).set j hj _⟩
set_option maxRecDepth 20000 in
set_option maxHeartbeats 1000000 in
theorem swapRange_any (lb off n cap a b c : Nat) (f : Value) (V : Nat → Int) (w : World) (h : Rwo w lb off n V) (ha : a + c ≤ n) (hb : b + c ≤ n) (hn : n ≤ 1000) (hne : a + c ≤ b ∨ b + c ≤ a) :
    Calls Try.prog 88 #[.slice (some ⟨lb, off, none⟩) n cap, .int .i64 a, .int .i64 b, .int .i64 c, f] w fun e w' => e = .returned (.tuple #[]) ∧ Srt lb off n V w w' := by
  go_enter Try.func88, Try.ntmps88
  go_wp2
  go_loopw [10] (fun i wr => ∃ (k : Nat), k ≤ c ∧ i = .int .i64 (k : Int) ∧ Srt lb off n V w wr) (fun i _ => c - (RowKit.intOf i).toNat)
  case atStart => exact ⟨0, Nat.zero_le _, rfl, Srt.refl h⟩
  case round =>
    obtain ⟨k, hk, rfl, hSR⟩ := hrel
    by_cases hlt : k < c
    · obtain ⟨⟨U, hS, hR⟩, hT⟩ := hSR
      have hlt' : (k : Int) < (c : Int) := by omega
      obtain ⟨x, hx⟩ : ∃ x : Nat, a + k = x := ⟨_, rfl⟩
      obtain ⟨y, hy⟩ : ∃ y : Nat, b + k = y := ⟨_, rfl⟩
      have wa : IntKind.i64.wrap ((a : Int) + (k : Int)) = (x : Int) := by rw [i64w (by omega)]; omega
      have wb : IntKind.i64.wrap ((b : Int) + (k : Int)) = (y : Int) := by rw [i64w (by omega)]; omega
      have i1 : (x : Int) < (n : Int) := by omega
      have i2 : (y : Int) < (n : Int) := by omega
      have HS2 := (Srt.swp hT hS hR (i := x) (j := y) (by omega) (by omega)).drew
      have ca : wr.cell? ⟨lb, off + x, none⟩ = some (.int .i64 (U x)) := hR.cell x (by omega)
      have cb : wr.cell? ⟨lb, off + y, none⟩ = some (.int .i64 (U y)) := hR.cell y (by omega)
      have fa : wr.frozen? ⟨lb, off + x, none⟩ = false := hR.free x (by omega)
      have fb : wr.frozen? ⟨lb, off + y, none⟩ = false := hR.free y (by omega)
      have cc : ∀ v, (wr.setCell ⟨lb, off + x, none⟩ v).cell? ⟨lb, off + y, none⟩ = some (.int .i64 (U y)) := fun v => by rw [cset_other (by intro q; injection q with q1 q2; omega)]; exact cb
      go_upto_region 3 with fail
      refine wp_region_held_drew (S := fun _ => True) (by kernel_rfl) trivial (fun hHeld => ?_)
      refine tq 0 hHeld ?_
      refine tq 1 hHeld ?_
      refine tq 2 hHeld ?_
      refine tq 3 hHeld ?_
      refine tq 4 hHeld ?_
      refine tq 5 hHeld ?_
      refine tq 6 hHeld ?_
      refine tq 7 hHeld ?_
      refine tq 8 hHeld ?_
      refine tq 9 hHeld ?_
      refine tq 10 hHeld ?_
      refine tq 11 hHeld ?_
      refine tq 12 hHeld ?_
      refine tq 14 hHeld ?_
      refine tq 15 hHeld ?_
      refine tq 16 hHeld ?_
      refine tq 17 hHeld ?_
      refine tq 18 hHeld ?_
      refine wpAnyH_ready (rs := [13, 19]) (by kernel_rfl) (by simp) ?_
      refine AllReadyH.cons rfl (fun K hK => ?_) (AllReadyH.cons rfl (fun K hK => ?_) AllReadyH.nil)
      · (go_simp; refine tr hK (fun hHeld => ?_) trivial; clear hK K)
        refine tc 19 fun K hK => ?_
        (go_simp; refine tr hK (fun hHeld => ?_) trivial; clear hK K)
        refine tq 20 hHeld ?_
        refine tc 21 fun K hK => ?_
        (go_simp; refine tr hK (fun hHeld => ?_) trivial; clear hK K)
        refine tq 22 hHeld ?_
        refine tc 23 fun K hK => ?_
        (go_simp; refine tr hK (fun hHeld => ?_) trivial; clear hK K)
        refine wpAnyH_done (by kernel_rfl) ?_ _
        go_wp2
        go_roundw
        case rel => exact ⟨k + 1, by omega, by go_num, HS2⟩
        case measure => simp [RowKit.intOf]; omega
      · (go_simp; refine tr hK (fun hHeld => ?_) trivial; clear hK K)
        refine tc 13 fun K hK => ?_
        (go_simp; refine tr hK (fun hHeld => ?_) trivial; clear hK K)
        refine tq 20 hHeld ?_
        refine tc 21 fun K hK => ?_
        (go_simp; refine tr hK (fun hHeld => ?_) trivial; clear hK K)
        refine tq 22 hHeld ?_
        refine tc 23 fun K hK => ?_
        (go_simp; refine tr hK (fun hHeld => ?_) trivial; clear hK K)
        refine wpAnyH_done (by kernel_rfl) ?_ _
        go_wp2
        go_roundw
        case rel => exact ⟨k + 1, by omega, by go_num, HS2⟩
        case measure => simp [RowKit.intOf]; omega
    · have hlt' : ¬ ((k : Int) < (c : Int)) := by omega
      go_wp2
      go_end0
      exact ⟨rfl, hSR⟩
end Go.Proofs.Ytcbgcochpflblaa
namespace Go.Proofs.Ytcbgcochpflblaa
open Go.RowKit
set_option linter.unusedVariables false
set_option linter.unusedSimpArgs false
set_option maxRecDepth 20000 in
set_option maxHeartbeats 1000000 in
theorem rotate_any (lb off n cap a m b : Nat) (f : Value) (V : Nat → Int) (w : World) (h : Rwo w lb off n V) (ha : a < m) (hm : m < b) (hb : b ≤ n) (hn : n ≤ 1000) :
    Calls Try.prog 86 #[.slice (some ⟨lb, off, none⟩) n cap, .int .i64 a, .int .i64 m, .int .i64 b, f] w fun e w' => e = .returned (.tuple #[]) ∧ Srt lb off n V w w' := by
  have w1 : IntKind.i64.wrap ((m : Int) - (a : Int)) = ((m - a : Nat) : Int) := by rw [i64w (by omega)]; omega
  have w2 : IntKind.i64.wrap ((b : Int) - (m : Int)) = ((b - m : Nat) : Int) := by rw [i64w (by omega)]; omega
  go_enter Try.func86, Try.ntmps86
  go_wp2
  go_loopw [10, 11] (fun i j wr => ∃ (p q : Nat), 0 < p ∧ 0 < q ∧ a + p ≤ m ∧ m + q ≤ b ∧ i = .int .i64 (p : Int) ∧ j = .int .i64 (q : Int) ∧ Srt lb off n V w wr) (fun i j _ => (RowKit.intOf i).toNat + (RowKit.intOf j).toNat)
  case atStart => exact ⟨m - a, b - m, by omega, by omega, by omega, by omega, rfl, rfl, Srt.refl h⟩
  case round =>
    obtain ⟨p, q, hp, hq, hpa, hqb, rfl, rfl, hSR⟩ := hrel
    clear w1 w2
    obtain ⟨⟨U, hS, hR⟩, hT⟩ := hSR
    obtain ⟨x, hx⟩ : ∃ x : Nat, m - p = x := ⟨_, rfl⟩
    have wx : IntKind.i64.wrap ((m : Int) - (p : Int)) = (x : Int) := by rw [i64w (by omega)]; omega
    by_cases he : p = q
    · subst he
      have he2 : ((p : Int) != (p : Int)) = false := by simp
      have he3 : (p != p) = false := by simp
      go_wp2_with (go_at_call 88; refine (swapRange_any lb off n cap _ _ _ _ U _ hR (by omega) (by omega) (by omega) (by omega)).mono ?_; rintro e w1 ⟨rfl, hS1⟩)
      go_end0
      exact ⟨rfl, Srt.trans hT hS hS1⟩
    · have he1 : ¬ ((p : Int) = (q : Int)) := by omega
      have he2 : ((p : Int) != (q : Int)) = true := by simp; omega
      by_cases hl : q < p
      · have hl1 : (q : Int) < (p : Int) := by omega
        have wd : IntKind.i64.wrap ((p : Int) - (q : Int)) = ((p - q : Nat) : Int) := by rw [i64w (by omega)]; omega
        go_wp2_with (go_at_call 88; refine (swapRange_any lb off n cap _ _ _ _ U _ hR (by omega) (by omega) (by omega) (by omega)).mono ?_; rintro e w1 ⟨rfl, hS1⟩)
        go_roundw
        case rel => exact ⟨p - q, q, by omega, by omega, by omega, by omega, rfl, rfl, Srt.trans hT hS hS1⟩
        case measure => simp [RowKit.intOf]; omega
      · have hl1 : ¬ ((q : Int) < (p : Int)) := by omega
        have wd : IntKind.i64.wrap ((q : Int) - (p : Int)) = ((q - p : Nat) : Int) := by rw [i64w (by omega)]; omega
        obtain ⟨y, hy⟩ : ∃ y : Nat, m + q - p = y := ⟨_, rfl⟩
        have wy : IntKind.i64.wrap ((m : Int) + (q : Int)) = (m : Int) + (q : Int) := i64w (by omega)
        have wy2 : IntKind.i64.wrap ((m : Int) + (q : Int) - (p : Int)) = (y : Int) := by rw [i64w (by omega)]; omega
        go_wp2_with (go_at_call 88; refine (swapRange_any lb off n cap _ _ _ _ U _ hR (by omega) (by omega) (by omega) (by omega)).mono ?_; rintro e w1 ⟨rfl, hS1⟩)
        go_roundw
        case rel => exact ⟨p, q - p, by omega, by omega, by omega, by omega, rfl, rfl, Srt.trans hT hS hS1⟩
        case measure => simp [RowKit.intOf]; omega
/-- what is asked of the comparison: it reads, and lays new blocks alone -/
def Cmp (lb off n : Nat) (N : Int) (pb : Value) (w : World) : Prop := ∀ (wr : World), Trn lb off n w wr → ∀ p q : Int, 0 ≤ p ∧ p < N → 0 ≤ q ∧ q < N →
  Calls Try.prog 56 #[.int .i64 p, .int .i64 q, pb] wr fun e w' => (∃ r : Int, e = .returned (.int .i64 r)) ∧ Below wr.heap.size wr w'
theorem Cmp.at {lb off n : Nat} {N : Int} {pb : Value} {w : World} (h : Cmp lb off n N pb w) {wr : World} (hT : Trn lb off n w wr) {p q : Int} (hp : 0 ≤ p ∧ p < N) (hq : 0 ≤ q ∧ q < N) :
  Calls Try.prog 56 #[.int .i64 p, .int .i64 q, pb] wr fun e w' => (∃ r : Int, e = .returned (.int .i64 r)) ∧ Below wr.heap.size wr w' := h wr hT p q hp hq
theorem Cmp.on {lb off n : Nat} {N : Int} {pb : Value} {w w1 : World} (h : Cmp lb off n N pb w) (hT : Trn lb off n w w1) : Cmp lb off n N pb w1 := fun wr h1 => h wr (hT.trans h1)
theorem Sw.all {n : Nat} {V U : Nat → Int} {P : Int → Prop} (h : Sw n V U) (hV : ∀ i, i < n → P (V i)) : ∀ i, i < n → P (U i) := fun i hi => by
  obtain ⟨s, s1, s2, s3⟩ := h
  rw [s3 i hi]; exact hV _ (s1 i hi)
set_option maxRecDepth 20000 in
set_option maxHeartbeats 1000000 in
theorem insertion_any (lb off n cap : Nat) (N : Int) (pb : Value) (V : Nat → Int) (w : World) (h : Rwo w lb off n V) (hV : ∀ i, i < n → 0 ≤ V i ∧ V i < N) (hC : Cmp lb off n N pb w) (hl : lb < w.heap.size) (hn : n ≤ 1000) (a b : Nat) (hb : b ≤ n) (ha : a ≤ 1000) :
    Calls Try.prog 78 #[.slice (some ⟨lb, off, none⟩) n cap, .int .i64 a, .int .i64 b, .func (.func 56) #[] #[pb]] w fun e w' => e = .returned (.tuple #[]) ∧ Srt lb off n V w w' := by
  have w1 : IntKind.i64.wrap ((a : Int) + (1 : Int)) = ((a + 1 : Nat) : Int) := by rw [i64w (by omega)]; omega
  go_enter Try.func78, Try.ntmps78
  go_wp2
  go_loopg [8] (b - a) (fun g1 i wr => ∃ (x : Nat), a < x ∧ x ≤ a + 1 + b ∧ b - x ≤ g1 ∧ i = .int .i64 (x : Int) ∧ Srt lb off n V w wr)
  case atStart => exact ⟨a + 1, by omega, by omega, by omega, rfl, Srt.refl h⟩
  case round =>
    obtain ⟨x, hax, hxb, hg1, rfl, hSR⟩ := hrel
    clear w1
    by_cases hlt : x < b
    · have hlt1 : (x : Int) < (b : Int) := by omega
      have wx : IntKind.i64.wrap ((x : Int) + (1 : Int)) = ((x + 1 : Nat) : Int) := by rw [i64w (by omega)]; omega
      go_wp2
      go_loopg [9] x (fun g2 j wr => ∃ (y : Nat), a ≤ y ∧ y ≤ x ∧ y ≤ g2 ∧ j = .int .i64 (y : Int) ∧ Srt lb off n V w wr)
      case atStart => exact ⟨x, by omega, by omega, by omega, rfl, hSR⟩
      case round =>
        clear hSR
        obtain ⟨y, hay, hyx, hg2, rfl, hSR⟩ := hrel
        by_cases hlt2 : a < y
        · have hlt3 : (a : Int) < (y : Int) := by omega
          have hlt4 : decide ((y : Int) > (a : Int)) = true := decide_eq_true hlt3
          obtain ⟨z, hz⟩ : ∃ z : Nat, y - 1 = z := ⟨_, rfl⟩
          have wz : IntKind.i64.wrap ((y : Int) - (1 : Int)) = (z : Int) := by rw [i64w (by omega)]; omega
          have i1 : (y : Int) < (n : Int) := by omega
          have i2 : (z : Int) < (n : Int) := by omega
          go_upto_region 4 with fail
          go_cut [34] (fun s wc => ∃ r : Bool, s = .bool r ∧ Srt lb off n V w wc)
          case first =>
            obtain ⟨⟨U, hS, hR⟩, hT⟩ := hSR
            have hU := hS.all (P := fun v => 0 ≤ v ∧ v < N) hV
            have hlw := hT.lt hl
            have ca : wr.cell? ⟨lb, off + y, none⟩ = some (.int .i64 (U y)) := hR.cell y (by omega)
            have cb : wr.cell? ⟨lb, off + z, none⟩ = some (.int .i64 (U z)) := hR.cell z (by omega)
            refine wp_region_held_drew (S := fun w' => w'.cell? ⟨lb, off + y, none⟩ = some (.int .i64 (U y)) ∧ w'.cell? ⟨lb, off + z, none⟩ = some (.int .i64 (U z))) (by kernel_rfl) ?_ (fun hHeld => ?_)
            · (try dsimp only)
              (first | (go_simp; done) | (go_keep; done))
            refine tq 0 hHeld ?_
            refine tq 1 hHeld ?_
            refine tq 2 hHeld ?_
            refine tq 3 hHeld ?_
            refine tq 4 hHeld ?_
            refine tq 5 hHeld ?_
            refine tq 6 hHeld ?_
            refine tq 7 hHeld ?_
            refine tq 8 hHeld ?_
            refine tq 9 hHeld ?_
            refine tq 10 hHeld ?_
            refine tq 11 hHeld ?_
            refine tq 12 hHeld ?_
            refine tq 13 hHeld ?_
            refine tc 14 fun K hK => ?_
            (go_simp; (go_at_call 56; refine (hC.at (by first | exact hT | exact hT.drew) (hU _ (by omega)) (hU _ (by omega))).mono ?_; rintro e w1 ⟨⟨r, rfl⟩, hb1⟩); (try go_wp2_with fail); refine tr hK (fun hHeld => ?_) ⟨(hb1.cell (p := ⟨lb, off + y, none⟩) hlw).trans ca, (hb1.cell (p := ⟨lb, off + z, none⟩) hlw).trans cb⟩; clear hK K)
            refine tq 15 hHeld ?_
            refine tq 16 hHeld ?_
            refine wpAnyH_done (by kernel_rfl) ?_ _
            go_wp2_with fail
            go_meet
            exact ⟨_, rfl, (Srt.below (w' := wr.drew) (Srt.drew ⟨⟨U, hS, hR⟩, hT⟩) hl hb1)⟩
          case rest =>
          clear hSR
          obtain ⟨r, rfl, hSR⟩ := hcut
          cases r with
          | false =>
            go_wp2_with fail
            go_roundg (b - x - 1)
            case measure => omega
            case rel => exact ⟨x + 1, by omega, by omega, by omega, by go_num, hSR⟩
          | true =>
            obtain ⟨⟨U, hS, hR⟩, hT⟩ := hSR
            have HS2 := (Srt.swp hT hS hR (i := y) (j := z) (by omega) (by omega)).drew
            have ca : wc.cell? ⟨lb, off + y, none⟩ = some (.int .i64 (U y)) := hR.cell y (by omega)
            have cb : wc.cell? ⟨lb, off + z, none⟩ = some (.int .i64 (U z)) := hR.cell z (by omega)
            have fa : wc.frozen? ⟨lb, off + y, none⟩ = false := hR.free y (by omega)
            have fb : wc.frozen? ⟨lb, off + z, none⟩ = false := hR.free z (by omega)
            have cc : ∀ v, (wc.setCell ⟨lb, off + y, none⟩ v).cell? ⟨lb, off + z, none⟩ = some (.int .i64 (U z)) := fun v => by rw [cset_other (by intro q; injection q with q1 q2; omega)]; exact cb
            go_upto_region 6 with fail
            refine wp_region_held_drew (S := fun _ => True) (by kernel_rfl) trivial (fun hHeld => ?_)
            refine tq 0 hHeld ?_
            refine tq 1 hHeld ?_
            refine tq 2 hHeld ?_
            refine tq 3 hHeld ?_
            refine tq 4 hHeld ?_
            refine tq 5 hHeld ?_
            refine tq 6 hHeld ?_
            refine tq 7 hHeld ?_
            refine tq 8 hHeld ?_
            refine tq 10 hHeld ?_
            refine tq 11 hHeld ?_
            refine tq 12 hHeld ?_
            refine wpAnyH_ready (rs := [9, 13]) (by kernel_rfl) (by simp) ?_
            refine AllReadyH.cons rfl (fun K hK => ?_) (AllReadyH.cons rfl (fun K hK => ?_) AllReadyH.nil)
            · (go_simp; refine tr hK (fun hHeld => ?_) trivial; clear hK K)
              refine tc 13 fun K hK => ?_
              (go_simp; refine tr hK (fun hHeld => ?_) trivial; clear hK K)
              refine tq 14 hHeld ?_
              refine tc 15 fun K hK => ?_
              (go_simp; refine tr hK (fun hHeld => ?_) trivial; clear hK K)
              refine tq 16 hHeld ?_
              refine tc 17 fun K hK => ?_
              (go_simp; refine tr hK (fun hHeld => ?_) trivial; clear hK K)
              refine wpAnyH_done (by kernel_rfl) ?_ _
              go_wp2_with fail
              go_roundg (y - 1)
              case measure => omega
              case rel => exact ⟨z, by omega, by omega, by omega, by go_num, HS2⟩
            · (go_simp; refine tr hK (fun hHeld => ?_) trivial; clear hK K)
              refine tc 9 fun K hK => ?_
              (go_simp; refine tr hK (fun hHeld => ?_) trivial; clear hK K)
              refine tq 14 hHeld ?_
              refine tc 15 fun K hK => ?_
              (go_simp; refine tr hK (fun hHeld => ?_) trivial; clear hK K)
              refine tq 16 hHeld ?_
              refine tc 17 fun K hK => ?_
              (go_simp; refine tr hK (fun hHeld => ?_) trivial; clear hK K)
              refine wpAnyH_done (by kernel_rfl) ?_ _
              go_wp2_with fail
              go_roundg (y - 1)
              case measure => omega
              case rel => exact ⟨z, by omega, by omega, by omega, by go_num, HS2⟩
        · have hlt3 : ¬ ((a : Int) < (y : Int)) := by omega
          have hlt4 : decide ((y : Int) > (a : Int)) = false := decide_eq_false hlt3
          go_upto_region 4 with fail
          refine wp_region_held_drew (S := fun _ => True) (by kernel_rfl) trivial (fun hHeld => ?_)
          refine tq 0 hHeld ?_
          refine tq 1 hHeld ?_
          refine tq 2 hHeld ?_
          refine tq 3 hHeld ?_
          refine tn 4 hHeld ?_
          refine tn 5 hHeld ?_
          refine tn 6 hHeld ?_
          refine tn 7 hHeld ?_
          refine tn 8 hHeld ?_
          refine tn 9 hHeld ?_
          refine tn 10 hHeld ?_
          refine tn 11 hHeld ?_
          refine tn 12 hHeld ?_
          refine tn 13 hHeld ?_
          refine tn 14 hHeld ?_
          refine tn 15 hHeld ?_
          refine tq 16 hHeld ?_
          refine wpAnyH_done (by kernel_rfl) ?_ _
          go_wp2_with fail
          go_roundg (b - x - 1)
          case measure => omega
          case rel => exact ⟨x + 1, by omega, by omega, by omega, by go_num, Srt.drew hSR⟩
    · have hlt1 : ¬ ((x : Int) < (b : Int)) := by omega
      go_wp2
      go_end0
      exact ⟨rfl, hSR⟩
end Go.Proofs.Ytcbgcochpflblaa
