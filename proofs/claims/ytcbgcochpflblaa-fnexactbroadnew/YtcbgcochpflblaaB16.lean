/- The contracts of spans. A tree over places, and what is found in it: plain mathematics. -/
import Derived.Test.YtcbgcochpflblaaBox
import Derived.Deep.QuietTactic
import Derived.BigQuiet
import Derived.Deep.RegionWith
import Derived.Deep.RegionHeld3
import Derived.Test.YtcbgcochpflblaaB1
namespace Go.Proofs.Ytcbgcochpflblaa
open Go.RowKit
set_option linter.unusedVariables false
set_option linter.unusedSimpArgs false

/-- the lesser, the greater -/
def mn (x y : Int) : Int := if y < x then y else x
def mx (x y : Int) : Int := if x < y then y else x
theorem mn_bd {B x y : Int} (hx : -B ≤ x ∧ x ≤ B) (hy : -B ≤ y ∧ y ≤ B) : -B ≤ mn x y ∧ mn x y ≤ B := by unfold mn; split <;> omega
theorem mx_bd {B x y : Int} (hx : -B ≤ x ∧ x ≤ B) (hy : -B ≤ y ∧ y ≤ B) : -B ≤ mx x y ∧ mx x y ≤ B := by unfold mx; split <;> omega

set_option maxHeartbeats 1000000 in
theorem spanOf_any (a b c d : Int) (w : World) :
    Calls Try.prog 35 #[b4 a b c d] w fun e w' => e = .returned (b4 a b c d) ∧ Below w.heap.size w w' := by
  have hset := cset_map
  go_enter Try.func35, Try.ntmps35
  go_wp2
  go_region_held3 (fun w' => w'.cell? ⟨w.heap.size, 0, none⟩ = some (.int .i64 a) ∧ w'.cell? ⟨w.heap.size, 1, none⟩ = some (.int .i64 b) ∧ w'.cell? ⟨w.heap.size, 2, none⟩ = some (.int .i64 c) ∧ w'.cell? ⟨w.heap.size, 3, none⟩ = some (.int .i64 d)) (first | (go_simp; done) | (go_keep; done)) ((go_at_call 47; refine (wayOf_any _ _ _).mono ?_; rintro e w1 ⟨rfl, hb1⟩; obtain ⟨hc1, hf1⟩ := bcell hb1; have hl1 := blt hb1; have hz1 := hb1.size; (try simp only [World.size_drew, World.size_alloc, World.size_setCell] at hc1 hf1 hl1 hz1); (try have hq1x0 : w.heap.size < w1.heap.size := (by omega)); (try have hq1x1 : w.heap.size + 1 < w1.heap.size := (by omega))))
  all_goals
    go_wp2
    exact bodyPost_ret (v := b4 a b c d) (by simp [results, Try.results35, go_sem, *]) rfl ⟨rfl, bel_a⟩

set_option maxHeartbeats 1000000 in
theorem spanMeets_any (a b c d r s t u : Int) (w : World) :
    Calls Try.prog 45 #[b4 a b c d, b4 r s t u] w fun e w' => e = .returned (.bool (leB a b t u && leB r s c d)) ∧ Below w.heap.size w w' := by
  have hset := cset_map
  go_enter Try.func45, Try.ntmps45
  go_wp2_with (go_at_call 51; refine (noneGreater_any _ _ _ _ _).mono ?_; rintro e w1 ⟨rfl, hb1⟩; obtain ⟨hc1, hf1⟩ := bcell hb1; have hl1 := blt hb1; have hz1 := hb1.size; (try simp only [World.size_drew, World.size_alloc, World.size_setCell] at hc1 hf1 hl1 hz1); (try have hq1x0 : w.heap.size < w1.heap.size := (by omega)); (try have hq1x1 : w.heap.size + 1 < w1.heap.size := (by omega)))
  all_goals
    go_ret
    refine ⟨ret_bool ?_, bel_a⟩
    first | (simp [*]; done) | (simp at *; simp [*]; done) | (simp at *; omega)

set_option maxHeartbeats 1000000 in
theorem least_any (x y u v : Int) (w : World) :
    Calls Try.prog 58 #[vv x y, vv u v] w fun e w' => e = .returned (vv (mn x u) (mn y v)) ∧ Below w.heap.size w w' := by
  have hset := cset_map
  go_enter Try.func58, Try.ntmps58
  go_wp2
  all_goals
    refine bodyPost_ret (v := vv (mn x u) (mn y v)) ?_ rfl ⟨rfl, bel_a⟩
    simp [results, Try.results58, go_sem, *]
    try (constructor <;> (unfold mn; split <;> omega))

set_option maxHeartbeats 1000000 in
theorem greatest_any (x y u v : Int) (w : World) :
    Calls Try.prog 59 #[vv x y, vv u v] w fun e w' => e = .returned (vv (mx x u) (mx y v)) ∧ Below w.heap.size w w' := by
  have hset := cset_map
  go_enter Try.func59, Try.ntmps59
  go_wp2
  all_goals
    refine bodyPost_ret (v := vv (mx x u) (mx y v)) ?_ rfl ⟨rfl, bel_a⟩
    simp [results, Try.results59, go_sem, *]
    try (constructor <;> (unfold mx; split <;> omega))

end Go.Proofs.Ytcbgcochpflblaa
namespace Go.Proofs.Ytcbgcochpflblaa
set_option linter.unusedVariables false
/-- a table of nodes: a leaf's item; or the two nodes under it -/
structure Tab4 where
  leaf : Nat → Option Nat
  left : Nat → Nat
  right : Nat → Nat
/-- the items under a node, in the tree's order -/
inductive Cov (T : Tab4) : Nat → List Nat → Prop
  | leaf {k i} : T.leaf k = some i → Cov T k [i]
  | node {k a b} : T.leaf k = none → Cov T (T.left k) a → Cov T (T.right k) b → Cov T k (a ++ b)
theorem Cov.pos {T : Tab4} {k : Nat} {c : List Nat} (h : Cov T k c) : 0 < c.length := by
  induction h with
  | leaf _ => simp
  | node _ _ _ ha hb => simp; omega
/-- tables that agree at all nodes below m -/
structure Same4 (m : Nat) (T U : Tab4) : Prop where
  leaf : ∀ k, k < m → T.leaf k = U.leaf k
  left : ∀ k, k < m → T.left k = U.left k
  right : ∀ k, k < m → T.right k = U.right k
/-- each node stands behind those under it -/
def Down (m : Nat) (T : Tab4) : Prop := ∀ k, k < m → T.leaf k = none → T.left k < k ∧ T.right k < k
theorem Cov.same {T U : Tab4} {m : Nat} (s : Same4 m T U) (d : Down m T) {k : Nat} {c : List Nat} (h : Cov T k c) (hk : k < m) : Cov U k c := by
  induction h with
  | leaf e => exact .leaf (by rw [← s.leaf _ hk]; exact e)
  | node e _ _ ha hb =>
    obtain ⟨d1, d2⟩ := d _ hk e
    refine .node (by rw [← s.leaf _ hk]; exact e) ?_ ?_
    · rw [← s.left _ hk]; exact ha (by omega)
    · rw [← s.right _ hk]; exact hb (by omega)
/-- what is under the nodes of a stack, the top first -/
inductive Covs (T : Tab4) : List Nat → List (List Nat) → Prop
  | nil : Covs T [] []
  | cons {k o c cs} : Cov T k c → Covs T o cs → Covs T (k :: o) (c :: cs)
/-- how much is left to do -/
def todo : List (List Nat) → Nat
  | [] => 0
  | c :: cs => (2 * c.length - 1) + todo cs
/-- while it is looked for: what is found, and what is under the stack, is what is wanted -/
structure Look (T : Tab4) (M : Nat → Bool) (want found open_ : List Nat) (cs : List (List Nat)) : Prop where
  cov : Covs T open_ cs
  perm : (found ++ cs.flatten.filter M).Perm want
theorem Look.start {T : Tab4} {M : Nat → Bool} {k : Nat} {c : List Nat} (h : Cov T k c) : Look T M (c.filter M) [] [k] [c] :=
  ⟨.cons h .nil, by simp⟩
theorem Look.done {T : Tab4} {M : Nat → Bool} {want found : List Nat} {cs : List (List Nat)} (h : Look T M want found [] cs) : found.Perm want := by
  obtain ⟨hc, hp⟩ := h
  cases hc
  simpa using hp
/-- nothing of it meets -/
theorem Look.skip {T : Tab4} {M : Nat → Bool} {want found o : List Nat} {k : Nat} {cs : List (List Nat)} (h : Look T M want found (k :: o) cs) (hA : ∀ c, Cov T k c → ∀ i ∈ c, M i = false) :
    ∃ cs', Look T M want found o cs' ∧ todo cs' < todo cs := by
  obtain ⟨hc, hp⟩ := h
  cases hc with
  | @cons _ _ c cs hk ho =>
    refine ⟨cs, ⟨ho, ?_⟩, by have := hk.pos; simp only [todo]; omega⟩
    have e : c.filter M = [] := by
      rw [List.filter_eq_nil_iff]
      intro i hi
      rw [hA c hk i hi]; simp
    simpa [e] using hp
/-- a leaf that meets, or does not -/
theorem Look.leaf {T : Tab4} {M : Nat → Bool} {want found o : List Nat} {k i : Nat} {cs : List (List Nat)} (h : Look T M want found (k :: o) cs) (hl : T.leaf k = some i) :
    ∃ cs', Look T M want (if M i then found ++ [i] else found) o cs' ∧ todo cs' < todo cs := by
  obtain ⟨hc, hp⟩ := h
  cases hc with
  | @cons _ _ c cs hk ho =>
    cases hk with
    | node e _ _ => rw [hl] at e; cases e
    | leaf e =>
      rw [hl] at e
      obtain rfl := Option.some.inj e
      refine ⟨cs, ⟨ho, ?_⟩, by simp only [todo, List.length_cons, List.length_nil]; omega⟩
      cases hM : M i with
      | false => simpa [hM] using hp
      | true => simpa [hM] using hp
/-- a node: both under it are put on the stack, the right one on top -/
theorem Look.node {T : Tab4} {M : Nat → Bool} {want found o : List Nat} {k : Nat} {cs : List (List Nat)} (h : Look T M want found (k :: o) cs) (hl : T.leaf k = none) :
    ∃ cs', Look T M want found (T.right k :: T.left k :: o) cs' ∧ todo cs' < todo cs := by
  obtain ⟨hc, hp⟩ := h
  cases hc with
  | @cons _ _ c cs hk ho =>
    cases hk with
    | leaf e => rw [hl] at e; cases e
    | @node _ a b e ha hb =>
      refine ⟨b :: a :: cs, ⟨.cons hb (.cons ha ho), ?_⟩, ?_⟩
      · refine List.Perm.trans ?_ hp
        simp only [List.flatten_cons, List.filter_append, ← List.append_assoc]
        refine List.Perm.append_right _ ?_
        rw [List.append_assoc, List.append_assoc]
        exact List.Perm.append_left _ List.perm_append_comm
      · have p1 := ha.pos
        have p2 := hb.pos
        simp only [todo, List.length_append]
        omega
/-- ascending without the same twice: one list alone -/
theorem asc_eq : ∀ {l m : List Nat}, l.Pairwise (· < ·) → m.Pairwise (· < ·) → l.Perm m → l = m
  | [], m, _, _, h => by rw [List.nil_perm.1 h]
  | a :: l, [], _, _, h => by simpa using h.length_eq
  | a :: l, b :: m, hl, hm, h => by
    rw [List.pairwise_cons] at hl hm
    have hab : a = b := by
      have h1 : a ∈ b :: m := h.subset (List.mem_cons_self ..)
      have h2 : b ∈ a :: l := h.symm.subset (List.mem_cons_self ..)
      rcases List.mem_cons.1 h1 with e | e
      · exact e
      · rcases List.mem_cons.1 h2 with f | f
        · exact f.symm
        · have := hl.1 b f
          have := hm.1 a e
          omega
    subst hab
    rw [asc_eq hl.2 hm.2 (List.Perm.cons_inv h)]
/-- what is found, put in order, is what the specification goes over -/
theorem found_eq {M : Nat → Bool} {n : Nat} {c found out : List Nat} (hc : c.Perm (List.range n)) (hf : found.Perm (c.filter M)) (ho : out.Perm found) (hs : out.Pairwise (· ≤ ·)) : out = (List.range n).filter M := by
  have hp : out.Perm ((List.range n).filter M) := ho.trans (hf.trans (hc.filter M))
  have hr : ((List.range n).filter M).Pairwise (· < ·) := List.Pairwise.filter _ List.pairwise_lt_range
  have hn : out.Nodup := hp.nodup_iff.2 (hr.imp (fun h => Nat.ne_of_lt h))
  refine asc_eq ?_ hr hp
  exact (hs.and hn).imp (fun h => Nat.lt_of_le_of_ne h.1 h.2)
end Go.Proofs.Ytcbgcochpflblaa
