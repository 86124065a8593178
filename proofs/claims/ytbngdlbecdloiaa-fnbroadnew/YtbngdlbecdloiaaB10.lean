/- Lists in memory of their own, beside others; marks. The contracts of the specification's boxes. The walks of exact laws over boxes. Lists of boxes with their numbers: turned into the program's own. The contracts of the specification's VecMul, VecLen and VecUnit. A tree over places, and what is found in it: plain mathematics. The contracts of the specification's BoxMeets and BoxHas. Pairs: marked, held, the same. -/
import Derived.Test.YtbngdlbecdloiaaCs
import Derived.Test.YtbngdlbecdloiaaBox
import Derived.Deep.QuietTactic
import Derived.BigQuiet
import Derived.Deep.RegionWith
import Derived.Deep.DeepCutAuto
import Derived.Test.YtbngdlbecdloiaaB4
import Derived.Test.YtbngdlbecdloiaaB3
import Derived.Test.YtbngdlbecdloiaaB1
import Derived.Deep.RegionHeld3
set_option maxHeartbeats 16000000
set_option maxRecDepth 20000
namespace Go.Proofs.Ytbngdlbecdloiaa
open Go.RowKit
set_option linter.unusedVariables false
set_option linter.unusedSimpArgs false
theorem grown_setG (w : World) (g q : Nat) (v : Value) : w.grownBy (w.setCell ⟨g, q, none⟩ v) (some g) := ⟨rfl, rfl, rfl, by simp, fun k hk hn => Below.heap_setCell _ _ _ _ (fun e => hn (by rw [e]))⟩
theorem grown_trans {w w' w'' : World} {r : Option Nat} (h : w.grownBy w' r) (k : w'.grownBy w'' r) : w.grownBy w'' r := ⟨k.os.trans h.os, k.tape.trans h.tape, k.output.trans h.output, Nat.le_trans h.size k.size, fun i hi hn => (k.block i (Nat.lt_of_lt_of_le hi h.size) hn).trans (h.block i hi hn)⟩
theorem grown_refl (w : World) (r : Option Nat) : w.grownBy w r := ⟨rfl, rfl, rfl, Nat.le_refl _, fun _ _ _ => rfl⟩
theorem OwnL.setq {w : World} {base t k n g c : Nat} {U : Nat → Int} (h : OwnL w base t k (.slice (Option.some ⟨g, 0, none⟩) n c) n U) (q : Nat) (hq : q < n * k) (x : Int) : OwnL (w.setCell ⟨g, q, none⟩ (.int .i64 x)) base t k (.slice (Option.some ⟨g, 0, none⟩) n c) n (fun r => if r = q then x else U r) := by
  have h1 := (World.ownsRow.stored h q (.int .i64 x)).1
  unfold OwnL
  rw [show numL (n * k) (fun r => if r = q then x else U r) = (numL (n * k) U).set q (.int .i64 x) from ?_]
  · exact h1
  · apply List.ext_getElem?
    intro r
    rw [List.getElem?_set, numL_len]
    by_cases hr : r < n * k
    · rw [numL_get hr]
      by_cases e : q = r
      · subst e; simp; omega
      · rw [if_neg e, numL_get hr]; simp [Ne.symm e]
    · rw [List.getElem?_eq_none (by rw [numL_len]; omega)]
      by_cases e : q = r
      · omega
      · rw [if_neg e, List.getElem?_eq_none (by rw [numL_len]; omega)]
theorem OwnL.loc {w : World} {base t k n c : Nat} {a : Option Addr} {U : Nat → Int} (h : OwnL w base t k (.slice a n c) n U) (h0 : 0 < n) : ∃ g, a = Option.some ⟨g, 0, none⟩ ∧ base ≤ g ∧ g < w.heap.size := by
  rcases h.2 with ⟨hv, hn⟩ | ⟨g, cap, cur, hv, hb, hg, _⟩
  · omega
  · simp only [Value.slice.injEq, true_and] at hv
    exact ⟨g, hv.1, hb, (Array.getElem?_eq_some_iff.1 hg).1⟩
theorem OwnL.cellq {w : World} {base t k n g c : Nat} {U : Nat → Int} (h : OwnL w base t k (.slice (Option.some ⟨g, 0, none⟩) n c) n U) {q : Nat} (hq : q < n * k) : w.cell? ⟨g, q, none⟩ = Option.some (.int .i64 (U q)) := by
  rw [World.ownsRow.cellAt h q hq, numL_get hq]
/-- marked up to p -/
abbrev mixU (p : Nat) (U : Nat → Int) : Nat → Int := fun q => if q < p then 1 + (q : Int) else U q
theorem OwnL.mark {w : World} {base t k n g c p : Nat} {U : Nat → Int} (h : OwnL w base t k (.slice (Option.some ⟨g, 0, none⟩) n c) n (mixU p U)) (hp : p < n * k) {x : Int} (hx : x = 1 + (p : Int)) : OwnL (w.setCell ⟨g, p, none⟩ (.int .i64 x)) base t k (.slice (Option.some ⟨g, 0, none⟩) n c) n (mixU (p + 1) U) :=
  (h.setq p hp x).congr fun q _ => by
    subst hx
    by_cases e : q = p
    · subst e; simp [mixU]
    · simp only [mixU, if_neg e]
      by_cases l : q < p
      · rw [if_pos l, if_pos (by omega)]
      · rw [if_neg l, if_neg (by omega)]
/-- a list whose block lies from lo on and below hi -/
structure Lv (w : World) (lo hi t k : Nat) (a : Option Addr) (n c : Nat) (U : Nat → Int) : Prop where
  own : OwnL w lo t k (.slice a n c) n U
  top : ∀ b, (Value.slice a n c).ownBlock = some b → b < hi
  le : hi ≤ w.heap.size
theorem Lv.on {w w' : World} {lo hi t k : Nat} {a : Option Addr} {n c : Nat} {U : Nat → Int} (h : Lv w lo hi t k a n c U) (hb : Below w.heap.size w w') : Lv w' lo hi t k a n c U := ⟨h.own.below hb, h.top, Nat.le_trans h.le hb.size⟩
theorem Lv.flat {w : World} {lo hi t k : Nat} {a : Option Addr} {n c : Nat} {U : Nat → Int} (h : Lv w lo hi t k a n c U) : Flat w a (n * k) U := h.own.flat
/-- another list is marked -/
theorem Lv.gr {w w' : World} {lo hi t k lo' hi' t' k' n' c' : Nat} {a' : Option Addr} {a : Option Addr} {n c : Nat} {U U' : Nat → Int} (h : Lv w lo hi t k a n c U) (h' : Lv w lo' hi' t' k' a' n' c' U') (hg : w.grownBy w' (Value.slice a' n' c').ownBlock) (hs : hi ≤ lo' ∨ hi' ≤ lo) : Lv w' lo hi t k a n c U := by
  refine ⟨?_, h.top, Nat.le_trans h.le hg.size⟩
  cases e : (Value.slice a n c).ownBlock with
  | none => exact h.own.kept hg (.inl e)
  | some b => exact h.own.kept hg (.inr (fun q => by
      have k1 := (h'.own.lt b (q ▸ e)).1
      have k1' := h'.top b (q ▸ e)
      have k2 := (h.own.lt b e).1
      have k3 := h.top b e
      omega))
/-- itself is marked -/
theorem Lv.me {w w' : World} {lo hi t k : Nat} {a : Option Addr} {n c : Nat} {U U' : Nat → Int} (h : Lv w lo hi t k a n c U) (hg : w.grownBy w' (Value.slice a n c).ownBlock) (ho : OwnL w' lo t k (.slice a n c) n U') : Lv w' lo hi t k a n c U' := ⟨ho, h.top, Nat.le_trans h.le hg.size⟩
/-- what lies below the first list -/
theorem Lv.below {w0 w w' : World} {lo hi t k B : Nat} {a : Option Addr} {n c : Nat} {U : Nat → Int} (h : Lv w lo hi t k a n c U) (hB : Below B w0 w) (hBw : B ≤ w.heap.size) (hg : w.grownBy w' (Value.slice a n c).ownBlock) (hl : B ≤ lo) : Below B w0 w' :=
  hB.grown hg hBw (fun b e => by have := (h.own.lt b e).1; omega)
theorem Lv.row {w w' : World} {b n t k : Nat} {U : Nat → Int} (h : Row w' b t (n * k) U) (hb : w.heap.size ≤ b) (hn : n ≤ 1048576) : Lv w' w.heap.size w'.heap.size t k (some ⟨b, 0, none⟩) n n U :=
  ⟨h.own hb (by unfold maxLen; omega), fun x e => by simp [Value.ownBlock] at e; subst e; exact h.lt, Nat.le_refl _⟩
/-- what a function hands out that makes a list -/
structure OutL (w w' : World) (t k : Nat) (a : Option Addr) (n c : Nat) (R : Nat → Int) : Prop where
  bel : Below w.heap.size w w'
  own : OwnL w' w.heap.size t k (.slice a n c) n R
theorem OutL.lv {w w' : World} {t k : Nat} {a : Option Addr} {n c : Nat} {R : Nat → Int} (h : OutL w w' t k a n c R) : Lv w' w.heap.size w'.heap.size t k a n c R := ⟨h.own, fun b e => (h.own.lt b e).2, Nat.le_refl _⟩
/-- a list's numbers -/
def ofL (l : List Int) : Nat → Int := fun q => l.getD q 0
theorem ofL_app (l x : List Int) (q : Nat) (h : q < l.length) : ofL (l ++ x) q = ofL l q := by
  unfold ofL
  rw [List.getD_eq_getElem?_getD, List.getD_eq_getElem?_getD, List.getElem?_append_left h]
theorem ofL_app' (l x : List Int) (q : Nat) (h : l.length ≤ q) : ofL (l ++ x) q = ofL x (q - l.length) := by
  unfold ofL
  rw [List.getD_eq_getElem?_getD, List.getD_eq_getElem?_getD, List.getElem?_append_right h]
theorem cat_ofL (l x : List Int) : cat l.length (ofL l) (ofL x) = ofL (l ++ x) := by
  funext q
  unfold cat
  by_cases h : q < l.length
  · rw [if_pos h, ofL_app l x q h]
  · rw [if_neg h, ofL_app' l x q (by omega)]
/-- APPEND of one thing of k numbers: where the list lies then -/
theorem step_appk {P : Program} {w : World} {ops : Array Oper} {o : Oper} {a : Act} {K : Act → World → Prop} {Q : Exit → Act → World → Prop} {E : Prop} (hgd : o.guard = none) (s x : Operand) (t : TypeId)
    (ho : o.op = .call { callee := .builtin .append, args := #[s, x], argTypes := #[t, t] })
    (base e k bytes : Nat) (z : Value) (ht : P.underlying t = some (.slice e)) (hinfo : (P.info? e).map (fun i => (i.zero, i.size, i.bytes)) = some (some z, k, bytes)) (hzs : z.cells.size = k) (hk : 0 < k)
    (v : Value) (n : Nat) (U : Nat → Int) (hs : a.eval s = v) (h : OwnL w base e k v n U) (B c : Nat) (X : Nat → Int) (hx : a.eval x = .slice (some ⟨B, 0, none⟩) 1 c) (hv : ∀ q, q < k → w.cell? ⟨B, q, none⟩ = some (.int .i64 (X q)))
    (h63 : n + 1 ≤ maxLen) (hbytes : (n + 1) * bytes ≤ 140737488355328) (hbase : base ≤ w.heap.size) (H : Nat) (hH : w.heap.size = H)
    (hK : ∀ g cap w', OwnL w' base e k (.slice (some ⟨g, 0, none⟩) (n + 1) cap) (n + 1) (cat (n * k) U X) → w.grownBy w' v.ownBlock → (v.ownBlock = some g ∨ g = H) → g < w'.heap.size → K (a.put o.dst (.slice (some ⟨g, 0, none⟩) (n + 1) cap)) w') :
    if Region.wanted o (yielded ops a.tmps) = true then Oper.wp P o a w K Q else E := by
  obtain ⟨i, hi, hzz⟩ := Option.map_eq_some_iff.1 hinfo
  simp only [Prod.mk.injEq] at hzz
  obtain ⟨hz, hsz, hby⟩ := hzz
  refine step_append_lies w hgd s x t ho base e i z k bytes ht hi hz hsz hby hzs hk v n (numL (n * k) U) hs h ⟨B, 0, none⟩ 1 c (numL (1 * k) X) hx (numL_len _ _) ?_ (fun u hu => by obtain ⟨q, _, rfl⟩ := List.mem_map.1 hu; rfl) (by omega) h63 hbytes hbase H hH ?_
  · intro j u hu
    have hj : j < 1 * k := by have := (List.getElem?_eq_some_iff.1 hu).1; rwa [numL_len] at this
    rw [numL_get hj] at hu
    rw [Addr.add_lit, Nat.zero_add, hv j (by omega)]
    exact hu
  · intro g cap w' h2 h3 h4 h5
    refine hK g cap w' ?_ h3 h4 h5
    unfold OwnL
    rw [Nat.add_mul, ← numL_cat]
    exact h2
end Go.Proofs.Ytbngdlbecdloiaa
namespace Go.Proofs.Ytbngdlbecdloiaa
open Go.RowKit
set_option linter.unusedVariables false
set_option linter.unusedSimpArgs false

set_option maxHeartbeats 2000000 in
theorem sBoxOk_any (a b c d : Int) (w : World) :
    Calls Try.prog 28 #[b4 a b c d] w fun e w' => e = .returned (.bool (bokB a b c d)) ∧ Below w.heap.size w w' := by
  have hset := cset_map
  go_enter Try.func28, Try.ntmps28
  go_wp2_with (go_at_call 53; refine (sVecOk_any _ _ _).mono ?_; rintro e w1 ⟨rfl, hb1⟩; obtain ⟨hc1, hf1⟩ := bcell hb1; have hl1 := blt hb1; have hz1 := hb1.size; (try simp only [World.size_drew, World.size_alloc, World.size_setCell] at hc1 hf1 hl1 hz1); (try have hq1x0 : w.heap.size < w1.heap.size := (by omega)))
  all_goals
    go_ret
    refine ⟨ret_bool ?_, bel_a⟩
    unfold bokB leB
    first | (simp [*]; done) | (simp at *; simp [*]; done) | (simp at *; omega)

end Go.Proofs.Ytbngdlbecdloiaa
namespace Go.Proofs.Ytbngdlbecdloiaa
open Go.RowKit
set_option linter.unusedVariables false
set_option linter.unusedSimpArgs false

end Go.Proofs.Ytbngdlbecdloiaa
namespace Go.Proofs.Ytbngdlbecdloiaa
open Go.RowKit
set_option linter.unusedVariables false
set_option linter.unusedSimpArgs false
abbrev itemW (V : Nat → Int) : Value := .agg #[.int .i64 (V 0), .int .i64 (V 1), .int .i64 (V 2), .int .i64 (V 3), .int .i64 (V 4)]
abbrev zeroI : Value := .agg #[.int .i64 0, .int .i64 0, .int .i64 0, .int .i64 0, .int .i64 0]
theorem makeItems (n : Nat) (hn : n ≤ 1048576) (w : World) : (Instr.makeSlice 23 (.int .i64 (n : Int)) (.int .i64 (n : Int))).run Try.prog w = .ok (.slice (some ⟨w.heap.size, 0, none⟩) n n) (w.alloc (.cells (madeCells zeroI.cells (n * 5)) 31)) :=
  make_rows _ _ zeroI 5 40 Try.underlying23 (by kernel_rfl) _ _ n (by omega) (by omega) w
end Go.Proofs.Ytbngdlbecdloiaa
namespace Go.Proofs.Ytbngdlbecdloiaa
open Go.RowKit
set_option linter.unusedVariables false
set_option linter.unusedSimpArgs false

end Go.Proofs.Ytbngdlbecdloiaa
namespace Go.Proofs.Ytbngdlbecdloiaa
set_option linter.unusedVariables false
/-- a table of nodes: a leaf's item; or the two nodes under it -/
structure Tab4 where
  leaf : Nat → Option Nat
  left : Nat → Nat
  right : Nat → Nat
/-- the items under a node, in the tree's order -/
inductive Cov (T : Tab4) : Nat → List Nat → Prop
  | leaf {k i} : T.leaf k = some i → Cov T k [i]
  | node {k a b} : T.leaf k = none → Cov T (T.left k) a → Cov T (T.right k) b → Cov T k (a ++ b)
theorem Cov.pos {T : Tab4} {k : Nat} {c : List Nat} (h : Cov T k c) : 0 < c.length := by
  induction h with
  | leaf _ => simp
  | node _ _ _ ha hb => simp; omega
/-- tables that agree at all nodes below m -/
structure Same4 (m : Nat) (T U : Tab4) : Prop where
  leaf : ∀ k, k < m → T.leaf k = U.leaf k
  left : ∀ k, k < m → T.left k = U.left k
  right : ∀ k, k < m → T.right k = U.right k
/-- each node stands behind those under it -/
def Down (m : Nat) (T : Tab4) : Prop := ∀ k, k < m → T.leaf k = none → T.left k < k ∧ T.right k < k
theorem Cov.same {T U : Tab4} {m : Nat} (s : Same4 m T U) (d : Down m T) {k : Nat} {c : List Nat} (h : Cov T k c) (hk : k < m) : Cov U k c := by
  induction h with
  | leaf e => exact .leaf (by rw [← s.leaf _ hk]; exact e)
  | node e _ _ ha hb =>
    obtain ⟨d1, d2⟩ := d _ hk e
    refine .node (by rw [← s.leaf _ hk]; exact e) ?_ ?_
    · rw [← s.left _ hk]; exact ha (by omega)
    · rw [← s.right _ hk]; exact hb (by omega)
/-- what is under the nodes of a stack, the top first -/
inductive Covs (T : Tab4) : List Nat → List (List Nat) → Prop
  | nil : Covs T [] []
  | cons {k o c cs} : Cov T k c → Covs T o cs → Covs T (k :: o) (c :: cs)
/-- how much is left to do -/
def todo : List (List Nat) → Nat
  | [] => 0
  | c :: cs => (2 * c.length - 1) + todo cs
/-- while it is looked for: what is found, and what is under the stack, is what is wanted -/
structure Look (T : Tab4) (M : Nat → Bool) (want found open_ : List Nat) (cs : List (List Nat)) : Prop where
  cov : Covs T open_ cs
  perm : (found ++ cs.flatten.filter M).Perm want
theorem Look.start {T : Tab4} {M : Nat → Bool} {k : Nat} {c : List Nat} (h : Cov T k c) : Look T M (c.filter M) [] [k] [c] :=
  ⟨.cons h .nil, by simp⟩
theorem Look.done {T : Tab4} {M : Nat → Bool} {want found : List Nat} {cs : List (List Nat)} (h : Look T M want found [] cs) : found.Perm want := by
  obtain ⟨hc, hp⟩ := h
  cases hc
  simpa using hp
/-- nothing of it meets -/
theorem Look.skip {T : Tab4} {M : Nat → Bool} {want found o : List Nat} {k : Nat} {cs : List (List Nat)} (h : Look T M want found (k :: o) cs) (hA : ∀ c, Cov T k c → ∀ i ∈ c, M i = false) :
    ∃ cs', Look T M want found o cs' ∧ todo cs' < todo cs := by
  obtain ⟨hc, hp⟩ := h
  cases hc with
  | @cons _ _ c cs hk ho =>
    refine ⟨cs, ⟨ho, ?_⟩, by have := hk.pos; simp only [todo]; omega⟩
    have e : c.filter M = [] := by
      rw [List.filter_eq_nil_iff]
      intro i hi
      rw [hA c hk i hi]; simp
    simpa [e] using hp
/-- a leaf that meets, or does not -/
theorem Look.leaf {T : Tab4} {M : Nat → Bool} {want found o : List Nat} {k i : Nat} {cs : List (List Nat)} (h : Look T M want found (k :: o) cs) (hl : T.leaf k = some i) :
    ∃ cs', Look T M want (if M i then found ++ [i] else found) o cs' ∧ todo cs' < todo cs := by
  obtain ⟨hc, hp⟩ := h
  cases hc with
  | @cons _ _ c cs hk ho =>
    cases hk with
    | node e _ _ => rw [hl] at e; cases e
    | leaf e =>
      rw [hl] at e
      obtain rfl := Option.some.inj e
      refine ⟨cs, ⟨ho, ?_⟩, by simp only [todo, List.length_cons, List.length_nil]; omega⟩
      cases hM : M i with
      | false => simpa [hM] using hp
      | true => simpa [hM] using hp
/-- a node: both under it are put on the stack, the right one on top -/
theorem Look.node {T : Tab4} {M : Nat → Bool} {want found o : List Nat} {k : Nat} {cs : List (List Nat)} (h : Look T M want found (k :: o) cs) (hl : T.leaf k = none) :
    ∃ cs', Look T M want found (T.right k :: T.left k :: o) cs' ∧ todo cs' < todo cs := by
  obtain ⟨hc, hp⟩ := h
  cases hc with
  | @cons _ _ c cs hk ho =>
    cases hk with
    | leaf e => rw [hl] at e; cases e
    | @node _ a b e ha hb =>
      refine ⟨b :: a :: cs, ⟨.cons hb (.cons ha ho), ?_⟩, ?_⟩
      · refine List.Perm.trans ?_ hp
        simp only [List.flatten_cons, List.filter_append, ← List.append_assoc]
        refine List.Perm.append_right _ ?_
        rw [List.append_assoc, List.append_assoc]
        exact List.Perm.append_left _ List.perm_append_comm
      · have p1 := ha.pos
        have p2 := hb.pos
        simp only [todo, List.length_append]
        omega
/-- ascending without the same twice: one list alone -/
theorem asc_eq : ∀ {l m : List Nat}, l.Pairwise (· < ·) → m.Pairwise (· < ·) → l.Perm m → l = m
  | [], m, _, _, h => by rw [List.nil_perm.1 h]
  | a :: l, [], _, _, h => by simpa using h.length_eq
  | a :: l, b :: m, hl, hm, h => by
    rw [List.pairwise_cons] at hl hm
    have hab : a = b := by
      have h1 : a ∈ b :: m := h.subset (List.mem_cons_self ..)
      have h2 : b ∈ a :: l := h.symm.subset (List.mem_cons_self ..)
      rcases List.mem_cons.1 h1 with e | e
      · exact e
      · rcases List.mem_cons.1 h2 with f | f
        · exact f.symm
        · have := hl.1 b f
          have := hm.1 a e
          omega
    subst hab
    rw [asc_eq hl.2 hm.2 (List.Perm.cons_inv h)]
/-- what is found, put in order, is what the specification goes over -/
theorem found_eq {M : Nat → Bool} {n : Nat} {c found out : List Nat} (hc : c.Perm (List.range n)) (hf : found.Perm (c.filter M)) (ho : out.Perm found) (hs : out.Pairwise (· ≤ ·)) : out = (List.range n).filter M := by
  have hp : out.Perm ((List.range n).filter M) := ho.trans (hf.trans (hc.filter M))
  have hr : ((List.range n).filter M).Pairwise (· < ·) := List.Pairwise.filter _ List.pairwise_lt_range
  have hn : out.Nodup := hp.nodup_iff.2 (hr.imp (fun h => Nat.ne_of_lt h))
  refine asc_eq ?_ hr hp
  exact (hs.and hn).imp (fun h => Nat.lt_of_le_of_ne h.1 h.2)
end Go.Proofs.Ytbngdlbecdloiaa
namespace Go.Proofs.Ytbngdlbecdloiaa
open Go.RowKit
set_option linter.unusedVariables false
set_option linter.unusedSimpArgs false

def ptB (a b c d x y : Int) : Bool := decide ((a ≤ x ∧ x ≤ c) ∧ (b ≤ y ∧ y ≤ d))
set_option maxHeartbeats 1000000 in
theorem l3Meets_any (a b c d r s t u : Int) (w : World) :
    Calls Try.prog 52 #[b4 a b c d, b4 r s t u] w fun e w' => e = .returned (.bool (leB a b t u && leB r s c d)) ∧ Below w.heap.size w w' := by
  have hset := cset_map
  go_enter Try.func52, Try.ntmps52
  go_wp2
  all_goals
    go_ret
    refine ⟨ret_bool ?_, bel_a⟩
    unfold leB
    first | (simp [*]; done) | (simp at *; omega) | (simp [*]; omega)

end Go.Proofs.Ytbngdlbecdloiaa
namespace Go.Proofs.Ytbngdlbecdloiaa
open Go.RowKit
set_option linter.unusedVariables false
set_option linter.unusedSimpArgs false
theorem markPair2 {w wr : World} {base g n c j : Nat} {U : Nat → Int} (hlt : j < n) (ho : OwnL wr base 48 2 (.slice (some ⟨g, 0, none⟩) n c) n (mixU (j * 2) U)) (hg : w.grownBy wr (Value.slice (some ⟨g, 0, none⟩) n c).ownBlock) :
    OwnL ((wr.setCell ⟨g, j * 2, none⟩ (.int .i64 (1 + (j : Int) * 2))).setCell ⟨g, j * 2 + 1, none⟩ (.int .i64 (1 + (j : Int) * 2 + 1))) base 48 2 (.slice (some ⟨g, 0, none⟩) n c) n (mixU ((j + 1) * 2) U) ∧
    w.grownBy ((wr.setCell ⟨g, j * 2, none⟩ (.int .i64 (1 + (j : Int) * 2))).setCell ⟨g, j * 2 + 1, none⟩ (.int .i64 (1 + (j : Int) * 2 + 1))) (Value.slice (some ⟨g, 0, none⟩) n c).ownBlock := by
  have q1 := ho.mark (by omega) (x := 1 + (j : Int) * 2) (by omega)
  have q2 := q1.mark (by omega) (x := 1 + (j : Int) * 2 + 1) (by omega)
  refine ⟨?_, ?_⟩
  · exact q2.congr fun q _ => by rw [show j * 2 + 1 + 1 = ((j + 1) * 2) from by omega]
  · have h0 : w.grownBy wr (some g) := hg
    exact (grown_trans (grown_trans h0 (grown_setG _ _ _ _)) (grown_setG _ _ _ _))
abbrev pairW (V : Nat → Int) : Value := .agg #[.int .i64 (V 0), .int .i64 (V 1)]
end Go.Proofs.Ytbngdlbecdloiaa
