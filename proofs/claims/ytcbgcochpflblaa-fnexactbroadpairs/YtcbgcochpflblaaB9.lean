/- A tree that is grown: what its table is like. A tree is grown over places. The tree over some items. Where slices.Sort and all that it calls lie in this program. A list of numbers in memory of its own, put in order. The contracts of VecMul, VecDot and VecLen. -/
import Derived.Test.YtcbgcochpflblaaB8
import Derived.Deep.RegionHeld3
import Derived.Deep.DeepCutAuto
import Derived.Shelf.Sort.Plain
import Derived.Test.YtcbgcochpflblaaProg
import Derived.Deep.AppendLies
import Derived.Sort.OwnSortedInts
import Derived.Shelf.Slices.In.SortNone
import Derived.Test.YtcbgcochpflblaaB1
import Derived.Deep.QuietTactic
import Derived.BigQuiet
import Derived.Deep.RegionWith
namespace Go.Proofs.Ytcbgcochpflblaa
open Go.RowKit
set_option linter.unusedVariables false
set_option linter.unusedSimpArgs false
/-- the table of nodes -/
def tab (D : Nat → Int) : Tab4 := ⟨fun k => if D (k * 8 + 4) = 1 then some (D (k * 8 + 5)).toNat else none, fun k => (D (k * 8 + 6)).toNat, fun k => (D (k * 8 + 7)).toNat⟩
/-- the box of place i lies in four numbers -/
def InA (U : Nat → Int) (a b c d : Int) (i : Nat) : Prop := a ≤ U (i * 5 + 1) ∧ b ≤ U (i * 5 + 2) ∧ U (i * 5 + 3) ≤ c ∧ U (i * 5 + 4) ≤ d
structure Good (N : Nat) (U : Nat → Int) (m : Nat) (D : Nat → Int) : Prop where
  bd : ∀ k, k < m → B2 (D (k * 8)) ∧ B2 (D (k * 8 + 1)) ∧ B2 (D (k * 8 + 2)) ∧ B2 (D (k * 8 + 3))
  leaf : ∀ k, k < m → D (k * 8 + 4) = 1 → 0 ≤ D (k * 8 + 5) ∧ D (k * 8 + 5) < (N : Int) ∧ InA U (D (k * 8)) (D (k * 8 + 1)) (D (k * 8 + 2)) (D (k * 8 + 3)) (D (k * 8 + 5)).toNat
  node : ∀ k, k < m → ¬ D (k * 8 + 4) = 1 → 0 ≤ D (k * 8 + 6) ∧ D (k * 8 + 6) < (k : Int) ∧ 0 ≤ D (k * 8 + 7) ∧ D (k * 8 + 7) < (k : Int) ∧
    (∀ j, j = (D (k * 8 + 6)).toNat ∨ j = (D (k * 8 + 7)).toNat → D (k * 8) ≤ D (j * 8) ∧ D (k * 8 + 1) ≤ D (j * 8 + 1) ∧ D (j * 8 + 2) ≤ D (k * 8 + 2) ∧ D (j * 8 + 3) ≤ D (k * 8 + 3))
theorem Good.zero (N : Nat) (U D : Nat → Int) : Good N U 0 D := ⟨fun _ h => absurd h (Nat.not_lt_zero _), fun _ h => absurd h (Nat.not_lt_zero _), fun _ h => absurd h (Nat.not_lt_zero _)⟩
theorem Good.down {N : Nat} {U : Nat → Int} {m : Nat} {D : Nat → Int} (h : Good N U m D) : Down m (tab D) := by
  intro k hk e
  have hn : ¬ D (k * 8 + 4) = 1 := by
    intro q
    simp only [tab, if_pos q] at e
    cases e
  obtain ⟨a, b, c, d, _⟩ := h.node k hk hn
  simp only [tab]
  omega
theorem Good.congr {N : Nat} {U : Nat → Int} {m : Nat} {D E : Nat → Int} (h : Good N U m D) (e : ∀ q, q < m * 8 → D q = E q) : Good N U m E := by
  refine ⟨fun k hk => ?_, fun k hk => ?_, fun k hk => ?_⟩
  · rw [← e (k * 8) (by omega), ← e (k * 8 + 1) (by omega), ← e (k * 8 + 2) (by omega), ← e (k * 8 + 3) (by omega)]
    exact h.bd k hk
  · rw [← e (k * 8) (by omega), ← e (k * 8 + 1) (by omega), ← e (k * 8 + 2) (by omega), ← e (k * 8 + 3) (by omega), ← e (k * 8 + 4) (by omega), ← e (k * 8 + 5) (by omega)]
    exact h.leaf k hk
  · rw [← e (k * 8) (by omega), ← e (k * 8 + 1) (by omega), ← e (k * 8 + 2) (by omega), ← e (k * 8 + 3) (by omega), ← e (k * 8 + 4) (by omega), ← e (k * 8 + 6) (by omega), ← e (k * 8 + 7) (by omega)]
    intro hn
    obtain ⟨a, b, c, d, f⟩ := h.node k hk hn
    refine ⟨a, b, c, d, fun j hj => ?_⟩
    have hjk : j < k := by omega
    rw [← e (j * 8) (by omega), ← e (j * 8 + 1) (by omega), ← e (j * 8 + 2) (by omega), ← e (j * 8 + 3) (by omega)]
    exact f j hj
theorem Same4.of {m : Nat} {D E : Nat → Int} (e : ∀ q, q < m * 8 → D q = E q) : Same4 m (tab D) (tab E) :=
  ⟨fun k hk => by simp only [tab]; rw [e (k * 8 + 4) (by omega), e (k * 8 + 5) (by omega)], fun k hk => by simp only [tab]; rw [e (k * 8 + 6) (by omega)], fun k hk => by simp only [tab]; rw [e (k * 8 + 7) (by omega)]⟩
/-- one node more -/
def more (D V : Nat → Int) (m : Nat) : Nat → Int := fun q => if q < m * 8 then D q else V (q - m * 8)
theorem more_old {D V : Nat → Int} {m q : Nat} (h : q < m * 8) : more D V m q = D q := if_pos h
theorem more_new {D V : Nat → Int} {m : Nat} (j : Nat) : more D V m (m * 8 + j) = V j := by unfold more; rw [if_neg (by omega)]; congr 1; omega
theorem more_new0 {D V : Nat → Int} {m : Nat} : more D V m (m * 8) = V 0 := more_new 0
theorem Good.more {N : Nat} {U : Nat → Int} {m : Nat} {D V : Nat → Int} (h : Good N U m D) (hb : B2 (V 0) ∧ B2 (V 1) ∧ B2 (V 2) ∧ B2 (V 3))
    (hl : V 4 = 1 → 0 ≤ V 5 ∧ V 5 < (N : Int) ∧ InA U (V 0) (V 1) (V 2) (V 3) (V 5).toNat)
    (hn : ¬ V 4 = 1 → 0 ≤ V 6 ∧ V 6 < (m : Int) ∧ 0 ≤ V 7 ∧ V 7 < (m : Int) ∧ (∀ j, j = (V 6).toNat ∨ j = (V 7).toNat → V 0 ≤ D (j * 8) ∧ V 1 ≤ D (j * 8 + 1) ∧ D (j * 8 + 2) ≤ V 2 ∧ D (j * 8 + 3) ≤ V 3)) :
    Good N U (m + 1) (more D V m) := by
  have hc := h.congr (E := Go.Proofs.Ytcbgcochpflblaa.more D V m) fun q hq => (more_old hq).symm
  refine ⟨fun k hk => ?_, fun k hk => ?_, fun k hk => ?_⟩
  · rcases Nat.lt_succ_iff_lt_or_eq.1 hk with q | rfl
    · exact hc.bd k q
    · rw [more_new0, more_new, more_new, more_new]; exact hb
  · rcases Nat.lt_succ_iff_lt_or_eq.1 hk with q | rfl
    · exact hc.leaf k q
    · rw [more_new0, more_new, more_new, more_new, more_new, more_new]; exact hl
  · rcases Nat.lt_succ_iff_lt_or_eq.1 hk with q | rfl
    · exact hc.node k q
    · rw [more_new0, more_new, more_new, more_new, more_new, more_new, more_new]
      intro q
      obtain ⟨a, b, c, d, f⟩ := hn q
      refine ⟨a, b, c, d, fun j hj => ?_⟩
      have hjm : j < k := by omega
      rw [more_old (by omega), more_old (by omega), more_old (by omega), more_old (by omega)]
      exact f j hj
/-- what is under a node lies in it -/
theorem Good.cov {N : Nat} {U : Nat → Int} {m : Nat} {D : Nat → Int} (h : Good N U m D) {k : Nat} {c : List Nat} (hc : Cov (tab D) k c) (hk : k < m) : ∀ i ∈ c, InA U (D (k * 8)) (D (k * 8 + 1)) (D (k * 8 + 2)) (D (k * 8 + 3)) i ∧ i < N := by
  induction hc with
  | @leaf k i e =>
    intro j hj
    simp only [tab] at e
    split at e
    · rename_i hl
      obtain ⟨a, b, f⟩ := h.leaf k hk hl
      obtain rfl := Option.some.inj e
      rw [List.mem_singleton] at hj
      subst hj
      exact ⟨f, by omega⟩
    · cases e
  | @node k a b e ha hb iha ihb =>
    have hn : ¬ D (k * 8 + 4) = 1 := by
      intro q
      simp only [tab, if_pos q] at e
      cases e
    obtain ⟨h1, h2, h3, h4, f⟩ := h.node k hk hn
    intro i hi
    have key : ∀ j, j = (D (k * 8 + 6)).toNat ∨ j = (D (k * 8 + 7)).toNat → InA U (D (j * 8)) (D (j * 8 + 1)) (D (j * 8 + 2)) (D (j * 8 + 3)) i → InA U (D (k * 8)) (D (k * 8 + 1)) (D (k * 8 + 2)) (D (k * 8 + 3)) i := by
      intro j hj ⟨q1, q2, q3, q4⟩
      obtain ⟨f1, f2, f3, f4⟩ := f j hj
      exact ⟨by omega, by omega, by omega, by omega⟩
    rcases List.mem_append.1 hi with hi | hi
    · obtain ⟨q, r⟩ := iha (by simp only [tab]; omega) i hi
      exact ⟨key _ (.inl rfl) q, r⟩
    · obtain ⟨q, r⟩ := ihb (by simp only [tab]; omega) i hi
      exact ⟨key _ (.inr rfl) q, r⟩
theorem Cov.more {N : Nat} {U : Nat → Int} {m : Nat} {D V : Nat → Int} (h : Good N U m D) {k : Nat} {c : List Nat} (hc : Cov (tab D) k c) (hk : k < m) : Cov (tab (more D V m)) k c :=
  hc.same (Same4.of fun q hq => (more_old hq).symm) h.down hk
/-- the places of a row -/
def plc (V : Nat → Int) (n : Nat) : List Nat := (List.range n).map fun i => (V i).toNat
theorem Sw.plc {n : Nat} {V U : Nat → Int} (h : Sw n V U) : (plc U n).Perm (plc V n) := by
  have := (h.perm).map Int.toNat
  simpa [Go.Proofs.Ytcbgcochpflblaa.plc, List.map_map, Function.comp_def] using this
theorem plc_split (V : Nat → Int) (a b : Nat) : plc V (a + b) = plc V a ++ plc (fun i => V (a + i)) b := by
  unfold plc
  rw [List.range_add, List.map_append, List.map_map]
  rfl
end Go.Proofs.Ytcbgcochpflblaa
namespace Go.Proofs.Ytcbgcochpflblaa
open Go.RowKit
set_option linter.unusedVariables false
set_option linter.unusedSimpArgs false
def B1 (a : Int) : Prop := -1000000000 ≤ a ∧ a ≤ 1000000000
def nodeV (a b c d : Int) (L R : Nat) : Nat → Int := fun j => match j with
  | 0 => a
  | 1 => b
  | 2 => c
  | 3 => d
  | 4 => 0
  | 5 => 0
  | 6 => (L : Int)
  | 7 => (R : Int)
  | _ => 0
theorem Gro.add {lb off n tb base : Nat} {a b : World} (h : ∀ k, k < base → k ≠ tb → b.heap[k]? = a.heap[k]?) (e : b.os = a.os ∧ b.tape = a.tape ∧ b.output = a.output ∧ a.heap.size ≤ b.heap.size) (hlb : lb < base) (hne : tb ≠ lb) : Gro lb off n tb base a b :=
  ⟨e.1, e.2.1, e.2.2.1, e.2.2.2, fun k h1 h2 _ => h k h1 h2, fun i _ => World.cell?_of_block (a := ⟨lb, i, none⟩) (h lb hlb (Ne.symm hne)), fun i => World.frozen?_of_block (a := ⟨lb, i, none⟩) (h lb hlb (Ne.symm hne))⟩
theorem mn_B2 {x y : Int} (hx : B2 x) (hy : B2 y) : B2 (mn x y) := mn_bd hx hy
theorem mx_B2 {x y : Int} (hx : B2 x) (hy : B2 y) : B2 (mx x y) := mx_bd hx hy
theorem mn_l (x y : Int) : mn x y ≤ x := by unfold mn; split <;> omega
theorem mn_r (x y : Int) : mn x y ≤ y := by unfold mn; split <;> omega
theorem mx_l (x y : Int) : x ≤ mx x y := by unfold mx; split <;> omega
theorem mx_r (x y : Int) : y ≤ mx x y := by unfold mx; split <;> omega
/-- what growing answers -/
def Grown (base tb lb : Nat) (ai : Option Addr) (N ci : Nat) (U : Nat → Int) (n off m : Nat) (V D : Nat → Int) (w w' : World) : Prop :=
  ∃ v' D', TW w' base tb ai N ci v' (m + 2 * n - 1) D' ∧ Good N U (m + 2 * n - 1) D' ∧ (∀ q, q < m * 8 → D' q = D q) ∧ (∃ c, Cov (tab D') (m + 2 * n - 2) c ∧ c.Perm (plc V n)) ∧ Gro lb off n tb base w w'
set_option maxRecDepth 20000 in
set_option maxHeartbeats 1000000 in
theorem grow_one (base tb lb : Nat) (ai : Option Addr) (N ci : Nat) (U : Nat → Int) (hU : ∀ q, q < N * 5 → B1 (U q)) (hE : Els ai tb lb base) (htb : tb < base) (hlb : lb < base) (hne : tb ≠ lb) (n off cap m : Nat) (v : Value) (V D : Nat → Int) (w : World) (h1 : 1 ≤ n) (hcp : n ≤ cap) (hm : m + 2 * n ≤ 1000) (hR : Rwo w lb off n V) (hV : (∀ i, i < n → 0 ≤ V i ∧ V i < (N : Int))) (hF : Flat w ai (N * 5) U) (hT : TW w base tb ai N ci v m D) (hG : Good N U m D) (hb : base ≤ w.heap.size) (h2 : n = 1) :
    Calls Try.prog 33 #[.pointer (some ⟨tb, 0, none⟩), .slice (some ⟨lb, off, none⟩) n cap] w fun e w' => e = .returned (.int .i64 ((m + 2 * n - 2 : Nat) : Int)) ∧ Grown base tb lb ai N ci U n off m V D w w' := by
  subst h2
  obtain ⟨hV0, hV1⟩ := hV 0 (by omega)
  obtain ⟨p, hp⟩ := Int.eq_ofNat_of_zero_le hV0
  obtain ⟨b, o, rfl, hbl, hc⟩ := hF (by omega)
  have r0 := hR.cell 0 (by omega)
  rw [hp, Nat.add_zero] at r0
  have hpN : p < N := by omega
  obtain ⟨u1, u1'⟩ := hU (p * 5 + 1) (by omega)
  obtain ⟨u2, u2'⟩ := hU (p * 5 + 2) (by omega)
  obtain ⟨u3, u3'⟩ := hU (p * 5 + 3) (by omega)
  obtain ⟨u4, u4'⟩ := hU (p * 5 + 4) (by omega)
  go_enter Try.func33, Try.ntmps33
  go_wp2_with fail
  refine (leafOf_any tb b o N ci U p _ hpN hc hT.c0 (fun q hq => ⟨by have := (hU q hq).1; omega, by have := (hU q hq).2; omega⟩)).mono ?_; rintro e w1 ⟨rfl, hb1⟩
  go_wp2_with fail
  refine (add_any base tb _ N ci v m D (leafV U p) true _ (hT.below hb1) rfl (by omega) (Nat.le_trans hb hb1.size) htb).mono ?_; rintro e w2 ⟨rfl, v2, hT2, hk2, ho2⟩
  go_wp2_with fail
  go_ret
  have hGr : Gro lb off 1 tb base w w2 := (Gro.below hb1 (Nat.lt_of_lt_of_le hlb hb) hb).trans (Gro.add hk2 ho2 hlb hne) (Nat.le_refl _) (Nat.le_refl _)
  refine ⟨rfl, v2, more D (leafV U p) m, hT2, hG.more ⟨⟨by show _ ≤ _ - _; omega, by show _ - _ ≤ _; omega⟩, ⟨by show _ ≤ _ - _; omega, by show _ - _ ≤ _; omega⟩, ⟨by show _ ≤ _ + _; omega, by show _ + _ ≤ _; omega⟩, ⟨by show _ ≤ _ + _; omega, by show _ + _ ≤ _; omega⟩⟩ (fun _ => ⟨by show 0 ≤ (p : Int); omega, by show (p : Int) < _; omega, ?_⟩) (fun q => absurd rfl q), fun q hq => more_old hq, ⟨[p], .leaf ?_, ?_⟩, hGr⟩
  · show InA U (U (p * 5 + 1) - 256) (U (p * 5 + 2) - 256) (U (p * 5 + 3) + 256) (U (p * 5 + 4) + 256) p
    exact ⟨by omega, by omega, by omega, by omega⟩
  · have e4 : more D (leafV U p) m (m * 8 + 4) = 1 := more_new 4
    have e5 : more D (leafV U p) m (m * 8 + 5) = (p : Int) := more_new 5
    show (if more D (leafV U p) m ((m + 2 * 1 - 2) * 8 + 4) = 1 then _ else none) = _
    rw [show m + 2 * 1 - 2 = m by omega, e4, if_pos rfl, e5]
    rfl
  · show [p].Perm [(V 0).toNat]
    rw [hp]; exact List.Perm.refl _
set_option maxRecDepth 20000 in
set_option maxHeartbeats 1000000 in
theorem treeGrow_any (base tb lb : Nat) (ai : Option Addr) (N ci : Nat) (U : Nat → Int) (hU : ∀ q, q < N * 5 → B1 (U q)) (hE : Els ai tb lb base) (htb : tb < base) (hlb : lb < base) (hne : tb ≠ lb) (d : Nat) : ∀ (n off cap m : Nat) (v : Value) (V D : Nat → Int) (w : World), n ≤ d → 1 ≤ n → n ≤ cap → m + 2 * n ≤ 1000 → Rwo w lb off n V → (∀ i, i < n → 0 ≤ V i ∧ V i < (N : Int)) → Flat w ai (N * 5) U → TW w base tb ai N ci v m D → Good N U m D → base ≤ w.heap.size →
    Calls Try.prog 33 #[.pointer (some ⟨tb, 0, none⟩), .slice (some ⟨lb, off, none⟩) n cap] w fun e w' => e = .returned (.int .i64 ((m + 2 * n - 2 : Nat) : Int)) ∧ Grown base tb lb ai N ci U n off m V D w w' := by
  induction d with
  | zero => intro n off cap m v V D w h0 h1; omega
  | succ d ih =>
    intro n off cap m v V D w hd h1 hcp hm hR hV hF hT hG hb
    by_cases h2 : n = 1
    · exact grow_one base tb lb ai N ci U hU hE htb hlb hne n off cap m v V D w h1 hcp hm hR hV hF hT hG hb h2
    have hnn : ¬ ((n : Int) = 1) := by omega
    have hnq : ((n : Int) == 1) = false := beq_eq_false_iff_ne.2 hnn
    have hnq2 : (n == 1) = false := beq_eq_false_iff_ne.2 h2
    obtain ⟨hf, hhf⟩ : ∃ hf, n / 2 = hf := ⟨_, rfl⟩
    obtain ⟨hr, hhr⟩ : ∃ hr, n - hf = hr := ⟨_, rfl⟩
    obtain ⟨cr, hcr⟩ : ∃ cr, cap - hf = cr := ⟨_, rfl⟩
    have hq1 : Int.tdiv (n : Int) 2 = (hf : Int) := by rw [Int.tdiv_eq_ediv_of_nonneg (by omega)]; omega
    have hq2 : IntKind.i64.wrap (hf : Int) = (hf : Int) := i64w (by omega)
    have hlw : lb < w.heap.size := Nat.lt_of_lt_of_le hlb hb
    go_enter Try.func33, Try.ntmps33
    go_upto_region 4 with (go_at_call 43; refine (sortAlong_any tb lb off n cap ai N ci U V _ hF hR hV hlw (by omega) h1 (fun wr hr => hF.gro hE (Gro.trn hr hb)) (fun q hq => ⟨by have := (hU q hq).1; omega, by have := (hU q hq).2; omega⟩) hT.c0 hne).mono ?_; rintro e w1 ⟨rfl, ⟨⟨V1, hSw, hR1⟩, hTr⟩⟩)
    have hG1 : Gro lb off n tb base w w1 := Gro.trn hTr hb
    have hT1 : TW w1 base tb ai N ci v m D := hT.keep (hTr.but.block _ (cell_lt hT.c0) hne) fun k hk hk2 => hTr.but.block k hk2 (by omega)
    have hV1 := hSw.all (P := fun x => 0 ≤ x ∧ x < (N : Int)) hV
    have hF1 := hF.gro hE hG1
    have hb1 : base ≤ w1.heap.size := Nat.le_trans hb hG1.size
    obtain ⟨L, hL⟩ : ∃ L, m + 2 * hf - 2 = L := ⟨_, rfl⟩
    obtain ⟨Q, hQ⟩ : ∃ Q, m + 2 * n - 3 = Q := ⟨_, rfl⟩
    obtain ⟨m1, hm1⟩ : ∃ m1, m + 2 * hf - 1 = m1 := ⟨_, rfl⟩
    obtain ⟨m2, hm2⟩ : ∃ m2, m + 2 * n - 2 = m2 := ⟨_, rfl⟩
    go_upto_region 5 with fail
    go_cut [6] (fun s wc => s = .int .i64 (L : Int) ∧ Grown base tb lb ai N ci U hf off m V1 D w1 wc)
    case first =>
      go_wp2_with fail
      refine (ih hf off cap m v V1 D w1 (by omega) (by omega) (by omega) (by omega) ⟨fun i hi => hR1.cell i (by omega), fun i hi => hR1.free i (by omega)⟩ (fun i hi => hV1 i (by omega)) hF1 hT1 hG hb1).mono ?_
      rw [hL]
      rintro e w2 ⟨rfl, hgr⟩
      go_wp2_with fail
      go_meet
      exact ⟨rfl, hgr⟩
    case rest =>
    obtain ⟨rfl, v1, D1, hT2, hG2, ho2, ⟨c1, hc1, hp1⟩, hGr2⟩ := hcut
    rw [hm1] at hT2 hG2
    rw [hL] at hc1
    obtain ⟨w2, rfl⟩ : ∃ x, x = wc := ⟨_, rfl⟩
    have hF2 := hF1.gro hE hGr2
    have hb2 : base ≤ w2.heap.size := Nat.le_trans hb1 hGr2.size
    have hR2 : Rwo w2 lb (off + hf) hr (fun i => V1 (hf + i)) := hGr2.row ⟨fun i hi => by rw [Nat.add_assoc]; exact hR1.cell (hf + i) (by omega), fun i hi => by rw [Nat.add_assoc]; exact hR1.free (hf + i) (by omega)⟩ (.inr (Nat.le_refl _))
    go_upto_region 6 with fail
    go_cut [7] (fun s wc => s = .int .i64 (Q : Int) ∧ Grown base tb lb ai N ci U hr (off + hf) m1 (fun i => V1 (hf + i)) D1 w2 wc)
    case first =>
      go_wp2_with fail
      refine (ih hr (off + hf) cr m1 v1 (fun i => V1 (hf + i)) D1 w2 (by omega) (by omega) (by omega) (by omega) hR2 (fun i hi => hV1 (hf + i) (by omega)) hF2 hT2 hG2 hb2).mono ?_
      rw [show m1 + 2 * hr - 2 = Q by omega]
      rintro e w3 ⟨rfl, hgr⟩
      go_wp2_with fail
      go_meet
      exact ⟨rfl, hgr⟩
    case rest =>
    obtain ⟨rfl, v2, D2, hT3, hG3, ho3, ⟨c2, hc2, hp2⟩, hGr3⟩ := hcut
    rw [show m1 + 2 * hr - 1 = m2 by omega] at hT3 hG3
    rw [show m1 + 2 * hr - 2 = Q by omega] at hc2
    obtain ⟨w3, rfl⟩ : ∃ x, x = wc := ⟨_, rfl⟩
    have hb3 : base ≤ w3.heap.size := Nat.le_trans hb2 hGr3.size
    have hbL := hG3.bd L (by omega)
    have hbQ := hG3.bd Q (by omega)
    obtain ⟨-, rfl⟩ | ⟨g, cg, rfl⟩ := hT3.nl.is
    · exfalso
      have := hT3.nl.1
      have h0 := hT3.nl.2
      rcases h0 with ⟨_, q⟩ | ⟨g, cap, cur, hv, _⟩
      · omega
      · cases hv
    obtain ⟨a0, a1, a2, a3, -⟩ := hT3.nl.cells (q := L) (by omega)
    obtain ⟨d0, d1, d2, d3, -⟩ := hT3.nl.cells (q := Q) (by omega)
    have t1 := hT3.c1
    have iL : (L : Int) < (m2 : Int) := by omega
    have iQ : (Q : Int) < (m2 : Int) := by omega
    have FF : ∀ w', Below w3.heap.size w3 w' → w'.cell? ⟨tb, 1, none⟩ = some (.slice (some ⟨g, 0, none⟩) m2 cg) ∧ w'.cell? ⟨g, L * 8, none⟩ = some (.int .i64 (D2 (L * 8))) ∧ w'.cell? ⟨g, L * 8 + 1, none⟩ = some (.int .i64 (D2 (L * 8 + 1))) ∧ w'.cell? ⟨g, L * 8 + 2, none⟩ = some (.int .i64 (D2 (L * 8 + 2))) ∧ w'.cell? ⟨g, L * 8 + 3, none⟩ = some (.int .i64 (D2 (L * 8 + 3))) ∧ w'.cell? ⟨g, Q * 8, none⟩ = some (.int .i64 (D2 (Q * 8))) ∧ w'.cell? ⟨g, Q * 8 + 1, none⟩ = some (.int .i64 (D2 (Q * 8 + 1))) ∧ w'.cell? ⟨g, Q * 8 + 2, none⟩ = some (.int .i64 (D2 (Q * 8 + 2))) ∧ w'.cell? ⟨g, Q * 8 + 3, none⟩ = some (.int .i64 (D2 (Q * 8 + 3))) :=
      fun w' s => ⟨keepc s t1, keepc s a0, keepc s a1, keepc s a2, keepc s a3, keepc s d0, keepc s d1, keepc s d2, keepc s d3⟩
    go_upto_region 7 with fail
    go_cut [8] (fun v wc => ∃ x, v = .pointer (some ⟨x, 0, none⟩) ∧ Below w3.heap.size w3 wc ∧ Sp4 wc x (mn (D2 (L * 8)) (D2 (Q * 8))) (mn (D2 (L * 8 + 1)) (D2 (Q * 8 + 1))) (mx (D2 (L * 8 + 2)) (D2 (Q * 8 + 2))) (mx (D2 (L * 8 + 3)) (D2 (Q * 8 + 3))))
    case first =>
      refine wp_region_held_drew (S := fun w' => Below w3.heap.size w3 w') (by kernel_rfl) ((Below.refl _ _).drew) (fun hHeld => ?_)
      refine tq 0 hHeld ?_
      refine tq 1 hHeld ?_
      refine tq 2 hHeld ?_
      refine tq 3 hHeld ?_ (hv := by (intro w' s; obtain ⟨q1, q2, q3, q4, q5, q6, q7, q8, q9⟩ := FF w' s; go_simp; (try with_reducible rfl)))
      refine tq 4 hHeld ?_
      refine tq 5 hHeld ?_
      refine tq 6 hHeld ?_
      refine tq 7 hHeld ?_ (hv := by (intro w' s; obtain ⟨q1, q2, q3, q4, q5, q6, q7, q8, q9⟩ := FF w' s; go_simp; (try with_reducible rfl)))
      refine tq 8 hHeld ?_
      refine tq 9 hHeld ?_
      refine tq 10 hHeld ?_
      refine tq 11 hHeld ?_ (hv := by (intro w' s; obtain ⟨q1, q2, q3, q4, q5, q6, q7, q8, q9⟩ := FF w' s; go_simp; (try with_reducible rfl)))
      refine tq 12 hHeld ?_
      refine tq 13 hHeld ?_
      refine tq 14 hHeld ?_
      refine tq 15 hHeld ?_ (hv := by (intro w' s; obtain ⟨q1, q2, q3, q4, q5, q6, q7, q8, q9⟩ := FF w' s; go_simp; (try with_reducible rfl)))
      refine wpAnyH_ready (rs := [16, 17]) (by kernel_rfl) (by simp) ?_
      refine AllReadyH.cons rfl (fun K hK => ?_) (AllReadyH.cons rfl (fun K hK => ?_) AllReadyH.nil)
      · (go_simp; (go_at_call 44; refine (spanBoth_any _ _ _ _ _ _ _ _ _).mono ?_; rintro e w8 ⟨rfl, hb8⟩; obtain ⟨hc8, hf8⟩ := bcell hb8; have hz8 := hb8.size; (try simp only [World.size_drew, World.size_alloc, World.size_setCell] at hc8 hf8 hz8); (try have hc9 := fun o => hc8 w3.heap.size o (by omega)); (try have hf9 := fun o => hf8 w3.heap.size o (by omega)); clear hc8 hf8); (try go_wp2_with fail); refine tr hK (fun hHeld => ?_) (hHeld.trans (hb8.mono hHeld.size)); clear hK K)
        refine tc 17 fun K hK => ?_
        (go_simp; refine tr hK (fun hHeld => ?_) (hHeld.alloc hHeld.size _); clear hK K)
        refine tc 18 fun K hK => ?_
        (go_simp; refine tr hK (fun hHeld => ?_) bel_a; clear hK K)
        refine wpAnyH_done (by kernel_rfl) ?_ _
        go_wp2_with fail
        go_meet
        exact ⟨_, rfl, hHeld, ⟨by go_simp, by go_simp, by go_simp, by go_simp⟩⟩
      · (go_simp; refine tr hK (fun hHeld => ?_) (hHeld.alloc hHeld.size _); clear hK K)
        refine tc 16 fun K hK => ?_
        (go_simp; (go_at_call 44; refine (spanBoth_any _ _ _ _ _ _ _ _ _).mono ?_; rintro e w8 ⟨rfl, hb8⟩; obtain ⟨hc8, hf8⟩ := bcell hb8; have hz8 := hb8.size; (try simp only [World.size_drew, World.size_alloc, World.size_setCell] at hc8 hf8 hz8); (try have hc9 := fun o => hc8 w3.heap.size o (by omega)); (try have hf9 := fun o => hf8 w3.heap.size o (by omega)); clear hc8 hf8); (try go_wp2_with fail); refine tr hK (fun hHeld => ?_) (hHeld.trans (hb8.mono hHeld.size)); clear hK K)
        refine tc 18 fun K hK => ?_
        (go_simp; refine tr hK (fun hHeld => ?_) bel_a; clear hK K)
        refine wpAnyH_done (by kernel_rfl) ?_ _
        go_wp2_with fail
        go_meet
        exact ⟨_, rfl, hHeld, ⟨by go_simp, by go_simp, by go_simp, by go_simp⟩⟩
    case rest =>
    obtain ⟨x, rfl, hB, ⟨s0, s1, s2, s3⟩⟩ := hcut
    clear FF a0 a1 a2 a3 d0 d1 d2 d3
    go_wp2_with fail
    refine (add_any base tb ai N ci _ m2 D2 (nodeV (mn (D2 (L * 8)) (D2 (Q * 8))) (mn (D2 (L * 8 + 1)) (D2 (Q * 8 + 1))) (mx (D2 (L * 8 + 2)) (D2 (Q * 8 + 2))) (mx (D2 (L * 8 + 3)) (D2 (Q * 8 + 3))) L Q) false wc (hT3.below hB) (by simp [nodeV]) (by omega) (Nat.le_trans hb3 hB.size) htb).mono ?_
    rintro e w4 ⟨rfl, v4, hT4, hk4, ho4⟩
    go_wp2_with fail
    go_ret
    have hGr : Gro lb off n tb base w w4 := (hG1.trans hGr2 (Nat.le_refl _) (by omega)).trans (hGr3.trans ((Gro.below hB (Nat.lt_of_lt_of_le hlb hb3) hb3).trans (off2 := off + hf) (n2 := hr) (Gro.add hk4 ho4 hlb hne) (Nat.le_refl _) (Nat.le_refl _)) (Nat.le_refl _) (Nat.le_refl _)) (by omega) (by omega)
    have hc1' : Cov (tab D2) L c1 := hc1.same (Same4.of fun q hq => (ho3 q hq).symm) hG2.down (by omega)
    have hGM : Good N U (m2 + 1) (more D2 (nodeV (mn (D2 (L * 8)) (D2 (Q * 8))) (mn (D2 (L * 8 + 1)) (D2 (Q * 8 + 1))) (mx (D2 (L * 8 + 2)) (D2 (Q * 8 + 2))) (mx (D2 (L * 8 + 3)) (D2 (Q * 8 + 3))) L Q) m2) := by
      refine hG3.more ⟨mn_B2 hbL.1 hbQ.1, mn_B2 hbL.2.1 hbQ.2.1, mx_B2 hbL.2.2.1 hbQ.2.2.1, mx_B2 hbL.2.2.2 hbQ.2.2.2⟩ (fun q => absurd q (by simp [nodeV])) (fun _ => ⟨by show 0 ≤ (L : Int); omega, by show (L : Int) < _; omega, by show 0 ≤ (Q : Int); omega, by show (Q : Int) < _; omega, fun j hj => ?_⟩)
      rcases hj with rfl | rfl
      · exact ⟨mn_l _ _, mn_l _ _, mx_l _ _, mx_l _ _⟩
      · exact ⟨mn_r _ _, mn_r _ _, mx_r _ _, mx_r _ _⟩
    have hm3 : m + 2 * n - 1 = m2 + 1 := by omega
    refine ⟨by rw [hm2]; rfl, v4, more D2 (nodeV (mn (D2 (L * 8)) (D2 (Q * 8))) (mn (D2 (L * 8 + 1)) (D2 (Q * 8 + 1))) (mx (D2 (L * 8 + 2)) (D2 (Q * 8 + 2))) (mx (D2 (L * 8 + 3)) (D2 (Q * 8 + 3))) L Q) m2, hm3 ▸ hT4, hm3 ▸ hGM, fun q hq => (more_old (by omega)).trans ((ho3 q (by omega)).trans (ho2 q hq)), ⟨c1 ++ c2, ?_, ?_⟩, hGr⟩
    · rw [show m + 2 * n - 2 = m2 by omega]
      have e4 : ∀ V', more D2 V' m2 (m2 * 8 + 4) = V' 4 := fun V' => more_new 4
      have e6 : ∀ V', more D2 V' m2 (m2 * 8 + 6) = V' 6 := fun V' => more_new 6
      have e7 : ∀ V', more D2 V' m2 (m2 * 8 + 7) = V' 7 := fun V' => more_new 7
      refine .node ?_ ?_ ?_
      · simp only [tab]
        rw [e4]
        simp [nodeV]
      · simp only [tab]
        rw [e6]
        exact Cov.more (k := L) hG3 hc1' (by omega)
      · simp only [tab]
        rw [e7]
        exact Cov.more (k := Q) hG3 hc2 (by omega)
    · have hpl : plc V1 n = plc V1 hf ++ plc (fun i => V1 (hf + i)) hr := by rw [show n = hf + hr by omega]; exact plc_split V1 hf hr
      exact (List.Perm.append hp1 hp2).trans ((hpl ▸ List.Perm.refl _ : (plc V1 hf ++ plc (fun i => V1 (hf + i)) hr).Perm (plc V1 n)).trans hSw.plc)
end Go.Proofs.Ytcbgcochpflblaa
namespace Go.Proofs.Ytcbgcochpflblaa
open Go.RowKit
set_option linter.unusedVariables false
set_option linter.unusedSimpArgs false
theorem makeInts (n : Nat) (hn : n ≤ 1048576) (w : World) : (Instr.makeSlice 69 (.int .i64 (n : Int)) (.int .i64 (n : Int))).run Try.prog w = .ok (.slice (some ⟨w.heap.size, 0, none⟩) n n) (w.alloc (.cells (madeCells #[.int .i64 0] (n * 1)) 3)) :=
  make_rows _ _ (.int .i64 0) 1 8 Try.underlying69 (by kernel_rfl) _ _ n (by omega) (by omega) w
/-- what is told of a tree -/
def Tree (w : World) (base : Nat) (N : Nat) (U : Nat → Int) (v : Value) : Prop :=
  (N = 0 ∧ v = .slice none 0 0) ∨ (0 < N ∧ ∃ m D, NL w base v D (m + 1) ∧ m ≤ 100 ∧ Good N U (m + 1) D ∧ ∃ c, Cov (tab D) m c ∧ c.Perm (List.range N))
theorem NL.base {w : World} {base m : Nat} {v : Value} {D : Nat → Int} {B : Nat} (h : NL w base v D m) (hB : B ≤ base) : NL w B v D m := by
  refine ⟨h.1, ?_⟩
  rcases h.2 with q | ⟨g, cap, cur, hv, hb, rest⟩
  · exact .inl q
  · exact .inr ⟨g, cap, cur, hv, by omega, rest⟩
theorem Tree.below {w w' : World} {base N : Nat} {U : Nat → Int} {v : Value} (h : Tree w base N U v) (hb : Below w.heap.size w w') : Tree w' base N U v := by
  rcases h with q | ⟨q, m, D, h1, h2⟩
  · exact .inl q
  · exact .inr ⟨q, m, D, h1.keep fun g hg => hb.block _ (h1.lt g hg).2, h2⟩
theorem plc_id (N : Nat) : plc (fun q => (q : Int)) N = List.range N := by
  unfold plc
  simp
set_option maxRecDepth 20000 in
set_option maxHeartbeats 1000000 in
theorem treeOf_any (ai : Option Addr) (N ci : Nat) (U : Nat → Int) (w : World) (hF : Flat w ai (N * 5) U) (hN : N ≤ 24) (hU : ∀ q, q < N * 5 → B1 (U q)) :
    Calls Try.prog 21 #[.slice ai N ci] w fun e w' => ∃ v, e = .returned (.agg #[.slice ai N ci, v]) ∧ Below w.heap.size w w' ∧ Tree w' w.heap.size N U v := by
  have hset := cset_map
  by_cases h0 : N = 0
  · subst h0
    go_enter Try.func21, Try.ntmps21
    go_wp2
    exact bodyPost_ret (v := .agg #[.slice ai 0 ci, .slice none 0 0]) (by simp [results, Try.results21, go_sem, *]) rfl ⟨_, rfl, bel_a, .inl ⟨rfl, rfl⟩⟩
  · have hNp : 0 < N := by omega
    have hNi : (0 : Int) < (N : Int) := by omega
    obtain ⟨b, o, rfl, hbl, hc⟩ := hF (by omega)
    go_enter Try.func21, Try.ntmps21
    go_upto_region 2 with fail
    have hE : Below w.heap.size w ((w.alloc (.cells #[.slice none 0 0, .slice none 0 0] 44)).alloc (.cells #[.slice (some ⟨b, o, none⟩) N ci, .slice none 0 0] 44)) := bel_a
    have r0 : ((w.alloc (.cells #[.slice none 0 0, .slice none 0 0] 44)).alloc (.cells #[.slice (some ⟨b, o, none⟩) N ci, .slice none 0 0] 44)).cell? ⟨w.heap.size, 0, none⟩ = some (.slice none 0 0) := by go_simp
    have r1 : ((w.alloc (.cells #[.slice none 0 0, .slice none 0 0] 44)).alloc (.cells #[.slice (some ⟨b, o, none⟩) N ci, .slice none 0 0] 44)).cell? ⟨w.heap.size, 1, none⟩ = some (.slice none 0 0) := by go_simp
    have rf : ∀ j, ((w.alloc (.cells #[.slice none 0 0, .slice none 0 0] 44)).alloc (.cells #[.slice (some ⟨b, o, none⟩) N ci, .slice none 0 0] 44)).frozen? ⟨w.heap.size, j, none⟩ = false := fun j => by go_simp
    have t0 : ((w.alloc (.cells #[.slice none 0 0, .slice none 0 0] 44)).alloc (.cells #[.slice (some ⟨b, o, none⟩) N ci, .slice none 0 0] 44)).cell? ⟨w.heap.size + 1, 0, none⟩ = some (.slice (some ⟨b, o, none⟩) N ci) := by go_simp
    have t1 : ((w.alloc (.cells #[.slice none 0 0, .slice none 0 0] 44)).alloc (.cells #[.slice (some ⟨b, o, none⟩) N ci, .slice none 0 0] 44)).cell? ⟨w.heap.size + 1, 1, none⟩ = some (.slice none 0 0) := by go_simp
    have tf : ((w.alloc (.cells #[.slice none 0 0, .slice none 0 0] 44)).alloc (.cells #[.slice (some ⟨b, o, none⟩) N ci, .slice none 0 0] 44)).frozen? ⟨w.heap.size + 1, 1, none⟩ = false := by go_simp
    have hz : ((w.alloc (.cells #[.slice none 0 0, .slice none 0 0] 44)).alloc (.cells #[.slice (some ⟨b, o, none⟩) N ci, .slice none 0 0] 44)).heap.size = w.heap.size + 1 + 1 := by simp
    have hsl : (((w.alloc (.cells #[.slice none 0 0, .slice none 0 0] 44)).alloc (.cells #[.slice (some ⟨b, o, none⟩) N ci, .slice none 0 0] 44))).heap.size = w.heap.size + 1 + 1 := hz
    generalize ((w.alloc (.cells #[.slice none 0 0, .slice none 0 0] 44)).alloc (.cells #[.slice (some ⟨b, o, none⟩) N ci, .slice none 0 0] 44)) = w2 at hE r0 r1 rf t0 t1 tf hz hsl ⊢
    generalize htb : w.heap.size + 1 = tb at t0 t1 tf hz hsl ⊢
    have hm := makeInts N (by omega) w2
    have hRm : Row (w2.alloc (.cells (madeCells #[.int .i64 0] (N * 1)) 3)) w2.heap.size 3 (N * 1) (fun q => if q < 0 then (fun q : Nat => (q : Int)) q else 0) := Row.madek w2 _ 1 (N * 1) _ rfl (by omega) _
    have hzz : w2.heap.size = tb + 1 := by omega
    have hE3 : Below w2.heap.size w2 (w2.alloc (.cells (madeCells #[.int .i64 0] (N * 1)) 3)) := (Below.refl _ _).alloc (Nat.le_refl _) _
    have hz3 : (w2.alloc (.cells (madeCells #[.int .i64 0] (N * 1)) 3)).heap.size = w2.heap.size + 1 := by simp
    rw [Nat.mul_one] at hm hRm hE3 hz3
    go_upto_region 4 with fail
    generalize w2.alloc (.cells (madeCells #[.int .i64 0] N) 3) = w3 at hRm hE3 hz3 ⊢
    have hE2 : Below w2.heap.size w2 w3 := hE3
    have lr0 : w.heap.size < w2.heap.size := cell_lt r0
    rw [hzz] at hRm hz3
    generalize hlb : tb + 1 = lb at hRm hz3 ⊢
    have htl : tb < lb := by omega
    have hwl : w.heap.size < tb := by omega
    have hbw : b < w.heap.size := hbl
    have hlw : lb < w3.heap.size := by omega
    have g0 := keepc hE3 t0
    have g1 := keepc hE3 t1
    have gf : w3.frozen? ⟨tb, 1, none⟩ = false := (hE3.frozen (p := ⟨tb, 1, none⟩) (cell_lt t1)).trans tf
    have q0 := keepc hE3 r0
    have q1 := keepc hE3 r1
    have qf : ∀ j, w3.frozen? ⟨w.heap.size, j, none⟩ = false := fun j => (hE3.frozen (p := ⟨w.heap.size, j, none⟩) lr0).trans (rf j)
    have hB3 : Below w.heap.size w w3 := hE.trans (hE3.mono (by omega))
    clear hE hE3 t0 t1 tf r0 r1 rf hm hE2 hsl hz hzz hlb
    go_wp2
    go_loopg [16] N (fun g vi wr => ∃ k : Nat, k ≤ N ∧ N - k ≤ g ∧ vi = .int .i64 (k : Int) ∧ Row wr lb 3 N (upto k (fun q => (q : Int))) ∧ But lb w3 wr)
    case atStart => exact ⟨0, by omega, by omega, rfl, hRm, But.refl _ _⟩
    case round =>
      obtain ⟨k, hk, hg, rfl, hR, hBt⟩ := hrel
      by_cases hlt : k < N
      · have hlt1 : (k : Int) < (N : Int) := by omega
        have ck := hR.cell (q := k) (by omega)
        have cf := hR.fro k
        have hR2 := hR.next
        go_wp2
        go_roundg (N - k - 1)
        case measure => omega
        case rel => exact ⟨k + 1, by omega, by omega, by go_num, hR2, hBt.setCell rfl _⟩
      · have hlt1 : ¬ ((k : Int) < (N : Int)) := by omega
        obtain rfl : k = N := by omega
        have hRf := hR.full (by omega)
        have hbl2 : lb + 1 ≤ wr.heap.size := Nat.le_trans (Nat.le_of_eq hz3.symm) hBt.size
        have hT : TW wr (lb + 1) tb (some ⟨b, o, none⟩) k ci (.slice none 0 0) 0 (fun _ => 0) := ⟨(hBt.cell (p := ⟨tb, 0, none⟩) (by show tb < _; omega) (by show tb ≠ lb; omega)).trans g0, (hBt.cell (p := ⟨tb, 1, none⟩) (by show tb < _; omega) (by show tb ≠ lb; omega)).trans g1, (hBt.frozen (p := ⟨tb, 1, none⟩) (by show tb < _; omega) (by show tb ≠ lb; omega)).trans gf, NL.nil _ _ _⟩
        have hRw : Rwo wr lb 0 k (fun q => (q : Int)) := ⟨fun i hi => by rw [Nat.zero_add]; exact hRf.cell (by omega), fun i hi => hRf.fro _⟩
        have hFl : Flat wr (some ⟨b, o, none⟩) (k * 5) U := fun _ => ⟨b, o, rfl, by have := hBt.size; omega, fun q hq => (hBt.cell (p := ⟨b, o + q, none⟩) (by show b < _; omega) (by show b ≠ lb; omega)).trans ((hB3.cell (p := ⟨b, o + q, none⟩) hbw).trans (hc q hq))⟩
        have hEl : Els (some ⟨b, o, none⟩) tb lb (lb + 1) := fun b' o' e => by injection e with e; injection e with e1 e2; subst e1; exact ⟨by omega, by omega, by omega⟩
        go_wp2_with fail
        refine (treeGrow_any (lb + 1) tb lb (some ⟨b, o, none⟩) k ci U hU hEl (by omega) (by omega) (by omega) k k 0 k 0 (.slice none 0 0) (fun q => (q : Int)) (fun _ => 0) wr (Nat.le_refl _) (by omega) (Nat.le_refl _) (by omega) hRw (fun i hi => ⟨by omega, by omega⟩) hFl hT (Good.zero _ _ _) hbl2).mono ?_
        rintro e w4 ⟨rfl, v4, D4, hT4, hG4, -, ⟨c, hc4, hp4⟩, hGr⟩
        rw [plc_id] at hp4
        rw [show 0 + 2 * k - 1 = 2 * k - 2 + 1 by omega] at hT4 hG4
        rw [show 0 + 2 * k - 2 = 2 * k - 2 by omega] at hc4
        have hNL := hT4.nl
        obtain ⟨q, -⟩ | ⟨g, cg, rfl⟩ := hT4.nl.is
        · omega
        have u0 := hT4.c0
        have u1 := hT4.c1
        have bk := hGr.block w.heap.size (by omega) (by omega) (by omega)
        have lw3 : w.heap.size < w3.heap.size := by omega
        have x0 := (World.cell?_of_block (a := ⟨w.heap.size, 0, none⟩) bk).trans ((hBt.cell (p := ⟨w.heap.size, 0, none⟩) lw3 (by show w.heap.size ≠ lb; omega)).trans q0)
        have x1 := (World.cell?_of_block (a := ⟨w.heap.size, 1, none⟩) bk).trans ((hBt.cell (p := ⟨w.heap.size, 1, none⟩) lw3 (by show w.heap.size ≠ lb; omega)).trans q1)
        have y0 := (World.frozen?_of_block (a := ⟨w.heap.size, 0, none⟩) bk).trans ((hBt.frozen (p := ⟨w.heap.size, 0, none⟩) lw3 (by show w.heap.size ≠ lb; omega)).trans (qf 0))
        have y1 := (World.frozen?_of_block (a := ⟨w.heap.size, 1, none⟩) bk).trans ((hBt.frozen (p := ⟨w.heap.size, 1, none⟩) lw3 (by show w.heap.size ≠ lb; omega)).trans (qf 1))
        have hBr : Below w.heap.size w wr := hB3.trans (hBt.below (by omega) (by omega))
        have hB4 : Below w.heap.size w w4 := hBr.trans ⟨hGr.os, hGr.tape, hGr.output, hGr.size, fun j hj => hGr.block j (by omega) (by omega) (by omega)⟩
        clear hT hRw hFl hEl hR hRf hBt hRm g0 g1 gf q0 q1 qf hT4
        go_wp2_with fail
        exact bodyPost_ret (v := .agg #[.slice (some ⟨b, o, none⟩) k ci, .slice (some ⟨g, 0, none⟩) (2 * k - 2 + 1) cg]) (by simp [results, Try.results21, go_sem, *]) rfl ⟨_, rfl, (hB4.setCell (by exact Nat.le_refl _) _).setCell (by exact Nat.le_refl _) _, .inr ⟨hNp, 2 * k - 2, D4, (hNL.keep fun g' hg' => by have := (hNL.lt g' hg').1; rw [Below.heap_setCell _ _ _ _ (by show g' ≠ w.heap.size; omega), Below.heap_setCell _ _ _ _ (by show g' ≠ w.heap.size; omega)]).base (by omega), by omega, hG4, c, hc4, hp4⟩⟩
end Go.Proofs.Ytcbgcochpflblaa
namespace Go.Proofs.Ytcbgcochpflblaa
open Go.Shelf
set_option linter.unusedVariables false
def lays189_ren : Go.Shelf.Ren := ⟨fun | 189 => 46 | 125 => 61 | 257 => 60 | 128 => 75 | 129 => 76 | 294 => 66 | 295 => 67 | 296 => 68 | 297 => 69 | 298 => 70 | 299 => 71 | 216 => 72 | 300 => 73 | 301 => 74 | 328 => 80 | 329 => 81 | 330 => 82 | 331 => 83 | 332 => 84 | 215 => 85 | 343 => 87 | n => n, fun | 28 => 69 | 3 => 3 | 46 => 101 | 0 => 0 | 51 => 115 | 53 => 117 | 4 => 4 | 183 => 107 | 182 => 106 | 131 => 112 | 5 => 5 | 9 => 9 | 218 => 120 | 222 => 124 | 228 => 127 | 229 => 128 | n => n, fun | n => n⟩
theorem lays189 : Go.Proofs.Lays.n189 Try.prog lays189_ren := {
  mixed := by kernel_rfl
  f125 := Try.func61.trans (congrArg some (by kernel_rfl))
  f128 := Try.func75.trans (congrArg some (by kernel_rfl))
  f129 := Try.func76.trans (congrArg some (by kernel_rfl))
  f189 := Try.func46.trans (congrArg some (by kernel_rfl))
  f215 := Try.func85.trans (congrArg some (by kernel_rfl))
  f216 := Try.func72.trans (congrArg some (by kernel_rfl))
  f257 := Try.func60.trans (congrArg some (by kernel_rfl))
  f294 := Try.func66.trans (congrArg some (by kernel_rfl))
  f295 := Try.func67.trans (congrArg some (by kernel_rfl))
  f296 := Try.func68.trans (congrArg some (by kernel_rfl))
  f297 := Try.func69.trans (congrArg some (by kernel_rfl))
  f298 := Try.func70.trans (congrArg some (by kernel_rfl))
  f299 := Try.func71.trans (congrArg some (by kernel_rfl))
  f300 := Try.func73.trans (congrArg some (by kernel_rfl))
  f301 := Try.func74.trans (congrArg some (by kernel_rfl))
  f328 := Try.func80.trans (congrArg some (by kernel_rfl))
  f329 := Try.func81.trans (congrArg some (by kernel_rfl))
  f330 := Try.func82.trans (congrArg some (by kernel_rfl))
  f331 := Try.func83.trans (congrArg some (by kernel_rfl))
  f332 := Try.func84.trans (congrArg some (by kernel_rfl))
  f343 := Try.func87.trans (congrArg some (by kernel_rfl))
  t0 := Try.underlying0
  a0 := Try.isAgg0
  z0 := Try.sizeOf0
  v0 := Try.zeroValue0
  t3 := Try.underlying3
  a3 := Try.isAgg3
  z3 := Try.sizeOf3
  v3 := Try.zeroValue3
  t4 := Try.underlying4
  a4 := Try.isAgg4
  z4 := Try.sizeOf4
  v4 := Try.zeroValue4
  t5 := Try.underlying5
  a5 := Try.isAgg5
  z5 := Try.sizeOf5
  v5 := Try.zeroValue5
  t9 := Try.underlying9
  a9 := Try.isAgg9
  z9 := Try.sizeOf9
  v9 := Try.zeroValue9
  t28 := Try.underlying69
  a28 := Try.isAgg69
  z28 := Try.sizeOf69
  v28 := Try.zeroValue69
  t46 := Try.underlying101
  a46 := Try.isAgg101
  z46 := Try.sizeOf101
  v46 := Try.zeroValue101
  t51 := Try.underlying115
  a51 := Try.isAgg115
  z51 := Try.sizeOf115
  v51 := Try.zeroValue115
  t53 := Try.underlying117
  a53 := Try.isAgg117
  z53 := Try.sizeOf117
  v53 := Try.zeroValue117
  t131 := Try.underlying112
  a131 := Try.isAgg112
  z131 := Try.sizeOf112
  v131 := Try.zeroValue112
  t182 := Try.underlying106
  a182 := Try.isAgg106
  z182 := Try.sizeOf106
  v182 := Try.zeroValue106
  t183 := Try.underlying107
  a183 := Try.isAgg107
  z183 := Try.sizeOf107
  v183 := Try.zeroValue107
  t218 := Try.underlying120
  a218 := Try.isAgg120
  z218 := Try.sizeOf120
  v218 := Try.zeroValue120
  t222 := Try.underlying124
  a222 := Try.isAgg124
  z222 := Try.sizeOf124
  v222 := Try.zeroValue124
  t228 := Try.underlying127
  a228 := Try.isAgg127
  z228 := Try.sizeOf127
  v228 := Try.zeroValue127
  t229 := Try.underlying128
  a229 := Try.isAgg128
  z229 := Try.sizeOf128
  v229 := Try.zeroValue128 }
end Go.Proofs.Ytcbgcochpflblaa
namespace Go.Proofs.Ytcbgcochpflblaa
open Go.RowKit
set_option linter.unusedVariables false
set_option linter.unusedSimpArgs false
def LI (w : World) (base : Nat) (v : Value) (n : Nat) (zs : List Int) : Prop := zs.length = n ∧ w.ownsRow base 3 1 v n (zs.map (Value.int .i64))
theorem LI.nil (w : World) (base : Nat) : LI w base (.slice none 0 0) 0 [] := ⟨rfl, World.ownsRow_nil w base _ _⟩
theorem LI.lt {w : World} {base n : Nat} {v : Value} {zs : List Int} (h : LI w base v n zs) : ∀ b, v.ownBlock = some b → base ≤ b ∧ b < w.heap.size := World.ownsRow.lt h.2
theorem LI.kept {w w' : World} {base n : Nat} {v : Value} {zs : List Int} {row : Option Nat} (h : LI w base v n zs) (hg : w.grownBy w' row) (hne : v.ownBlock = none ∨ v.ownBlock ≠ row) : LI w' base v n zs := ⟨h.1, World.ownsRow.kept h.2 hg hne⟩
theorem LI.below {w w' : World} {base n : Nat} {v : Value} {zs : List Int} (h : LI w base v n zs) (hb : Below w.heap.size w w') : LI w' base v n zs := by
  refine ⟨h.1, h.2.1, ?_⟩
  rcases h.2.2 with q | ⟨g, cap, cur, hv, h2, hg, rest⟩
  · exact .inl q
  · exact .inr ⟨g, cap, cur, hv, h2, (hb.block _ (Array.getElem?_eq_some_iff.1 hg).1).trans hg, rest⟩
theorem LI.is {w : World} {base n : Nat} {v : Value} {zs : List Int} (h : LI w base v n zs) : (zs = [] ∧ n = 0 ∧ v = .slice none 0 0) ∨ ∃ g c, v = .slice (some ⟨g, 0, none⟩) n c ∧ n ≤ c := by
  rcases h.2.2 with ⟨hv, e⟩ | ⟨g, cap, cur, hv, _, _, hn, _⟩
  · exact .inl ⟨List.length_eq_zero_iff.1 (h.1.trans e), e, hv⟩
  · exact .inr ⟨_, _, hv, hn⟩
theorem LI.cell {w : World} {base n g c : Nat} {zs : List Int} (h : LI w base (.slice (some ⟨g, 0, none⟩) n c) n zs) {q : Nat} (hq : q < zs.length) : w.cell? ⟨g, q, none⟩ = some (.int .i64 zs[q]) := by
  have := (World.ownsRow.cellAt h.2 q (by rw [Nat.mul_one, ← h.1]; exact hq))
  rw [this]; simp [hq]
/-- a part from the front -/
theorem LI.pre {w : World} {base n g c : Nat} {zs : List Int} (h : LI w base (.slice (some ⟨g, 0, none⟩) n c) n zs) {m : Nat} (hm : m ≤ n) : LI w base (.slice (some ⟨g, 0, none⟩) m c) m (zs.take m) := by
  refine ⟨by rw [List.length_take, h.1]; omega, by simp [h.1]; omega, ?_⟩
  rcases h.2.2 with ⟨hv, e⟩ | ⟨g', cap, cur, hv, hb, hg, hn, hc, hs, ht⟩
  · cases hv
  · cases hv
    refine .inr ⟨_, _, cur, rfl, hb, hg, by omega, hc, hs, ?_⟩
    rw [List.map_take, ← ht, List.take_take]
    congr 1
    omega
theorem infoInt : (Try.prog.info? 3).map (fun i => (i.zero, i.size, i.bytes)) = some (some (.int .i64 0), 1, 8) := by kernel_rfl
theorem wpList_li {ops : Array Oper} {o : Oper} {a : Act} {Q : Exit → Act → World → Prop} {w : World} {rest : List Oper} (hgd : o.guard = none) (s x : Operand) (t : TypeId)
    (ho : o.op = .call { callee := .builtin .append, args := #[s, x], argTypes := #[t, t] }) (ht : Try.prog.underlying t = some (.slice 3))
    (base : Nat) (v : Value) (n : Nat) (zs : List Int) (hs : a.eval s = v) (h : LI w base v n zs) (b : Nat) (news : List Int) (k c : Nat) (hx : a.eval x = .slice (some ⟨b, 0, none⟩) k c) (hk : news.length = k)
    (hn : ∀ j u, news[j]? = some u → w.cell? ⟨b, j, none⟩ = some (.int .i64 u)) (hp : 0 < k) (hm : n + k ≤ 100000) (hbase : base ≤ w.heap.size)
    (hK : ∀ g' c' w', LI w' base (.slice (some ⟨g', 0, none⟩) (n + k) c') (n + k) (zs ++ news) → w.grownBy w' v.ownBlock → (v.ownBlock = some g' ∨ g' = w.heap.size) → g' < w'.heap.size → wpList Try.prog ops Q rest (a.put o.dst (.slice (some ⟨g', 0, none⟩) (n + k) c')) w') :
    wpList Try.prog ops Q (o :: rest) a w := by
  obtain ⟨i, hi, hzz⟩ := Option.map_eq_some_iff.1 infoInt
  simp only [Prod.mk.injEq] at hzz
  obtain ⟨hz, hsz, hb8⟩ := hzz
  refine wpList_plain hgd fun _ hK' => wp_append_lies w s x t ho base 3 i (.int .i64 0) 1 8 ht hi hz hsz hb8 rfl (by decide) v n (zs.map (Value.int .i64)) hs h.2 ⟨b, 0, none⟩ k c (news.map (Value.int .i64)) hx (by simp [hk]) ?_ ?_ hp (by unfold maxLen; omega) (by omega) hbase _ rfl ?_
  · intro q u hu
    have hadd : (⟨b, 0, none⟩ : Addr).add q = ⟨b, q, none⟩ := by unfold Addr.add; split <;> simp_all
    rw [List.getElem?_map] at hu
    obtain ⟨z, hz1, rfl⟩ := Option.map_eq_some_iff.1 hu
    rw [hadd]; exact hn q z hz1
  · intro u hu
    obtain ⟨z, _, rfl⟩ := List.mem_map.1 hu
    rfl
  · intro g' cap' w' r1 r2 r3 r4
    refine hK' _ _ (hK g' cap' w' ⟨by simp [h.1, hk], ?_⟩ r2 r3 r4)
    rw [List.map_append]; exact r1
theorem sortInts_any (base : Nat) (v : Value) (n : Nat) (zs : List Int) (w : World) (h : LI w base v n zs) (hn : n ≤ 100000) :
    Calls Try.prog 46 #[v] w fun e w' => e = .returned (.tuple #[]) ∧ LI w' base v n (zs.mergeSort fun x y => decide (x ≤ y)) ∧ w.grownBy w' v.ownBlock := by
  rcases h.is with ⟨rfl, rfl, rfl⟩ | ⟨g, c, rfl, hc⟩
  · refine (Any.slices_Sort_int_none lays189 none 0 w).mono ?_
    rintro e w' ⟨rfl, rfl⟩
    exact ⟨rfl, by simpa using LI.nil _ _, World.grownBy.refl _ _⟩
  · rcases h.2.2 with ⟨hv, e⟩ | ⟨g', cap, cur, hv, hb, hg, h1, h2, hs, ht⟩
    · cases hv
    cases hv
    have hl := h.1
    subst hl
    have hH := holds_of_blockI hg (by rw [← ht, Nat.mul_one])
    refine (Any.slices_Sort_int lays189 g 0 c zs w hH (Array.getElem?_eq_some_iff.1 hg).1 (by omega)).mono ?_
    rintro e w' ⟨rfl, q, os, rfl⟩
    have hml : (zs.mergeSort fun x y => decide (x ≤ y)).length = zs.length := List.length_mergeSort _
    exact ⟨rfl, ⟨hml, ownsRow_sortedI hml hb hg h1 h2 (by simpa using hs)⟩, grownBy_sortedI _⟩
end Go.Proofs.Ytcbgcochpflblaa
namespace Go.Proofs.Ytcbgcochpflblaa
open Go.RowKit
set_option linter.unusedVariables false
set_option linter.unusedSimpArgs false

end Go.Proofs.Ytcbgcochpflblaa
