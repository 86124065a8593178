/- A tree that is grown: what its table is like. A tree is grown over places. -/
import Derived.Test.YtbngdlbecdloiaaBrLf
import Derived.Deep.RegionHeld3
import Derived.Deep.DeepCutAuto
set_option maxHeartbeats 16000000
set_option maxRecDepth 20000
namespace Go.Proofs.Ytbngdlbecdloiaa
open Go.RowKit
set_option linter.unusedVariables false
set_option linter.unusedSimpArgs false
/-- the table of nodes -/
def tab (D : Nat → Int) : Tab4 := ⟨fun k => if D (k * 8 + 4) = 1 then some (D (k * 8 + 5)).toNat else none, fun k => (D (k * 8 + 6)).toNat, fun k => (D (k * 8 + 7)).toNat⟩
/-- the box of place i lies in four numbers -/
def InA (U : Nat → Int) (a b c d : Int) (i : Nat) : Prop := a ≤ U (i * 5 + 1) ∧ b ≤ U (i * 5 + 2) ∧ U (i * 5 + 3) ≤ c ∧ U (i * 5 + 4) ≤ d
structure Good (N : Nat) (U : Nat → Int) (m : Nat) (D : Nat → Int) : Prop where
  bd : ∀ k, k < m → B2 (D (k * 8)) ∧ B2 (D (k * 8 + 1)) ∧ B2 (D (k * 8 + 2)) ∧ B2 (D (k * 8 + 3))
  leaf : ∀ k, k < m → D (k * 8 + 4) = 1 → 0 ≤ D (k * 8 + 5) ∧ D (k * 8 + 5) < (N : Int) ∧ InA U (D (k * 8)) (D (k * 8 + 1)) (D (k * 8 + 2)) (D (k * 8 + 3)) (D (k * 8 + 5)).toNat
  node : ∀ k, k < m → ¬ D (k * 8 + 4) = 1 → 0 ≤ D (k * 8 + 6) ∧ D (k * 8 + 6) < (k : Int) ∧ 0 ≤ D (k * 8 + 7) ∧ D (k * 8 + 7) < (k : Int) ∧
    (∀ j, j = (D (k * 8 + 6)).toNat ∨ j = (D (k * 8 + 7)).toNat → D (k * 8) ≤ D (j * 8) ∧ D (k * 8 + 1) ≤ D (j * 8 + 1) ∧ D (j * 8 + 2) ≤ D (k * 8 + 2) ∧ D (j * 8 + 3) ≤ D (k * 8 + 3))
theorem Good.zero (N : Nat) (U D : Nat → Int) : Good N U 0 D := ⟨fun _ h => absurd h (Nat.not_lt_zero _), fun _ h => absurd h (Nat.not_lt_zero _), fun _ h => absurd h (Nat.not_lt_zero _)⟩
theorem Good.down {N : Nat} {U : Nat → Int} {m : Nat} {D : Nat → Int} (h : Good N U m D) : Down m (tab D) := by
  intro k hk e
  have hn : ¬ D (k * 8 + 4) = 1 := by
    intro q
    simp only [tab, if_pos q] at e
    cases e
  obtain ⟨a, b, c, d, _⟩ := h.node k hk hn
  simp only [tab]
  omega
theorem Good.congr {N : Nat} {U : Nat → Int} {m : Nat} {D E : Nat → Int} (h : Good N U m D) (e : ∀ q, q < m * 8 → D q = E q) : Good N U m E := by
  refine ⟨fun k hk => ?_, fun k hk => ?_, fun k hk => ?_⟩
  · rw [← e (k * 8) (by omega), ← e (k * 8 + 1) (by omega), ← e (k * 8 + 2) (by omega), ← e (k * 8 + 3) (by omega)]
    exact h.bd k hk
  · rw [← e (k * 8) (by omega), ← e (k * 8 + 1) (by omega), ← e (k * 8 + 2) (by omega), ← e (k * 8 + 3) (by omega), ← e (k * 8 + 4) (by omega), ← e (k * 8 + 5) (by omega)]
    exact h.leaf k hk
  · rw [← e (k * 8) (by omega), ← e (k * 8 + 1) (by omega), ← e (k * 8 + 2) (by omega), ← e (k * 8 + 3) (by omega), ← e (k * 8 + 4) (by omega), ← e (k * 8 + 6) (by omega), ← e (k * 8 + 7) (by omega)]
    intro hn
    obtain ⟨a, b, c, d, f⟩ := h.node k hk hn
    refine ⟨a, b, c, d, fun j hj => ?_⟩
    have hjk : j < k := by omega
    rw [← e (j * 8) (by omega), ← e (j * 8 + 1) (by omega), ← e (j * 8 + 2) (by omega), ← e (j * 8 + 3) (by omega)]
    exact f j hj
theorem Same4.of {m : Nat} {D E : Nat → Int} (e : ∀ q, q < m * 8 → D q = E q) : Same4 m (tab D) (tab E) :=
  ⟨fun k hk => by simp only [tab]; rw [e (k * 8 + 4) (by omega), e (k * 8 + 5) (by omega)], fun k hk => by simp only [tab]; rw [e (k * 8 + 6) (by omega)], fun k hk => by simp only [tab]; rw [e (k * 8 + 7) (by omega)]⟩
/-- one node more -/
def more (D V : Nat → Int) (m : Nat) : Nat → Int := fun q => if q < m * 8 then D q else V (q - m * 8)
theorem more_old {D V : Nat → Int} {m q : Nat} (h : q < m * 8) : more D V m q = D q := if_pos h
theorem more_new {D V : Nat → Int} {m : Nat} (j : Nat) : more D V m (m * 8 + j) = V j := by unfold more; rw [if_neg (by omega)]; congr 1; omega
theorem more_new0 {D V : Nat → Int} {m : Nat} : more D V m (m * 8) = V 0 := more_new 0
theorem Good.more {N : Nat} {U : Nat → Int} {m : Nat} {D V : Nat → Int} (h : Good N U m D) (hb : B2 (V 0) ∧ B2 (V 1) ∧ B2 (V 2) ∧ B2 (V 3))
    (hl : V 4 = 1 → 0 ≤ V 5 ∧ V 5 < (N : Int) ∧ InA U (V 0) (V 1) (V 2) (V 3) (V 5).toNat)
    (hn : ¬ V 4 = 1 → 0 ≤ V 6 ∧ V 6 < (m : Int) ∧ 0 ≤ V 7 ∧ V 7 < (m : Int) ∧ (∀ j, j = (V 6).toNat ∨ j = (V 7).toNat → V 0 ≤ D (j * 8) ∧ V 1 ≤ D (j * 8 + 1) ∧ D (j * 8 + 2) ≤ V 2 ∧ D (j * 8 + 3) ≤ V 3)) :
    Good N U (m + 1) (more D V m) := by
  have hc := h.congr (E := Go.Proofs.Ytbngdlbecdloiaa.more D V m) fun q hq => (more_old hq).symm
  refine ⟨fun k hk => ?_, fun k hk => ?_, fun k hk => ?_⟩
  · rcases Nat.lt_succ_iff_lt_or_eq.1 hk with q | rfl
    · exact hc.bd k q
    · rw [more_new0, more_new, more_new, more_new]; exact hb
  · rcases Nat.lt_succ_iff_lt_or_eq.1 hk with q | rfl
    · exact hc.leaf k q
    · rw [more_new0, more_new, more_new, more_new, more_new, more_new]; exact hl
  · rcases Nat.lt_succ_iff_lt_or_eq.1 hk with q | rfl
    · exact hc.node k q
    · rw [more_new0, more_new, more_new, more_new, more_new, more_new, more_new]
      intro q
      obtain ⟨a, b, c, d, f⟩ := hn q
      refine ⟨a, b, c, d, fun j hj => ?_⟩
      have hjm : j < k := by omega
      rw [more_old (by omega), more_old (by omega), more_old (by omega), more_old (by omega)]
      exact f j hj
/-- what is under a node lies in it -/
theorem Good.cov {N : Nat} {U : Nat → Int} {m : Nat} {D : Nat → Int} (h : Good N U m D) {k : Nat} {c : List Nat} (hc : Cov (tab D) k c) (hk : k < m) : ∀ i ∈ c, InA U (D (k * 8)) (D (k * 8 + 1)) (D (k * 8 + 2)) (D (k * 8 + 3)) i ∧ i < N := by
  induction hc with
  | @leaf k i e =>
    intro j hj
    simp only [tab] at e
    split at e
    · rename_i hl
      obtain ⟨a, b, f⟩ := h.leaf k hk hl
      obtain rfl := Option.some.inj e
      rw [List.mem_singleton] at hj
      subst hj
      exact ⟨f, by omega⟩
    · cases e
  | @node k a b e ha hb iha ihb =>
    have hn : ¬ D (k * 8 + 4) = 1 := by
      intro q
      simp only [tab, if_pos q] at e
      cases e
    obtain ⟨h1, h2, h3, h4, f⟩ := h.node k hk hn
    intro i hi
    have key : ∀ j, j = (D (k * 8 + 6)).toNat ∨ j = (D (k * 8 + 7)).toNat → InA U (D (j * 8)) (D (j * 8 + 1)) (D (j * 8 + 2)) (D (j * 8 + 3)) i → InA U (D (k * 8)) (D (k * 8 + 1)) (D (k * 8 + 2)) (D (k * 8 + 3)) i := by
      intro j hj ⟨q1, q2, q3, q4⟩
      obtain ⟨f1, f2, f3, f4⟩ := f j hj
      exact ⟨by omega, by omega, by omega, by omega⟩
    rcases List.mem_append.1 hi with hi | hi
    · obtain ⟨q, r⟩ := iha (by simp only [tab]; omega) i hi
      exact ⟨key _ (.inl rfl) q, r⟩
    · obtain ⟨q, r⟩ := ihb (by simp only [tab]; omega) i hi
      exact ⟨key _ (.inr rfl) q, r⟩
theorem Cov.more {N : Nat} {U : Nat → Int} {m : Nat} {D V : Nat → Int} (h : Good N U m D) {k : Nat} {c : List Nat} (hc : Cov (tab D) k c) (hk : k < m) : Cov (tab (more D V m)) k c :=
  hc.same (Same4.of fun q hq => (more_old hq).symm) h.down hk
/-- the places of a row -/
def plc (V : Nat → Int) (n : Nat) : List Nat := (List.range n).map fun i => (V i).toNat
theorem Sw.plc {n : Nat} {V U : Nat → Int} (h : Sw n V U) : (plc U n).Perm (plc V n) := by
  have := (h.perm).map Int.toNat
  simpa [Go.Proofs.Ytbngdlbecdloiaa.plc, List.map_map, Function.comp_def] using this
theorem plc_split (V : Nat → Int) (a b : Nat) : plc V (a + b) = plc V a ++ plc (fun i => V (a + i)) b := by
  unfold plc
  rw [List.range_add, List.map_append, List.map_map]
  rfl
end Go.Proofs.Ytbngdlbecdloiaa
namespace Go.Proofs.Ytbngdlbecdloiaa
open Go.RowKit
set_option linter.unusedVariables false
set_option linter.unusedSimpArgs false
def B1 (a : Int) : Prop := -1000000000 ≤ a ∧ a ≤ 1000000000
def nodeV (a b c d : Int) (L R : Nat) : Nat → Int := fun j => match j with
  | 0 => a
  | 1 => b
  | 2 => c
  | 3 => d
  | 4 => 0
  | 5 => 0
  | 6 => (L : Int)
  | 7 => (R : Int)
  | _ => 0
theorem Gro.add {lb off n tb base : Nat} {a b : World} (h : ∀ k, k < base → k ≠ tb → b.heap[k]? = a.heap[k]?) (e : b.os = a.os ∧ b.tape = a.tape ∧ b.output = a.output ∧ a.heap.size ≤ b.heap.size) (hlb : lb < base) (hne : tb ≠ lb) : Gro lb off n tb base a b :=
  ⟨e.1, e.2.1, e.2.2.1, e.2.2.2, fun k h1 h2 _ => h k h1 h2, fun i _ => World.cell?_of_block (a := ⟨lb, i, none⟩) (h lb hlb (Ne.symm hne)), fun i => World.frozen?_of_block (a := ⟨lb, i, none⟩) (h lb hlb (Ne.symm hne))⟩
theorem mn_B2 {x y : Int} (hx : B2 x) (hy : B2 y) : B2 (mn x y) := mn_bd hx hy
theorem mx_B2 {x y : Int} (hx : B2 x) (hy : B2 y) : B2 (mx x y) := mx_bd hx hy
theorem mn_l (x y : Int) : mn x y ≤ x := by unfold mn; split <;> omega
theorem mn_r (x y : Int) : mn x y ≤ y := by unfold mn; split <;> omega
theorem mx_l (x y : Int) : x ≤ mx x y := by unfold mx; split <;> omega
theorem mx_r (x y : Int) : y ≤ mx x y := by unfold mx; split <;> omega
/-- what growing answers -/
def Grown (base tb lb : Nat) (ai : Option Addr) (N ci : Nat) (U : Nat → Int) (n off m : Nat) (V D : Nat → Int) (w w' : World) : Prop :=
  ∃ v' D', TW w' base tb ai N ci v' (m + 2 * n - 1) D' ∧ Good N U (m + 2 * n - 1) D' ∧ (∀ q, q < m * 8 → D' q = D q) ∧ (∃ c, Cov (tab D') (m + 2 * n - 2) c ∧ c.Perm (plc V n)) ∧ Gro lb off n tb base w w'
set_option maxRecDepth 20000 in
set_option maxHeartbeats 1000000 in
theorem grow_one (base tb lb : Nat) (ai : Option Addr) (N ci : Nat) (U : Nat → Int) (hU : ∀ q, q < N * 5 → B1 (U q)) (hE : Els ai tb lb base) (htb : tb < base) (hlb : lb < base) (hne : tb ≠ lb) (n off cap m : Nat) (v : Value) (V D : Nat → Int) (w : World) (h1 : 1 ≤ n) (hcp : n ≤ cap) (hm : m + 2 * n ≤ 1000) (hR : Rwo w lb off n V) (hV : (∀ i, i < n → 0 ≤ V i ∧ V i < (N : Int))) (hF : Flat w ai (N * 5) U) (hT : TW w base tb ai N ci v m D) (hG : Good N U m D) (hb : base ≤ w.heap.size) (h2 : n = 1) :
    Calls Try.prog 64 #[.pointer (some ⟨tb, 0, none⟩), .slice (some ⟨lb, off, none⟩) n cap] w fun e w' => e = .returned (.int .i64 ((m + 2 * n - 2 : Nat) : Int)) ∧ Grown base tb lb ai N ci U n off m V D w w' := by
  subst h2
  obtain ⟨hV0, hV1⟩ := hV 0 (by omega)
  obtain ⟨p, hp⟩ := Int.eq_ofNat_of_zero_le hV0
  obtain ⟨b, o, rfl, hbl, hc⟩ := hF (by omega)
  have r0 := hR.cell 0 (by omega)
  rw [hp, Nat.add_zero] at r0
  have hpN : p < N := by omega
  obtain ⟨u1, u1'⟩ := hU (p * 5 + 1) (by omega)
  obtain ⟨u2, u2'⟩ := hU (p * 5 + 2) (by omega)
  obtain ⟨u3, u3'⟩ := hU (p * 5 + 3) (by omega)
  obtain ⟨u4, u4'⟩ := hU (p * 5 + 4) (by omega)
  go_enter Try.func64, Try.ntmps64
  go_wp2_with fail
  refine (leafOf_any tb b o N ci U p _ hpN hc hT.c0 (fun q hq => ⟨by have := (hU q hq).1; omega, by have := (hU q hq).2; omega⟩)).mono ?_; rintro e w1 ⟨rfl, hb1⟩
  go_wp2_with fail
  refine (add_any base tb _ N ci v m D (leafV U p) true _ (hT.below hb1) rfl (by omega) (Nat.le_trans hb hb1.size) htb).mono ?_; rintro e w2 ⟨rfl, v2, hT2, hk2, ho2⟩
  go_wp2_with fail
  go_ret
  have hGr : Gro lb off 1 tb base w w2 := (Gro.below hb1 (Nat.lt_of_lt_of_le hlb hb) hb).trans (Gro.add hk2 ho2 hlb hne) (Nat.le_refl _) (Nat.le_refl _)
  refine ⟨rfl, v2, more D (leafV U p) m, hT2, hG.more ⟨⟨by show _ ≤ _ - _; omega, by show _ - _ ≤ _; omega⟩, ⟨by show _ ≤ _ - _; omega, by show _ - _ ≤ _; omega⟩, ⟨by show _ ≤ _ + _; omega, by show _ + _ ≤ _; omega⟩, ⟨by show _ ≤ _ + _; omega, by show _ + _ ≤ _; omega⟩⟩ (fun _ => ⟨by show 0 ≤ (p : Int); omega, by show (p : Int) < _; omega, ?_⟩) (fun q => absurd rfl q), fun q hq => more_old hq, ⟨[p], .leaf ?_, ?_⟩, hGr⟩
  · show InA U (U (p * 5 + 1) - 256) (U (p * 5 + 2) - 256) (U (p * 5 + 3) + 256) (U (p * 5 + 4) + 256) p
    exact ⟨by omega, by omega, by omega, by omega⟩
  · have e4 : more D (leafV U p) m (m * 8 + 4) = 1 := more_new 4
    have e5 : more D (leafV U p) m (m * 8 + 5) = (p : Int) := more_new 5
    show (if more D (leafV U p) m ((m + 2 * 1 - 2) * 8 + 4) = 1 then _ else none) = _
    rw [show m + 2 * 1 - 2 = m by omega, e4, if_pos rfl, e5]
    rfl
  · show [p].Perm [(V 0).toNat]
    rw [hp]; exact List.Perm.refl _
set_option maxRecDepth 20000 in
set_option maxHeartbeats 1000000 in
theorem treeGrow_any (base tb lb : Nat) (ai : Option Addr) (N ci : Nat) (U : Nat → Int) (hU : ∀ q, q < N * 5 → B1 (U q)) (hE : Els ai tb lb base) (htb : tb < base) (hlb : lb < base) (hne : tb ≠ lb) (d : Nat) : ∀ (n off cap m : Nat) (v : Value) (V D : Nat → Int) (w : World), n ≤ d → 1 ≤ n → n ≤ cap → m + 2 * n ≤ 1000 → Rwo w lb off n V → (∀ i, i < n → 0 ≤ V i ∧ V i < (N : Int)) → Flat w ai (N * 5) U → TW w base tb ai N ci v m D → Good N U m D → base ≤ w.heap.size →
    Calls Try.prog 64 #[.pointer (some ⟨tb, 0, none⟩), .slice (some ⟨lb, off, none⟩) n cap] w fun e w' => e = .returned (.int .i64 ((m + 2 * n - 2 : Nat) : Int)) ∧ Grown base tb lb ai N ci U n off m V D w w' := by
  induction d with
  | zero => intro n off cap m v V D w h0 h1; omega
  | succ d ih =>
    intro n off cap m v V D w hd h1 hcp hm hR hV hF hT hG hb
    by_cases h2 : n = 1
    · exact grow_one base tb lb ai N ci U hU hE htb hlb hne n off cap m v V D w h1 hcp hm hR hV hF hT hG hb h2
    have hnn : ¬ ((n : Int) = 1) := by omega
    have hnq : ((n : Int) == 1) = false := beq_eq_false_iff_ne.2 hnn
    have hnq2 : (n == 1) = false := beq_eq_false_iff_ne.2 h2
    obtain ⟨hf, hhf⟩ : ∃ hf, n / 2 = hf := ⟨_, rfl⟩
    obtain ⟨hr, hhr⟩ : ∃ hr, n - hf = hr := ⟨_, rfl⟩
    obtain ⟨cr, hcr⟩ : ∃ cr, cap - hf = cr := ⟨_, rfl⟩
    have hq1 : Int.tdiv (n : Int) 2 = (hf : Int) := by rw [Int.tdiv_eq_ediv_of_nonneg (by omega)]; omega
    have hq2 : IntKind.i64.wrap (hf : Int) = (hf : Int) := i64w (by omega)
    have hlw : lb < w.heap.size := Nat.lt_of_lt_of_le hlb hb
    go_enter Try.func64, Try.ntmps64
    go_upto_region 4 with (go_at_call 74; refine (sortAlong_any tb lb off n cap ai N ci U V _ hF hR hV hlw (by omega) h1 (fun wr hr => hF.gro hE (Gro.trn hr hb)) (fun q hq => ⟨by have := (hU q hq).1; omega, by have := (hU q hq).2; omega⟩) hT.c0 hne).mono ?_; rintro e w1 ⟨rfl, ⟨⟨V1, hSw, hR1⟩, hTr⟩⟩)
    have hG1 : Gro lb off n tb base w w1 := Gro.trn hTr hb
    have hT1 : TW w1 base tb ai N ci v m D := hT.keep (hTr.but.block _ (cell_lt hT.c0) hne) fun k hk hk2 => hTr.but.block k hk2 (by omega)
    have hV1 := hSw.all (P := fun x => 0 ≤ x ∧ x < (N : Int)) hV
    have hF1 := hF.gro hE hG1
    have hb1 : base ≤ w1.heap.size := Nat.le_trans hb hG1.size
    obtain ⟨L, hL⟩ : ∃ L, m + 2 * hf - 2 = L := ⟨_, rfl⟩
    obtain ⟨Q, hQ⟩ : ∃ Q, m + 2 * n - 3 = Q := ⟨_, rfl⟩
    obtain ⟨m1, hm1⟩ : ∃ m1, m + 2 * hf - 1 = m1 := ⟨_, rfl⟩
    obtain ⟨m2, hm2⟩ : ∃ m2, m + 2 * n - 2 = m2 := ⟨_, rfl⟩
    go_upto_region 5 with fail
    go_cut [6] (fun s wc => s = .int .i64 (L : Int) ∧ Grown base tb lb ai N ci U hf off m V1 D w1 wc)
    case first =>
      go_wp2_with fail
      refine (ih hf off cap m v V1 D w1 (by omega) (by omega) (by omega) (by omega) ⟨fun i hi => hR1.cell i (by omega), fun i hi => hR1.free i (by omega)⟩ (fun i hi => hV1 i (by omega)) hF1 hT1 hG hb1).mono ?_
      rw [hL]
      rintro e w2 ⟨rfl, hgr⟩
      go_wp2_with fail
      go_meet
      exact ⟨rfl, hgr⟩
    case rest =>
    obtain ⟨rfl, v1, D1, hT2, hG2, ho2, ⟨c1, hc1, hp1⟩, hGr2⟩ := hcut
    rw [hm1] at hT2 hG2
    rw [hL] at hc1
    obtain ⟨w2, rfl⟩ : ∃ x, x = wc := ⟨_, rfl⟩
    have hF2 := hF1.gro hE hGr2
    have hb2 : base ≤ w2.heap.size := Nat.le_trans hb1 hGr2.size
    have hR2 : Rwo w2 lb (off + hf) hr (fun i => V1 (hf + i)) := hGr2.row ⟨fun i hi => by rw [Nat.add_assoc]; exact hR1.cell (hf + i) (by omega), fun i hi => by rw [Nat.add_assoc]; exact hR1.free (hf + i) (by omega)⟩ (.inr (Nat.le_refl _))
    go_upto_region 6 with fail
    go_cut [7] (fun s wc => s = .int .i64 (Q : Int) ∧ Grown base tb lb ai N ci U hr (off + hf) m1 (fun i => V1 (hf + i)) D1 w2 wc)
    case first =>
      go_wp2_with fail
      refine (ih hr (off + hf) cr m1 v1 (fun i => V1 (hf + i)) D1 w2 (by omega) (by omega) (by omega) (by omega) hR2 (fun i hi => hV1 (hf + i) (by omega)) hF2 hT2 hG2 hb2).mono ?_
      rw [show m1 + 2 * hr - 2 = Q by omega]
      rintro e w3 ⟨rfl, hgr⟩
      go_wp2_with fail
      go_meet
      exact ⟨rfl, hgr⟩
    case rest =>
    obtain ⟨rfl, v2, D2, hT3, hG3, ho3, ⟨c2, hc2, hp2⟩, hGr3⟩ := hcut
    rw [show m1 + 2 * hr - 1 = m2 by omega] at hT3 hG3
    rw [show m1 + 2 * hr - 2 = Q by omega] at hc2
    obtain ⟨w3, rfl⟩ : ∃ x, x = wc := ⟨_, rfl⟩
    have hb3 : base ≤ w3.heap.size := Nat.le_trans hb2 hGr3.size
    have hbL := hG3.bd L (by omega)
    have hbQ := hG3.bd Q (by omega)
    obtain ⟨-, rfl⟩ | ⟨g, cg, rfl⟩ := hT3.nl.is
    · exfalso
      have := hT3.nl.1
      have h0 := hT3.nl.2
      rcases h0 with ⟨_, q⟩ | ⟨g, cap, cur, hv, _⟩
      · omega
      · cases hv
    obtain ⟨a0, a1, a2, a3, -⟩ := hT3.nl.cells (q := L) (by omega)
    obtain ⟨d0, d1, d2, d3, -⟩ := hT3.nl.cells (q := Q) (by omega)
    have t1 := hT3.c1
    have iL : (L : Int) < (m2 : Int) := by omega
    have iQ : (Q : Int) < (m2 : Int) := by omega
    have FF : ∀ w', Below w3.heap.size w3 w' → w'.cell? ⟨tb, 1, none⟩ = some (.slice (some ⟨g, 0, none⟩) m2 cg) ∧ w'.cell? ⟨g, L * 8, none⟩ = some (.int .i64 (D2 (L * 8))) ∧ w'.cell? ⟨g, L * 8 + 1, none⟩ = some (.int .i64 (D2 (L * 8 + 1))) ∧ w'.cell? ⟨g, L * 8 + 2, none⟩ = some (.int .i64 (D2 (L * 8 + 2))) ∧ w'.cell? ⟨g, L * 8 + 3, none⟩ = some (.int .i64 (D2 (L * 8 + 3))) ∧ w'.cell? ⟨g, Q * 8, none⟩ = some (.int .i64 (D2 (Q * 8))) ∧ w'.cell? ⟨g, Q * 8 + 1, none⟩ = some (.int .i64 (D2 (Q * 8 + 1))) ∧ w'.cell? ⟨g, Q * 8 + 2, none⟩ = some (.int .i64 (D2 (Q * 8 + 2))) ∧ w'.cell? ⟨g, Q * 8 + 3, none⟩ = some (.int .i64 (D2 (Q * 8 + 3))) :=
      fun w' s => ⟨keepc s t1, keepc s a0, keepc s a1, keepc s a2, keepc s a3, keepc s d0, keepc s d1, keepc s d2, keepc s d3⟩
    go_upto_region 7 with fail
    go_cut [8] (fun v wc => ∃ x, v = .pointer (some ⟨x, 0, none⟩) ∧ Below w3.heap.size w3 wc ∧ Sp4 wc x (mn (D2 (L * 8)) (D2 (Q * 8))) (mn (D2 (L * 8 + 1)) (D2 (Q * 8 + 1))) (mx (D2 (L * 8 + 2)) (D2 (Q * 8 + 2))) (mx (D2 (L * 8 + 3)) (D2 (Q * 8 + 3))))
    case first =>
      refine wp_region_held_drew (S := fun w' => Below w3.heap.size w3 w') (by kernel_rfl) ((Below.refl _ _).drew) (fun hHeld => ?_)
      refine tq 0 hHeld ?_
      refine tq 1 hHeld ?_
      refine tq 2 hHeld ?_
      refine tq 3 hHeld ?_ (hv := by (intro w' s; obtain ⟨q1, q2, q3, q4, q5, q6, q7, q8, q9⟩ := FF w' s; go_simp; (try with_reducible rfl)))
      refine tq 4 hHeld ?_
      refine tq 5 hHeld ?_
      refine tq 6 hHeld ?_
      refine tq 7 hHeld ?_ (hv := by (intro w' s; obtain ⟨q1, q2, q3, q4, q5, q6, q7, q8, q9⟩ := FF w' s; go_simp; (try with_reducible rfl)))
      refine tq 8 hHeld ?_
      refine tq 9 hHeld ?_
      refine tq 10 hHeld ?_
      refine tq 11 hHeld ?_ (hv := by (intro w' s; obtain ⟨q1, q2, q3, q4, q5, q6, q7, q8, q9⟩ := FF w' s; go_simp; (try with_reducible rfl)))
      refine tq 12 hHeld ?_
      refine tq 13 hHeld ?_
      refine tq 14 hHeld ?_
      refine tq 15 hHeld ?_ (hv := by (intro w' s; obtain ⟨q1, q2, q3, q4, q5, q6, q7, q8, q9⟩ := FF w' s; go_simp; (try with_reducible rfl)))
      refine wpAnyH_ready (rs := [16, 17]) (by kernel_rfl) (by simp) ?_
      refine AllReadyH.cons rfl (fun K hK => ?_) (AllReadyH.cons rfl (fun K hK => ?_) AllReadyH.nil)
      · (go_simp; (go_at_call 54; refine (spanBoth_any _ _ _ _ _ _ _ _ _).mono ?_; rintro e w8 ⟨rfl, hb8⟩; obtain ⟨hc8, hf8⟩ := bcell hb8; have hz8 := hb8.size; (try simp only [World.size_drew, World.size_alloc, World.size_setCell] at hc8 hf8 hz8); (try have hc9 := fun o => hc8 w3.heap.size o (by omega)); (try have hf9 := fun o => hf8 w3.heap.size o (by omega)); clear hc8 hf8); (try go_wp2_with fail); refine tr hK (fun hHeld => ?_) (hHeld.trans (hb8.mono hHeld.size)); clear hK K)
        refine tc 17 fun K hK => ?_
        (go_simp; refine tr hK (fun hHeld => ?_) (hHeld.alloc hHeld.size _); clear hK K)
        refine tc 18 fun K hK => ?_
        (go_simp; refine tr hK (fun hHeld => ?_) bel_a; clear hK K)
        refine wpAnyH_done (by kernel_rfl) ?_ _
        go_wp2_with fail
        go_meet
        exact ⟨_, rfl, hHeld, ⟨by go_simp, by go_simp, by go_simp, by go_simp⟩⟩
      · (go_simp; refine tr hK (fun hHeld => ?_) (hHeld.alloc hHeld.size _); clear hK K)
        refine tc 16 fun K hK => ?_
        (go_simp; (go_at_call 54; refine (spanBoth_any _ _ _ _ _ _ _ _ _).mono ?_; rintro e w8 ⟨rfl, hb8⟩; obtain ⟨hc8, hf8⟩ := bcell hb8; have hz8 := hb8.size; (try simp only [World.size_drew, World.size_alloc, World.size_setCell] at hc8 hf8 hz8); (try have hc9 := fun o => hc8 w3.heap.size o (by omega)); (try have hf9 := fun o => hf8 w3.heap.size o (by omega)); clear hc8 hf8); (try go_wp2_with fail); refine tr hK (fun hHeld => ?_) (hHeld.trans (hb8.mono hHeld.size)); clear hK K)
        refine tc 18 fun K hK => ?_
        (go_simp; refine tr hK (fun hHeld => ?_) bel_a; clear hK K)
        refine wpAnyH_done (by kernel_rfl) ?_ _
        go_wp2_with fail
        go_meet
        exact ⟨_, rfl, hHeld, ⟨by go_simp, by go_simp, by go_simp, by go_simp⟩⟩
    case rest =>
    obtain ⟨x, rfl, hB, ⟨s0, s1, s2, s3⟩⟩ := hcut
    clear FF a0 a1 a2 a3 d0 d1 d2 d3
    go_wp2_with fail
    refine (add_any base tb ai N ci _ m2 D2 (nodeV (mn (D2 (L * 8)) (D2 (Q * 8))) (mn (D2 (L * 8 + 1)) (D2 (Q * 8 + 1))) (mx (D2 (L * 8 + 2)) (D2 (Q * 8 + 2))) (mx (D2 (L * 8 + 3)) (D2 (Q * 8 + 3))) L Q) false wc (hT3.below hB) (by simp [nodeV]) (by omega) (Nat.le_trans hb3 hB.size) htb).mono ?_
    rintro e w4 ⟨rfl, v4, hT4, hk4, ho4⟩
    go_wp2_with fail
    go_ret
    have hGr : Gro lb off n tb base w w4 := (hG1.trans hGr2 (Nat.le_refl _) (by omega)).trans (hGr3.trans ((Gro.below hB (Nat.lt_of_lt_of_le hlb hb3) hb3).trans (off2 := off + hf) (n2 := hr) (Gro.add hk4 ho4 hlb hne) (Nat.le_refl _) (Nat.le_refl _)) (Nat.le_refl _) (Nat.le_refl _)) (by omega) (by omega)
    have hc1' : Cov (tab D2) L c1 := hc1.same (Same4.of fun q hq => (ho3 q hq).symm) hG2.down (by omega)
    have hGM : Good N U (m2 + 1) (more D2 (nodeV (mn (D2 (L * 8)) (D2 (Q * 8))) (mn (D2 (L * 8 + 1)) (D2 (Q * 8 + 1))) (mx (D2 (L * 8 + 2)) (D2 (Q * 8 + 2))) (mx (D2 (L * 8 + 3)) (D2 (Q * 8 + 3))) L Q) m2) := by
      refine hG3.more ⟨mn_B2 hbL.1 hbQ.1, mn_B2 hbL.2.1 hbQ.2.1, mx_B2 hbL.2.2.1 hbQ.2.2.1, mx_B2 hbL.2.2.2 hbQ.2.2.2⟩ (fun q => absurd q (by simp [nodeV])) (fun _ => ⟨by show 0 ≤ (L : Int); omega, by show (L : Int) < _; omega, by show 0 ≤ (Q : Int); omega, by show (Q : Int) < _; omega, fun j hj => ?_⟩)
      rcases hj with rfl | rfl
      · exact ⟨mn_l _ _, mn_l _ _, mx_l _ _, mx_l _ _⟩
      · exact ⟨mn_r _ _, mn_r _ _, mx_r _ _, mx_r _ _⟩
    have hm3 : m + 2 * n - 1 = m2 + 1 := by omega
    refine ⟨by rw [hm2]; rfl, v4, more D2 (nodeV (mn (D2 (L * 8)) (D2 (Q * 8))) (mn (D2 (L * 8 + 1)) (D2 (Q * 8 + 1))) (mx (D2 (L * 8 + 2)) (D2 (Q * 8 + 2))) (mx (D2 (L * 8 + 3)) (D2 (Q * 8 + 3))) L Q) m2, hm3 ▸ hT4, hm3 ▸ hGM, fun q hq => (more_old (by omega)).trans ((ho3 q (by omega)).trans (ho2 q hq)), ⟨c1 ++ c2, ?_, ?_⟩, hGr⟩
    · rw [show m + 2 * n - 2 = m2 by omega]
      have e4 : ∀ V', more D2 V' m2 (m2 * 8 + 4) = V' 4 := fun V' => more_new 4
      have e6 : ∀ V', more D2 V' m2 (m2 * 8 + 6) = V' 6 := fun V' => more_new 6
      have e7 : ∀ V', more D2 V' m2 (m2 * 8 + 7) = V' 7 := fun V' => more_new 7
      refine .node ?_ ?_ ?_
      · simp only [tab]
        rw [e4]
        simp [nodeV]
      · simp only [tab]
        rw [e6]
        exact Cov.more (k := L) hG3 hc1' (by omega)
      · simp only [tab]
        rw [e7]
        exact Cov.more (k := Q) hG3 hc2 (by omega)
    · have hpl : plc V1 n = plc V1 hf ++ plc (fun i => V1 (hf + i)) hr := by rw [show n = hf + hr by omega]; exact plc_split V1 hf hr
      exact (List.Perm.append hp1 hp2).trans ((hpl ▸ List.Perm.refl _ : (plc V1 hf ++ plc (fun i => V1 (hf + i)) hr).Perm (plc V1 n)).trans hSw.plc)
end Go.Proofs.Ytbngdlbecdloiaa
