/- Texts of a proof. -/
import Derived.Test.YtlbpmmjckoaleaaGreatCsOf
import Derived.Test.YtlbpmmjckoaleaaGreatB3
import Derived.Deep.RegionHeld3
import Derived.Deep.DeepCutAuto
set_option maxHeartbeats 16000000
set_option maxRecDepth 20000
namespace Go.Proofs.YtlbpmmjckoaleaaGreat
open Go.RowKit
set_option linter.unusedVariables false
set_option linter.unusedSimpArgs false
def rootF (F : Nat → Nat) (i : Nat) : Nat := if h : F i < i then rootF F (F i) else i
termination_by i
theorem root_lt {F : Nat → Nat} {i : Nat} (h : F i < i) : rootF F i = rootF F (F i) := by rw [rootF, dif_pos h]
theorem root_self {F : Nat → Nat} {i : Nat} (h : ¬ F i < i) : rootF F i = i := by rw [rootF, dif_neg h]
theorem root_step {F : Nat → Nat} (le : ∀ i, F i ≤ i) (i : Nat) : rootF F (F i) = rootF F i := by
  by_cases h : F i < i
  · rw [root_lt h]
  · have e : F i = i := by have := le i; omega
    rw [e]
theorem root_le (F : Nat → Nat) : ∀ i, rootF F i ≤ i := by
  intro i
  induction i using Nat.strongRecOn with
  | ind i ih =>
    by_cases h : F i < i
    · rw [root_lt h]; exact Nat.le_trans (ih _ h) (Nat.le_of_lt h)
    · rw [root_self h]; exact Nat.le_refl _
theorem root_top (F : Nat → Nat) : ∀ i, ¬ F (rootF F i) < rootF F i := by
  intro i
  induction i using Nat.strongRecOn with
  | ind i ih =>
    by_cases h : F i < i
    · rw [root_lt h]; exact ih _ h
    · rw [root_self h]; exact h
def setF (F : Nat → Nat) (p v : Nat) : Nat → Nat := fun j => if j = p then v else F j
theorem setF_at (F : Nat → Nat) (p v : Nat) : setF F p v p = v := if_pos rfl
theorem setF_ne {F : Nat → Nat} {p v j : Nat} (h : j ≠ p) : setF F p v j = F j := if_neg h
theorem setF_le {F : Nat → Nat} {p v : Nat} (le : ∀ i, F i ≤ i) (hv : v ≤ p) : ∀ i, setF F p v i ≤ i := fun i => by
  by_cases e : i = p
  · subst e; rw [setF_at]; exact hv
  · rw [setF_ne e]; exact le i
theorem root_half {F : Nat → Nat} (le : ∀ i, F i ≤ i) (p : Nat) : ∀ j, rootF (setF F p (F (F p))) j = rootF F j := by
  intro j
  induction j using Nat.strongRecOn with
  | ind j ih =>
    by_cases e : j = p
    · subst e
      have l1 := le j
      have l2 := le (F j)
      by_cases h : F (F j) < j
      · rw [root_lt (by rw [setF_at]; exact h), setF_at, ih _ h, root_step le, root_step le]
      · rw [root_self (by rw [setF_at]; exact h), root_self (by omega)]
    · by_cases h : F j < j
      · rw [root_lt (by rw [setF_ne e]; exact h), setF_ne e, ih _ h, root_step le]
      · rw [root_self (by rw [setF_ne e]; exact h), root_self h]
theorem root_join {F : Nat → Nat} {m M : Nat} (hm : ¬ F m < m) (hM : ¬ F M < M) (hmM : m ≤ M) : ∀ j, rootF (setF F M m) j = if rootF F j = M then m else rootF F j := by
  intro j
  induction j using Nat.strongRecOn with
  | ind j ih =>
    by_cases e : j = M
    · subst e
      rw [root_self (F := F) hM, if_pos rfl]
      by_cases h : m < j
      · rw [root_lt (by rw [setF_at]; exact h), setF_at, root_self (by rw [setF_ne (by omega)]; exact hm)]
      · rw [root_self (by rw [setF_at]; exact h)]; omega
    · by_cases h : F j < j
      · rw [root_lt (by rw [setF_ne e]; exact h), setF_ne e, ih _ h, ← root_lt h]
      · rw [root_self (by rw [setF_ne e]; exact h), root_self h, if_neg e]
structure Uf (w : World) (ub g n c : Nat) (F : Nat → Nat) : Prop where
  hd : w.cell? ⟨ub, 0, none⟩ = some (.slice (some ⟨g, 0, none⟩) n c)
  row : ∀ i, i < n → w.cell? ⟨g, i, none⟩ = some (.int .i64 (F i : Int))
  fz : ∀ i, w.frozen? ⟨g, i, none⟩ = false
  le : ∀ i, F i ≤ i
  ne : ub ≠ g
  l1 : ub < w.heap.size
  l2 : g < w.heap.size
theorem Uf.on {w w' : World} {ub g n c : Nat} {F : Nat → Nat} (h : Uf w ub g n c F) (k : Below w.heap.size w w') : Uf w' ub g n c F :=
  ⟨(k.cell (p := ⟨ub, 0, none⟩) h.l1).trans h.hd, fun i hi => (k.cell (p := ⟨g, i, none⟩) h.l2).trans (h.row i hi), fun i => (k.frozen (p := ⟨g, i, none⟩) h.l2).trans (h.fz i), h.le, h.ne, Nat.lt_of_lt_of_le h.l1 k.size, Nat.lt_of_lt_of_le h.l2 k.size⟩
theorem Uf.set {w : World} {ub g n c : Nat} {F : Nat → Nat} (h : Uf w ub g n c F) {p v : Nat} (hp : p < n) (hv : v ≤ p) : Uf (w.setCell ⟨g, p, none⟩ (.int .i64 (v : Int))) ub g n c (setF F p v) := by
  refine ⟨?_, fun i hi => ?_, fun i => by rw [World.frozen?_setCell]; exact h.fz i, setF_le h.le hv, h.ne, by simpa using h.l1, by simpa using h.l2⟩
  · rw [cset_far (by simp; have := h.ne; omega)]; exact h.hd
  · by_cases e : i = p
    · subst e; rw [cset_map, h.row i hi, setF_at]; rfl
    · rw [cset_other (by intro q; cases q; exact e rfl), setF_ne e]; exact h.row i hi
theorem top_q (ub g n c p : Nat) (F : Nat → Nat) (w : World) (h : Uf w ub g n c F) (hp : p < n) :
    Calls Tryz.prog 49 #[.pointer (some ⟨ub, 0, none⟩), .int .i64 (p : Int)] w fun e w' => e = .returned (.int .i64 (rootF F p : Int)) ∧ (∃ F', Uf w' ub g n c F' ∧ ∀ j, rootF F' j = rootF F j) ∧ Fr (fun b => b = g) w w' := by
  have hset := cset_map
  go_enter Tryz.func49, Tryz.ntmps49
  go_upto_region 1 with fail
  go_loopw [1] (fun s1 wr => ∃ (q : Nat) (F' : Nat → Nat), s1 = .int .i64 (q : Int) ∧ q < n ∧ Uf wr ub g n c F' ∧ (∀ j, rootF F' j = rootF F j) ∧ rootF F' q = rootF F p ∧ Fr (fun b => b = g) w wr) (fun s1 _ => (intOf s1).toNat)
  case atStart => exact ⟨p, F, rfl, hp, h, fun _ => rfl, rfl, Fr.refl _ _⟩
  case round =>
    obtain ⟨q, F', rfl, hqn, hU, hall0, hrt0, hF⟩ := hrel
    have hall : Shut (∀ j, rootF F' j = rootF F j) := hall0
    have hrt : Shut (rootF F' q = rootF F p) := hrt0
    clear hall0 hrt0
    have hqi : (q : Int) < (n : Int) := by omega
    have u0 := hU.hd
    have uq := hU.row q hqn
    have uf := hU.fz
    have hle := hU.le
    by_cases e : F' q = q
    · have ee : ((F' q : Int) != (q : Int)) = false := by simp [e]
      have hv : rootF F p = q := by rw [← hrt.out, root_self (by omega)]
      clear e hrt
      go_wp2_with fail
      go_ret
      refine ⟨?_, ⟨F', hU, hall.out⟩, hF⟩
      rw [hv]
      rfl
    · have hlq : F' q < q := by have := hle q; omega
      have ee : ((F' q : Int) != (q : Int)) = true := by simp; omega
      have HH0 := root_half hle q
      have HR0 : rootF F' (F' (F' q)) = rootF F' q := by rw [root_step hle, root_step hle]
      have hr2 := hle (F' q)
      have ur := hU.row (F' q) (by omega)
      obtain ⟨s, hs⟩ : ∃ s, F' q = s := ⟨_, rfl⟩
      rw [hs] at uq ee hlq HH0 HR0 hr2 ur
      obtain ⟨r, hr⟩ : ∃ r, F' s = r := ⟨_, rfl⟩
      rw [hr] at HH0 HR0 hr2 ur
      have HH : Shut (∀ j, rootF (setF F' q r) j = rootF F j) := fun j => (HH0 j).trans (hall.out j)
      have HR : Shut (rootF (setF F' q r) r = rootF F p) := (HH0 r).trans (HR0.trans hrt.out)
      clear HH0 HR0 hall hrt e hs hr hle
      have hsi : (s : Int) < (n : Int) := by omega
      have hr2q : r ≤ q := by omega
      go_upto_region 2 with fail
      refine wp_region_held_drew (S := fun w' => w'.cell? ⟨ub, 0, none⟩ = some (.slice (some ⟨g, 0, none⟩) n c)) (by kernel_rfl) ?_ (fun hHeld => ?_)
      · (try dsimp only)
        (first | (go_simp; done) | (go_keep; done))
      refine tq 0 hHeld ?_
      refine tq 1 hHeld ?_
      refine tq 2 hHeld ?_
      refine tq 3 hHeld ?_
      refine tq 4 hHeld ?_
      refine tq 5 hHeld ?_
      refine tq 6 hHeld ?_
      refine tq 7 hHeld ?_
      refine tq 8 hHeld ?_
      refine tq 9 hHeld ?_
      refine tq 10 hHeld ?_
      refine tq 11 hHeld ?_
      refine tq 12 hHeld ?_
      refine tq 13 hHeld ?_
      refine tq 14 hHeld ?_
      refine tc 15 fun K hK => ?_
      (go_simp
       refine tr hK (fun hHeld => ?_)
       clear hK K)
      refine tq 16 hHeld ?_
      refine tc 17 fun K hK => ?_
      (go_simp
       refine tr hK (fun hHeld => ?_)
       clear hK K)
      refine tq 18 hHeld ?_
      refine tc 19 fun K hK => ?_
      (go_simp
       have hU2 := hU.set (v := r) hqn hr2q
       have hF2 := hF.trans (Fr.setCell (X := fun b => b = g) (p := ⟨g, q, none⟩) rfl (.int .i64 (r : Int)))
       clear u0 uq ur
       replace hU2 := hU2.on (Below.drew (Below.refl _ _))
       replace hF2 := hF2.drew
       generalize (wr.setCell ⟨g, q, none⟩ (.int .i64 (r : Int))).drew = w5 at hU2 hF2 ⊢
       have u0 := hU2.hd
       refine tr hK (fun hHeld => ?_)
       clear hK K)
      refine wpAnyH_done (by kernel_rfl) ?_ _
      have uq := hU2.row q hqn
      rw [setF_at] at uq
      go_wp2_with fail
      go_roundw
      case rel => exact ⟨r, _, rfl, by omega, hU2, HH.out, HR.out, hF2⟩
      case measure => simp [intOf]; omega
theorem join_q (ub g n c p q : Nat) (F : Nat → Nat) (w : World) (h : Uf w ub g n c F) (hp : p < n) (hq : q < n) :
    Calls Tryz.prog 77 #[.pointer (some ⟨ub, 0, none⟩), .int .i64 (p : Int), .int .i64 (q : Int)] w fun e w' => e = .returned (.tuple #[]) ∧ (∃ F', Uf w' ub g n c F' ∧ ∀ j, rootF F' j = if rootF F j = max (rootF F p) (rootF F q) then min (rootF F p) (rootF F q) else rootF F j) ∧ Fr (fun b => b = g) w w' := by
  have hset := cset_map
  have lp := root_le F p
  have lq := root_le F q
  go_enter Tryz.func77, Tryz.ntmps77
  go_upto_region 1 with (first
    | (have _ := hF1; go_at_call 49; refine (top_q ub g n c q F1 _ hU1 hq).mono ?_; rintro e w2 ⟨rfl, ⟨F2, hU2, hE2⟩, hF2⟩)
    | (go_at_call 49; refine (top_q ub g n c p F _ h hp).mono ?_; rintro e w1 ⟨rfl, ⟨F1, hU1, hE1⟩, hF1⟩))
  have hE : ∀ j, rootF F2 j = rootF F j := fun j => (hE2 j).trans (hE1 j)
  have hF := hF1.trans hF2
  (try rw [hE1 q])
  have hU := hU2
  obtain ⟨F', hF'⟩ : ∃ F', F2 = F' := ⟨_, rfl⟩
  rw [hF'] at hU hE
  clear hE1 hE2 hF1 hF2 hU1 hU2 hF'
  have tp : ¬ F' (rootF F p) < rootF F p := by rw [← hE p]; exact root_top F' p
  have tq' : ¬ F' (rootF F q) < rootF F q := by rw [← hE q]; exact root_top F' q
  generalize hA0 : rootF F p = A at lp tp ⊢
  generalize hB0 : rootF F q = B at lq tq' ⊢
  have hA : Shut (rootF F p = A) := hA0
  have hB : Shut (rootF F q = B) := hB0
  have HE : Shut (∀ j, rootF F' j = rootF F j) := hE
  clear hA0 hB0 hE
  have u0 := hU.hd
  have uf := hU.fz
  by_cases hAB : A < B
  · have i1 : (A : Int) < (B : Int) := by omega
    have i2 : ¬ (B : Int) < (A : Int) := by omega
    have i3 : (B : Int) < (n : Int) := by omega
    have uB := hU.row B (by omega)
    have hJ : Shut (∀ j, rootF (setF F' B A) j = if rootF F' j = B then A else rootF F' j) := root_join (m := A) (M := B) tp tq' (by omega)
    have hmx : Shut (max A B = B ∧ min A B = A) := by show _ ∧ _; omega
    have hU2 := hU.set (p := B) (v := A) (by omega) (by omega)
    clear tp tq' lp lq
    go_wp2_with fail
    go_end0
    exact ⟨rfl, ⟨_, hU2, fun j => by rw [hJ.out j, HE.out j, hA.out, hB.out, hmx.out.1, hmx.out.2]⟩, hF.trans (Fr.setCell (X := fun b => b = g) rfl _)⟩
  · by_cases hBA : B < A
    · have i1 : (B : Int) < (A : Int) := by omega
      have i2 : ¬ (A : Int) < (B : Int) := by omega
      have i3 : (A : Int) < (n : Int) := by omega
      have uB := hU.row A (by omega)
      have hJ : Shut (∀ j, rootF (setF F' A B) j = if rootF F' j = A then B else rootF F' j) := root_join (m := B) (M := A) tq' tp (by omega)
      have hmx : Shut (max A B = A ∧ min A B = B) := by show _ ∧ _; omega
      have hU2 := hU.set (p := A) (v := B) (by omega) (by omega)
      clear tp tq' lp lq
      go_wp2_with fail
      go_end0
      exact ⟨rfl, ⟨_, hU2, fun j => by rw [hJ.out j, HE.out j, hA.out, hB.out, hmx.out.1, hmx.out.2]⟩, hF.trans (Fr.setCell (X := fun b => b = g) rfl _)⟩
    · obtain rfl : A = B := by omega
      have i2 : ¬ (A : Int) < (A : Int) := by omega
      have i3 : (A : Int) < (n : Int) := by omega
      have uB := hU.row A (by omega)
      have hJ : Shut (∀ j, rootF (setF F' A A) j = if rootF F' j = A then A else rootF F' j) := root_join (m := A) (M := A) tp tp (by omega)
      have hmx : Shut (max A A = A ∧ min A A = A) := by show _ ∧ _; omega
      have hU2 := hU.set (p := A) (v := A) (by omega) (by omega)
      clear tp tq' lp lq
      go_wp2_with fail
      go_end0
      exact ⟨rfl, ⟨_, hU2, fun j => by rw [hJ.out j, HE.out j, hA.out, hB.out, hmx.out.1, hmx.out.2]⟩, hF.trans (Fr.setCell (X := fun b => b = g) rfl _)⟩
def stp (G : Nat → Nat) : Option (Nat × Nat) → Nat → Nat
  | none => G
  | some (A, B) => fun j => if j = A ∨ j = B then min (G A) (G B) else G j
def rnd (E : Nat → Option (Nat × Nat)) (G : Nat → Nat) : Nat → Nat → Nat
  | 0 => G
  | k + 1 => stp (rnd E G k) (E k)
def rnds (E : Nat → Option (Nat × Nat)) (M : Nat) : Nat → Nat → Nat
  | 0 => fun j => j
  | r + 1 => rnd E (rnds E M r) M
def jn (L : Nat → Nat) : Option (Nat × Nat) → Nat → Nat
  | none => L
  | some (A, B) => fun j => if L j = max (L A) (L B) then min (L A) (L B) else L j
def lab (E : Nat → Option (Nat × Nat)) : Nat → Nat → Nat
  | 0 => fun j => j
  | k + 1 => jn (lab E k) (E k)
theorem lab_le (E : Nat → Option (Nat × Nat)) : ∀ k j, lab E k j ≤ j
  | 0, j => Nat.le_refl _
  | k + 1, j => by
    have ih := lab_le E k
    rw [lab]
    cases h : E k with
    | none => exact ih j
    | some p =>
      obtain ⟨A, B⟩ := p
      show (if lab E k j = max (lab E k A) (lab E k B) then min (lab E k A) (lab E k B) else lab E k j) ≤ j
      have := ih j
      split <;> omega
theorem lab_edge (E : Nat → Option (Nat × Nat)) : ∀ k i A B, i < k → E i = some (A, B) → lab E k A = lab E k B
  | 0, i, _, _, h, _ => absurd h (Nat.not_lt_zero _)
  | k + 1, i, A, B, h, e => by
    rw [lab]
    cases hk : E k with
    | none =>
      by_cases hi : i = k
      · subst hi; rw [hk] at e; cases e
      · exact lab_edge E k i A B (by omega) e
    | some p =>
      obtain ⟨C, D⟩ := p
      show (if lab E k A = max (lab E k C) (lab E k D) then min (lab E k C) (lab E k D) else lab E k A) = (if lab E k B = max (lab E k C) (lab E k D) then min (lab E k C) (lab E k D) else lab E k B)
      by_cases hi : i = k
      · subst hi
        rw [hk] at e
        simp only [Option.some.injEq, Prod.mk.injEq] at e
        obtain ⟨rfl, rfl⟩ := e
        split <;> split <;> omega
      · rw [lab_edge E k i A B (by omega) e]
theorem lab_set (E : Nat → Option (Nat × Nat)) (X : Nat → Prop) : ∀ k, (∀ i A B, i < k → E i = some (A, B) → (X A ↔ X B)) → ∀ j, (X (lab E k j) ↔ X j)
  | 0, _, j => Iff.rfl
  | k + 1, hX, j => by
    have ih := lab_set E X k (fun i A B h e => hX i A B (by omega) e)
    rw [lab]
    cases hk : E k with
    | none => exact ih j
    | some p =>
      obtain ⟨A, B⟩ := p
      show X (if lab E k j = max (lab E k A) (lab E k B) then min (lab E k A) (lab E k B) else lab E k j) ↔ X j
      have hAB := hX k A B (Nat.lt_succ_self _) hk
      have h1 := ih A
      have h2 := ih B
      have h3 := ih j
      by_cases e : lab E k j = max (lab E k A) (lab E k B)
      · rw [if_pos e]
        rcases Nat.le_total (lab E k A) (lab E k B) with q | q
        · rw [Nat.min_eq_left q]
          rw [Nat.max_eq_right q] at e
          rw [e] at h3
          exact h1.trans (hAB.trans (h2.symm.trans h3))
        · rw [Nat.min_eq_right q]
          rw [Nat.max_eq_left q] at e
          rw [e] at h3
          exact h2.trans (hAB.symm.trans (h1.symm.trans h3))
      · rw [if_neg e]; exact h3
theorem lab_idem (E : Nat → Option (Nat × Nat)) (k j : Nat) : lab E k (lab E k j) = lab E k j :=
  (lab_set E (fun x => lab E k x = lab E k j) k (fun i A B h e => by rw [lab_edge E k i A B h e]) j).2 rfl
theorem stp_le (G : Nat → Nat) (e : Option (Nat × Nat)) (j : Nat) : stp G e j ≤ G j := by
  cases e with
  | none => exact Nat.le_refl _
  | some p =>
    obtain ⟨A, B⟩ := p
    show (if j = A ∨ j = B then min (G A) (G B) else G j) ≤ G j
    by_cases h : j = A ∨ j = B
    · rw [if_pos h]
      rcases h with rfl | rfl
      · exact Nat.min_le_left _ _
      · exact Nat.min_le_right _ _
    · rw [if_neg h]; exact Nat.le_refl _
theorem rnd_le (E : Nat → Option (Nat × Nat)) (G : Nat → Nat) : ∀ k j, rnd E G k j ≤ G j
  | 0, _ => Nat.le_refl _
  | k + 1, j => Nat.le_trans (stp_le _ _ _) (rnd_le E G k j)
theorem rnd_mono (E : Nat → Option (Nat × Nat)) (G : Nat → Nat) (k : Nat) : ∀ m, k ≤ m → ∀ j, rnd E G m j ≤ rnd E G k j
  | 0, h, j => by
    obtain rfl : k = 0 := by omega
    exact Nat.le_refl _
  | m + 1, h, j => by
    by_cases e : k = m + 1
    · subst e; exact Nat.le_refl _
    · exact Nat.le_trans (stp_le _ _ _) (rnd_mono E G k m (by omega) j)
def Same (L G : Nat → Nat) : Prop := ∀ j, L (G j) = L j
theorem stp_same {L G : Nat → Nat} {e : Option (Nat × Nat)} (h : Same L G) (he : ∀ A B, e = some (A, B) → L A = L B) : Same L (stp G e) := by
  intro j
  cases e with
  | none => exact h j
  | some p =>
    obtain ⟨A, B⟩ := p
    have q := he A B rfl
    show L (if j = A ∨ j = B then min (G A) (G B) else G j) = L j
    by_cases hj : j = A ∨ j = B
    · rw [if_pos hj]
      have hm : L (min (G A) (G B)) = L A := by
        rcases Nat.le_total (G A) (G B) with z | z
        · rw [Nat.min_eq_left z]; exact h A
        · rw [Nat.min_eq_right z]; exact (h B).trans q.symm
      rw [hm]
      rcases hj with rfl | rfl
      · rfl
      · exact q
    · rw [if_neg hj]; exact h j
theorem rnd_same {E : Nat → Option (Nat × Nat)} {L G : Nat → Nat} {M : Nat} (hE : ∀ i A B, i < M → E i = some (A, B) → L A = L B) (h : Same L G) : ∀ k, k ≤ M → Same L (rnd E G k)
  | 0, _ => h
  | k + 1, hk => stp_same (rnd_same hE h k (by omega)) (fun A B e => hE k A B (by omega) e)
theorem rnds_same {E : Nat → Option (Nat × Nat)} {L : Nat → Nat} {M : Nat} (hE : ∀ i A B, i < M → E i = some (A, B) → L A = L B) : ∀ r, Same L (rnds E M r)
  | 0 => fun _ => rfl
  | r + 1 => rnd_same hE (rnds_same hE r) M (Nat.le_refl _)
theorem rnds_le (E : Nat → Option (Nat × Nat)) (M : Nat) : ∀ r j, rnds E M r j ≤ j
  | 0, _ => Nat.le_refl _
  | r + 1, j => Nat.le_trans (rnd_le E _ M j) (rnds_le E M r j)
def cntp (p : Nat → Bool) : Nat → Nat
  | 0 => 0
  | n + 1 => cntp p n + (if p n = true then 1 else 0)
theorem cntp_le (p : Nat → Bool) : ∀ n, cntp p n ≤ n
  | 0 => Nat.le_refl _
  | n + 1 => by have := cntp_le p n; rw [cntp]; split <;> omega
theorem cntp_mono {p q : Nat → Bool} : ∀ n, (∀ v, v < n → p v = true → q v = true) → cntp p n ≤ cntp q n
  | 0, _ => Nat.le_refl _
  | n + 1, h => by
    have a := cntp_mono (p := p) (q := q) n (fun v hv => h v (by omega))
    have b := h n (by omega)
    rw [cntp, cntp]
    by_cases e : p n = true
    · rw [if_pos e, if_pos (b e)]; omega
    · rw [if_neg e]; omega
theorem cntp_lt {p q : Nat → Bool} {y : Nat} : ∀ n, y < n → (∀ v, v < n → p v = true → q v = true) → p y = false → q y = true → cntp p n < cntp q n
  | 0, h, _, _, _ => absurd h (Nat.not_lt_zero _)
  | n + 1, h, hm, h1, h2 => by
    rw [cntp, cntp]
    by_cases e : y = n
    · subst e
      have a := cntp_mono (p := p) (q := q) y (fun v hv => hm v (by omega))
      rw [if_neg (by rw [h1]; simp), if_pos h2]; omega
    · have a := cntp_lt n (by omega) (fun v hv => hm v (by omega)) h1 h2
      have b := hm n (by omega)
      by_cases z : p n = true
      · rw [if_pos z, if_pos (b z)]; omega
      · rw [if_neg z]; omega
theorem rnds_lab (E : Nat → Option (Nat × Nat)) (M n : Nat) (hE : ∀ i A B, i < M → E i = some (A, B) → A < n ∧ B < n) : ∀ v, v < n → rnds E M n v = lab E M v := by
  have hedge := fun i A B (h : i < M) (e : E i = some (A, B)) => lab_edge E M i A B h e
  have hsame := rnds_same (E := E) (L := lab E M) (M := M) hedge
  have hge : ∀ r j, lab E M j ≤ rnds E M r j := fun r j => by
    have a := lab_le E M (rnds E M r j)
    rw [hsame r j] at a
    exact a
  have key : ∀ r, (∀ v, v < n → rnds E M r v = lab E M v) ∨ r < cntp (fun v => decide (rnds E M r v = lab E M v)) n := by
    intro r
    induction r with
    | zero =>
      by_cases h0 : n = 0
      · left; intro v hv; omega
      · right
        have z : lab E M 0 = 0 := by have := lab_le E M 0; omega
        have := cntp_lt (p := fun _ => false) (q := fun v => decide (rnds E M 0 v = lab E M v)) (y := 0) n (by omega) (fun _ _ h => by cases h) rfl (by show decide (0 = lab E M 0) = true; rw [z]; rfl)
        omega
    | succ r ih =>
      have mono : ∀ v, rnds E M r v = lab E M v → rnds E M (r + 1) v = lab E M v := fun v e => by
        have a := rnd_le E (rnds E M r) M v
        have b := hge (r + 1) v
        have c : rnds E M (r + 1) v = rnd E (rnds E M r) M v := rfl
        omega
      rcases ih with ih | ih
      · left; intro v hv; exact mono v (ih v hv)
      · by_cases all : ∀ v, v < n → rnds E M (r + 1) v = lab E M v
        · left; exact all
        · right
          -- an edge that parts what is there from what is not
          have cross : ∃ y, y < n ∧ rnds E M r y ≠ lab E M y ∧ rnds E M (r + 1) y = lab E M y := by
            refine Classical.byContradiction fun hno => all fun v hv => mono v ?_
            have closed : ∀ i A B, i < M → E i = some (A, B) → (rnds E M r A = lab E M A ↔ rnds E M r B = lab E M B) := by
              intro i A B hi e
              have hb := hE i A B hi e
              have hl := hedge i A B hi e
              have st : rnd E (rnds E M r) (i + 1) A = min (rnd E (rnds E M r) i A) (rnd E (rnds E M r) i B) ∧ rnd E (rnds E M r) (i + 1) B = min (rnd E (rnds E M r) i A) (rnd E (rnds E M r) i B) := by
                constructor
                · show stp _ (E i) A = _; rw [e]; show (if A = A ∨ A = B then _ else _) = _; rw [if_pos (.inl rfl)]
                · show stp _ (E i) B = _; rw [e]; show (if B = A ∨ B = B then _ else _) = _; rw [if_pos (.inr rfl)]
              have mA := rnd_mono E (rnds E M r) (i + 1) M (by omega) A
              have mB := rnd_mono E (rnds E M r) (i + 1) M (by omega) B
              have lA := rnd_le E (rnds E M r) i A
              have lB := rnd_le E (rnds E M r) i B
              have gA := hge (r + 1) A
              have gB := hge (r + 1) B
              have cA : rnds E M (r + 1) A = rnd E (rnds E M r) M A := rfl
              have cB : rnds E M (r + 1) B = rnd E (rnds E M r) M B := rfl
              rw [cA] at gA
              rw [cB] at gB
              have eA := st.1
              have eB := st.2
              constructor
              · intro h
                refine Classical.byContradiction fun hn => hno ⟨B, hb.2, hn, ?_⟩
                rw [cB]
                have := Nat.min_le_left (rnd E (rnds E M r) i A) (rnd E (rnds E M r) i B)
                omega
              · intro h
                refine Classical.byContradiction fun hn => hno ⟨A, hb.1, hn, ?_⟩
                rw [cA]
                have := Nat.min_le_right (rnd E (rnds E M r) i A) (rnd E (rnds E M r) i B)
                omega
            refine (lab_set E (fun x => rnds E M r x = lab E M x) M closed v).1 ?_
            have a := rnds_le E M r (lab E M v)
            have b := hge r (lab E M v)
            rw [lab_idem] at b ⊢
            omega
          obtain ⟨y, hy, h1, h2⟩ := cross
          have := cntp_lt (p := fun v => decide (rnds E M r v = lab E M v)) (q := fun v => decide (rnds E M (r + 1) v = lab E M v)) (y := y) n hy (fun v _ h => decide_eq_true (mono v (of_decide_eq_true h))) (decide_eq_false h1) (decide_eq_true h2)
          omega
  rcases key n with h | h
  · exact h
  · have := cntp_le (fun v => decide (rnds E M n v = lab E M v)) n
    omega
end Go.Proofs.YtlbpmmjckoaleaaGreat
