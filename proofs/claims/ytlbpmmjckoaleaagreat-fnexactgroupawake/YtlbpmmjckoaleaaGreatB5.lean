/- Groups: what is joined one by one is what labels come to in as many rounds as there are bodies. Lists in memory of their own, beside others; marks. The contracts of VecMul, VecDot and VecLen. The contract of VecUnit. The contract of VecAdd. The contract of VecSub. The walks of the exact laws of chapter 2. What may not be is 0. The contracts of the specification's BoxBoth and BoxNear. The contract of the specification's BoxNear. How two round shapes, and two boxes, touch, by the specification. How a box and something round touch, by the specification. How two shapes touch, kind by kind, by the specification. -/
import Derived.Test.YtlbpmmjckoaleaaGreatB1
import Derived.Test.YtlbpmmjckoaleaaGreatB2
import Derived.Deep.QuietTactic
import Derived.BigQuiet
import Derived.Deep.RegionWith
import Derived.Deep.RegionHeld3
import Derived.Test.YtlbpmmjckoaleaaGreatB3
import Derived.Deep.DeepCutAuto
namespace Go.Proofs.YtlbpmmjckoaleaaGreat
open Go.RowKit
set_option linter.unusedVariables false
set_option linter.unusedSimpArgs false
/-- two labels become the lesser one -/
def stp (G : Nat → Nat) : Option (Nat × Nat) → Nat → Nat
  | none => G
  | some (A, B) => fun j => if j = A ∨ j = B then min (G A) (G B) else G j
def rnd (E : Nat → Option (Nat × Nat)) (G : Nat → Nat) : Nat → Nat → Nat
  | 0 => G
  | k + 1 => stp (rnd E G k) (E k)
def rnds (E : Nat → Option (Nat × Nat)) (M : Nat) : Nat → Nat → Nat
  | 0 => fun j => j
  | r + 1 => rnd E (rnds E M r) M
/-- two groups become the one of the lesser top -/
def jn (L : Nat → Nat) : Option (Nat × Nat) → Nat → Nat
  | none => L
  | some (A, B) => fun j => if L j = max (L A) (L B) then min (L A) (L B) else L j
def lab (E : Nat → Option (Nat × Nat)) : Nat → Nat → Nat
  | 0 => fun j => j
  | k + 1 => jn (lab E k) (E k)
theorem lab_le (E : Nat → Option (Nat × Nat)) : ∀ k j, lab E k j ≤ j
  | 0, j => Nat.le_refl _
  | k + 1, j => by
    have ih := lab_le E k
    rw [lab]
    cases h : E k with
    | none => exact ih j
    | some p =>
      obtain ⟨A, B⟩ := p
      show (if lab E k j = max (lab E k A) (lab E k B) then min (lab E k A) (lab E k B) else lab E k j) ≤ j
      have := ih j
      split <;> omega
/-- two that were joined stay so -/
theorem lab_edge (E : Nat → Option (Nat × Nat)) : ∀ k i A B, i < k → E i = some (A, B) → lab E k A = lab E k B
  | 0, i, _, _, h, _ => absurd h (Nat.not_lt_zero _)
  | k + 1, i, A, B, h, e => by
    rw [lab]
    cases hk : E k with
    | none =>
      by_cases hi : i = k
      · subst hi; rw [hk] at e; cases e
      · exact lab_edge E k i A B (by omega) e
    | some p =>
      obtain ⟨C, D⟩ := p
      show (if lab E k A = max (lab E k C) (lab E k D) then min (lab E k C) (lab E k D) else lab E k A) = (if lab E k B = max (lab E k C) (lab E k D) then min (lab E k C) (lab E k D) else lab E k B)
      by_cases hi : i = k
      · subst hi
        rw [hk] at e
        simp only [Option.some.injEq, Prod.mk.injEq] at e
        obtain ⟨rfl, rfl⟩ := e
        split <;> split <;> omega
      · rw [lab_edge E k i A B (by omega) e]
/-- a set that edges keep to holds a place just if it holds its top -/
theorem lab_set (E : Nat → Option (Nat × Nat)) (X : Nat → Prop) : ∀ k, (∀ i A B, i < k → E i = some (A, B) → (X A ↔ X B)) → ∀ j, (X (lab E k j) ↔ X j)
  | 0, _, j => Iff.rfl
  | k + 1, hX, j => by
    have ih := lab_set E X k (fun i A B h e => hX i A B (by omega) e)
    rw [lab]
    cases hk : E k with
    | none => exact ih j
    | some p =>
      obtain ⟨A, B⟩ := p
      show X (if lab E k j = max (lab E k A) (lab E k B) then min (lab E k A) (lab E k B) else lab E k j) ↔ X j
      have hAB := hX k A B (Nat.lt_succ_self _) hk
      have h1 := ih A
      have h2 := ih B
      have h3 := ih j
      by_cases e : lab E k j = max (lab E k A) (lab E k B)
      · rw [if_pos e]
        rcases Nat.le_total (lab E k A) (lab E k B) with q | q
        · rw [Nat.min_eq_left q]
          rw [Nat.max_eq_right q] at e
          rw [e] at h3
          exact h1.trans (hAB.trans (h2.symm.trans h3))
        · rw [Nat.min_eq_right q]
          rw [Nat.max_eq_left q] at e
          rw [e] at h3
          exact h2.trans (hAB.symm.trans (h1.symm.trans h3))
      · rw [if_neg e]; exact h3
/-- the top of a top is itself -/
theorem lab_idem (E : Nat → Option (Nat × Nat)) (k j : Nat) : lab E k (lab E k j) = lab E k j :=
  (lab_set E (fun x => lab E k x = lab E k j) k (fun i A B h e => by rw [lab_edge E k i A B h e]) j).2 rfl
theorem stp_le (G : Nat → Nat) (e : Option (Nat × Nat)) (j : Nat) : stp G e j ≤ G j := by
  cases e with
  | none => exact Nat.le_refl _
  | some p =>
    obtain ⟨A, B⟩ := p
    show (if j = A ∨ j = B then min (G A) (G B) else G j) ≤ G j
    by_cases h : j = A ∨ j = B
    · rw [if_pos h]
      rcases h with rfl | rfl
      · exact Nat.min_le_left _ _
      · exact Nat.min_le_right _ _
    · rw [if_neg h]; exact Nat.le_refl _
theorem rnd_le (E : Nat → Option (Nat × Nat)) (G : Nat → Nat) : ∀ k j, rnd E G k j ≤ G j
  | 0, _ => Nat.le_refl _
  | k + 1, j => Nat.le_trans (stp_le _ _ _) (rnd_le E G k j)
theorem rnd_mono (E : Nat → Option (Nat × Nat)) (G : Nat → Nat) (k : Nat) : ∀ m, k ≤ m → ∀ j, rnd E G m j ≤ rnd E G k j
  | 0, h, j => by obtain rfl : k = 0 := by omega
                  exact Nat.le_refl _
  | m + 1, h, j => by
    by_cases e : k = m + 1
    · subst e; exact Nat.le_refl _
    · exact Nat.le_trans (stp_le _ _ _) (rnd_mono E G k m (by omega) j)
/-- a label is of the same group -/
def Same (L G : Nat → Nat) : Prop := ∀ j, L (G j) = L j
theorem stp_same {L G : Nat → Nat} {e : Option (Nat × Nat)} (h : Same L G) (he : ∀ A B, e = some (A, B) → L A = L B) : Same L (stp G e) := by
  intro j
  cases e with
  | none => exact h j
  | some p =>
    obtain ⟨A, B⟩ := p
    have q := he A B rfl
    show L (if j = A ∨ j = B then min (G A) (G B) else G j) = L j
    by_cases hj : j = A ∨ j = B
    · rw [if_pos hj]
      have hm : L (min (G A) (G B)) = L A := by
        rcases Nat.le_total (G A) (G B) with z | z
        · rw [Nat.min_eq_left z]; exact h A
        · rw [Nat.min_eq_right z]; exact (h B).trans q.symm
      rw [hm]
      rcases hj with rfl | rfl
      · rfl
      · exact q
    · rw [if_neg hj]; exact h j
theorem rnd_same {E : Nat → Option (Nat × Nat)} {L G : Nat → Nat} {M : Nat} (hE : ∀ i A B, i < M → E i = some (A, B) → L A = L B) (h : Same L G) : ∀ k, k ≤ M → Same L (rnd E G k)
  | 0, _ => h
  | k + 1, hk => stp_same (rnd_same hE h k (by omega)) (fun A B e => hE k A B (by omega) e)
theorem rnds_same {E : Nat → Option (Nat × Nat)} {L : Nat → Nat} {M : Nat} (hE : ∀ i A B, i < M → E i = some (A, B) → L A = L B) : ∀ r, Same L (rnds E M r)
  | 0 => fun _ => rfl
  | r + 1 => rnd_same hE (rnds_same hE r) M (Nat.le_refl _)
theorem rnds_le (E : Nat → Option (Nat × Nat)) (M : Nat) : ∀ r j, rnds E M r j ≤ j
  | 0, _ => Nat.le_refl _
  | r + 1, j => Nat.le_trans (rnd_le E _ M j) (rnds_le E M r j)
/-- how many of the first n -/
def cntp (p : Nat → Bool) : Nat → Nat
  | 0 => 0
  | n + 1 => cntp p n + (if p n = true then 1 else 0)
theorem cntp_le (p : Nat → Bool) : ∀ n, cntp p n ≤ n
  | 0 => Nat.le_refl _
  | n + 1 => by have := cntp_le p n; rw [cntp]; split <;> omega
theorem cntp_mono {p q : Nat → Bool} : ∀ n, (∀ v, v < n → p v = true → q v = true) → cntp p n ≤ cntp q n
  | 0, _ => Nat.le_refl _
  | n + 1, h => by
    have a := cntp_mono (p := p) (q := q) n (fun v hv => h v (by omega))
    have b := h n (by omega)
    rw [cntp, cntp]
    by_cases e : p n = true
    · rw [if_pos e, if_pos (b e)]; omega
    · rw [if_neg e]; omega
theorem cntp_lt {p q : Nat → Bool} {y : Nat} : ∀ n, y < n → (∀ v, v < n → p v = true → q v = true) → p y = false → q y = true → cntp p n < cntp q n
  | 0, h, _, _, _ => absurd h (Nat.not_lt_zero _)
  | n + 1, h, hm, h1, h2 => by
    rw [cntp, cntp]
    by_cases e : y = n
    · subst e
      have a := cntp_mono (p := p) (q := q) y (fun v hv => hm v (by omega))
      rw [if_neg (by rw [h1]; simp), if_pos h2]; omega
    · have a := cntp_lt n (by omega) (fun v hv => hm v (by omega)) h1 h2
      have b := hm n (by omega)
      by_cases z : p n = true
      · rw [if_pos z, if_pos (b z)]; omega
      · rw [if_neg z]; omega
/-- labels come to the tops in as many rounds as there are places -/
theorem rnds_lab (E : Nat → Option (Nat × Nat)) (M n : Nat) (hE : ∀ i A B, i < M → E i = some (A, B) → A < n ∧ B < n) : ∀ v, v < n → rnds E M n v = lab E M v := by
  have hedge := fun i A B (h : i < M) (e : E i = some (A, B)) => lab_edge E M i A B h e
  have hsame := rnds_same (E := E) (L := lab E M) (M := M) hedge
  have hge : ∀ r j, lab E M j ≤ rnds E M r j := fun r j => by
    have a := lab_le E M (rnds E M r j)
    rw [hsame r j] at a
    exact a
  have key : ∀ r, (∀ v, v < n → rnds E M r v = lab E M v) ∨ r < cntp (fun v => decide (rnds E M r v = lab E M v)) n := by
    intro r
    induction r with
    | zero =>
      by_cases h0 : n = 0
      · left; intro v hv; omega
      · right
        have z : lab E M 0 = 0 := by have := lab_le E M 0; omega
        have := cntp_lt (p := fun _ => false) (q := fun v => decide (rnds E M 0 v = lab E M v)) (y := 0) n (by omega) (fun _ _ h => by cases h) rfl (by show decide (0 = lab E M 0) = true; rw [z]; rfl)
        omega
    | succ r ih =>
      have mono : ∀ v, rnds E M r v = lab E M v → rnds E M (r + 1) v = lab E M v := fun v e => by
        have a := rnd_le E (rnds E M r) M v
        have b := hge (r + 1) v
        have c : rnds E M (r + 1) v = rnd E (rnds E M r) M v := rfl
        omega
      rcases ih with ih | ih
      · left; intro v hv; exact mono v (ih v hv)
      · by_cases all : ∀ v, v < n → rnds E M (r + 1) v = lab E M v
        · left; exact all
        · right
          -- an edge that parts what is there from what is not
          have cross : ∃ y, y < n ∧ rnds E M r y ≠ lab E M y ∧ rnds E M (r + 1) y = lab E M y := by
            refine Classical.byContradiction fun hno => all fun v hv => mono v ?_
            have closed : ∀ i A B, i < M → E i = some (A, B) → (rnds E M r A = lab E M A ↔ rnds E M r B = lab E M B) := by
              intro i A B hi e
              have hb := hE i A B hi e
              have hl := hedge i A B hi e
              have st : rnd E (rnds E M r) (i + 1) A = min (rnd E (rnds E M r) i A) (rnd E (rnds E M r) i B) ∧ rnd E (rnds E M r) (i + 1) B = min (rnd E (rnds E M r) i A) (rnd E (rnds E M r) i B) := by
                constructor
                · show stp _ (E i) A = _; rw [e]; show (if A = A ∨ A = B then _ else _) = _; rw [if_pos (.inl rfl)]
                · show stp _ (E i) B = _; rw [e]; show (if B = A ∨ B = B then _ else _) = _; rw [if_pos (.inr rfl)]
              have mA := rnd_mono E (rnds E M r) (i + 1) M (by omega) A
              have mB := rnd_mono E (rnds E M r) (i + 1) M (by omega) B
              have lA := rnd_le E (rnds E M r) i A
              have lB := rnd_le E (rnds E M r) i B
              have gA := hge (r + 1) A
              have gB := hge (r + 1) B
              have cA : rnds E M (r + 1) A = rnd E (rnds E M r) M A := rfl
              have cB : rnds E M (r + 1) B = rnd E (rnds E M r) M B := rfl
              rw [cA] at gA
              rw [cB] at gB
              have eA := st.1
              have eB := st.2
              constructor
              · intro h
                refine Classical.byContradiction fun hn => hno ⟨B, hb.2, hn, ?_⟩
                rw [cB]
                have := Nat.min_le_left (rnd E (rnds E M r) i A) (rnd E (rnds E M r) i B)
                omega
              · intro h
                refine Classical.byContradiction fun hn => hno ⟨A, hb.1, hn, ?_⟩
                rw [cA]
                have := Nat.min_le_right (rnd E (rnds E M r) i A) (rnd E (rnds E M r) i B)
                omega
            refine (lab_set E (fun x => rnds E M r x = lab E M x) M closed v).1 ?_
            have a := rnds_le E M r (lab E M v)
            have b := hge r (lab E M v)
            rw [lab_idem] at b ⊢
            omega
          obtain ⟨y, hy, h1, h2⟩ := cross
          have := cntp_lt (p := fun v => decide (rnds E M r v = lab E M v)) (q := fun v => decide (rnds E M (r + 1) v = lab E M v)) (y := y) n hy (fun v _ h => decide_eq_true (mono v (of_decide_eq_true h))) (decide_eq_false h1) (decide_eq_true h2)
          omega
  rcases key n with h | h
  · exact h
  · have := cntp_le (fun v => decide (rnds E M n v = lab E M v)) n
    omega
end Go.Proofs.YtlbpmmjckoaleaaGreat
namespace Go.Proofs.YtlbpmmjckoaleaaGreat
open Go.RowKit
set_option linter.unusedVariables false
set_option linter.unusedSimpArgs false
theorem grown_setG (w : World) (g q : Nat) (v : Value) : w.grownBy (w.setCell ⟨g, q, none⟩ v) (some g) := ⟨rfl, rfl, rfl, by simp, fun k hk hn => Below.heap_setCell _ _ _ _ (fun e => hn (by rw [e]))⟩
theorem grown_trans {w w' w'' : World} {r : Option Nat} (h : w.grownBy w' r) (k : w'.grownBy w'' r) : w.grownBy w'' r := ⟨k.os.trans h.os, k.tape.trans h.tape, k.output.trans h.output, Nat.le_trans h.size k.size, fun i hi hn => (k.block i (Nat.lt_of_lt_of_le hi h.size) hn).trans (h.block i hi hn)⟩
theorem grown_refl (w : World) (r : Option Nat) : w.grownBy w r := ⟨rfl, rfl, rfl, Nat.le_refl _, fun _ _ _ => rfl⟩
theorem OwnL.setq {w : World} {base t k n g c : Nat} {U : Nat → Int} (h : OwnL w base t k (.slice (Option.some ⟨g, 0, none⟩) n c) n U) (q : Nat) (hq : q < n * k) (x : Int) : OwnL (w.setCell ⟨g, q, none⟩ (.int .i64 x)) base t k (.slice (Option.some ⟨g, 0, none⟩) n c) n (fun r => if r = q then x else U r) := by
  have h1 := (World.ownsRow.stored h q (.int .i64 x)).1
  unfold OwnL
  rw [show numL (n * k) (fun r => if r = q then x else U r) = (numL (n * k) U).set q (.int .i64 x) from ?_]
  · exact h1
  · apply List.ext_getElem?
    intro r
    rw [List.getElem?_set, numL_len]
    by_cases hr : r < n * k
    · rw [numL_get hr]
      by_cases e : q = r
      · subst e; simp; omega
      · rw [if_neg e, numL_get hr]; simp [Ne.symm e]
    · rw [List.getElem?_eq_none (by rw [numL_len]; omega)]
      by_cases e : q = r
      · omega
      · rw [if_neg e, List.getElem?_eq_none (by rw [numL_len]; omega)]
theorem OwnL.loc {w : World} {base t k n c : Nat} {a : Option Addr} {U : Nat → Int} (h : OwnL w base t k (.slice a n c) n U) (h0 : 0 < n) : ∃ g, a = Option.some ⟨g, 0, none⟩ ∧ base ≤ g ∧ g < w.heap.size := by
  rcases h.2 with ⟨hv, hn⟩ | ⟨g, cap, cur, hv, hb, hg, _⟩
  · omega
  · simp only [Value.slice.injEq, true_and] at hv
    exact ⟨g, hv.1, hb, (Array.getElem?_eq_some_iff.1 hg).1⟩
theorem OwnL.cellq {w : World} {base t k n g c : Nat} {U : Nat → Int} (h : OwnL w base t k (.slice (Option.some ⟨g, 0, none⟩) n c) n U) {q : Nat} (hq : q < n * k) : w.cell? ⟨g, q, none⟩ = Option.some (.int .i64 (U q)) := by
  rw [World.ownsRow.cellAt h q hq, numL_get hq]
/-- marked up to p -/
abbrev mixU (p : Nat) (U : Nat → Int) : Nat → Int := fun q => if q < p then 1 + (q : Int) else U q
theorem OwnL.mark {w : World} {base t k n g c p : Nat} {U : Nat → Int} (h : OwnL w base t k (.slice (Option.some ⟨g, 0, none⟩) n c) n (mixU p U)) (hp : p < n * k) {x : Int} (hx : x = 1 + (p : Int)) : OwnL (w.setCell ⟨g, p, none⟩ (.int .i64 x)) base t k (.slice (Option.some ⟨g, 0, none⟩) n c) n (mixU (p + 1) U) :=
  (h.setq p hp x).congr fun q _ => by
    subst hx
    by_cases e : q = p
    · subst e; simp [mixU]
    · simp only [mixU, if_neg e]
      by_cases l : q < p
      · rw [if_pos l, if_pos (by omega)]
      · rw [if_neg l, if_neg (by omega)]
/-- a list whose block lies from lo on and below hi -/
structure Lv (w : World) (lo hi t k : Nat) (a : Option Addr) (n c : Nat) (U : Nat → Int) : Prop where
  own : OwnL w lo t k (.slice a n c) n U
  top : ∀ b, (Value.slice a n c).ownBlock = some b → b < hi
  le : hi ≤ w.heap.size
theorem Lv.on {w w' : World} {lo hi t k : Nat} {a : Option Addr} {n c : Nat} {U : Nat → Int} (h : Lv w lo hi t k a n c U) (hb : Below w.heap.size w w') : Lv w' lo hi t k a n c U := ⟨h.own.below hb, h.top, Nat.le_trans h.le hb.size⟩
theorem Lv.flat {w : World} {lo hi t k : Nat} {a : Option Addr} {n c : Nat} {U : Nat → Int} (h : Lv w lo hi t k a n c U) : Flat w a (n * k) U := h.own.flat
/-- another list is marked -/
theorem Lv.gr {w w' : World} {lo hi t k lo' hi' t' k' n' c' : Nat} {a' : Option Addr} {a : Option Addr} {n c : Nat} {U U' : Nat → Int} (h : Lv w lo hi t k a n c U) (h' : Lv w lo' hi' t' k' a' n' c' U') (hg : w.grownBy w' (Value.slice a' n' c').ownBlock) (hs : hi ≤ lo' ∨ hi' ≤ lo) : Lv w' lo hi t k a n c U := by
  refine ⟨?_, h.top, Nat.le_trans h.le hg.size⟩
  cases e : (Value.slice a n c).ownBlock with
  | none => exact h.own.kept hg (.inl e)
  | some b => exact h.own.kept hg (.inr (fun q => by
      have k1 := (h'.own.lt b (q ▸ e)).1
      have k1' := h'.top b (q ▸ e)
      have k2 := (h.own.lt b e).1
      have k3 := h.top b e
      omega))
/-- itself is marked -/
theorem Lv.me {w w' : World} {lo hi t k : Nat} {a : Option Addr} {n c : Nat} {U U' : Nat → Int} (h : Lv w lo hi t k a n c U) (hg : w.grownBy w' (Value.slice a n c).ownBlock) (ho : OwnL w' lo t k (.slice a n c) n U') : Lv w' lo hi t k a n c U' := ⟨ho, h.top, Nat.le_trans h.le hg.size⟩
/-- what lies below the first list -/
theorem Lv.below {w0 w w' : World} {lo hi t k B : Nat} {a : Option Addr} {n c : Nat} {U : Nat → Int} (h : Lv w lo hi t k a n c U) (hB : Below B w0 w) (hBw : B ≤ w.heap.size) (hg : w.grownBy w' (Value.slice a n c).ownBlock) (hl : B ≤ lo) : Below B w0 w' :=
  hB.grown hg hBw (fun b e => by have := (h.own.lt b e).1; omega)
theorem Lv.row {w w' : World} {b n t k : Nat} {U : Nat → Int} (h : Row w' b t (n * k) U) (hb : w.heap.size ≤ b) (hn : n ≤ 1048576) : Lv w' w.heap.size w'.heap.size t k (some ⟨b, 0, none⟩) n n U :=
  ⟨h.own hb (by unfold maxLen; omega), fun x e => by simp [Value.ownBlock] at e; subst e; exact h.lt, Nat.le_refl _⟩
/-- what a function hands out that makes a list -/
structure OutL (w w' : World) (t k : Nat) (a : Option Addr) (n c : Nat) (R : Nat → Int) : Prop where
  bel : Below w.heap.size w w'
  own : OwnL w' w.heap.size t k (.slice a n c) n R
theorem OutL.lv {w w' : World} {t k : Nat} {a : Option Addr} {n c : Nat} {R : Nat → Int} (h : OutL w w' t k a n c R) : Lv w' w.heap.size w'.heap.size t k a n c R := ⟨h.own, fun b e => (h.own.lt b e).2, Nat.le_refl _⟩
/-- a list's numbers -/
def ofL (l : List Int) : Nat → Int := fun q => l.getD q 0
theorem ofL_app (l x : List Int) (q : Nat) (h : q < l.length) : ofL (l ++ x) q = ofL l q := by
  unfold ofL
  rw [List.getD_eq_getElem?_getD, List.getD_eq_getElem?_getD, List.getElem?_append_left h]
theorem ofL_app' (l x : List Int) (q : Nat) (h : l.length ≤ q) : ofL (l ++ x) q = ofL x (q - l.length) := by
  unfold ofL
  rw [List.getD_eq_getElem?_getD, List.getD_eq_getElem?_getD, List.getElem?_append_right h]
theorem cat_ofL (l x : List Int) : cat l.length (ofL l) (ofL x) = ofL (l ++ x) := by
  funext q
  unfold cat
  by_cases h : q < l.length
  · rw [if_pos h, ofL_app l x q h]
  · rw [if_neg h, ofL_app' l x q (by omega)]
/-- APPEND of one thing of k numbers: where the list lies then -/
theorem step_appk {P : Program} {w : World} {ops : Array Oper} {o : Oper} {a : Act} {K : Act → World → Prop} {Q : Exit → Act → World → Prop} {E : Prop} (hgd : o.guard = none) (s x : Operand) (t : TypeId)
    (ho : o.op = .call { callee := .builtin .append, args := #[s, x], argTypes := #[t, t] })
    (base e k bytes : Nat) (z : Value) (ht : P.underlying t = some (.slice e)) (hinfo : (P.info? e).map (fun i => (i.zero, i.size, i.bytes)) = some (some z, k, bytes)) (hzs : z.cells.size = k) (hk : 0 < k)
    (v : Value) (n : Nat) (U : Nat → Int) (hs : a.eval s = v) (h : OwnL w base e k v n U) (B c : Nat) (X : Nat → Int) (hx : a.eval x = .slice (some ⟨B, 0, none⟩) 1 c) (hv : ∀ q, q < k → w.cell? ⟨B, q, none⟩ = some (.int .i64 (X q)))
    (h63 : n + 1 ≤ maxLen) (hbytes : (n + 1) * bytes ≤ 140737488355328) (hbase : base ≤ w.heap.size) (H : Nat) (hH : w.heap.size = H)
    (hK : ∀ g cap w', OwnL w' base e k (.slice (some ⟨g, 0, none⟩) (n + 1) cap) (n + 1) (cat (n * k) U X) → w.grownBy w' v.ownBlock → (v.ownBlock = some g ∨ g = H) → g < w'.heap.size → K (a.put o.dst (.slice (some ⟨g, 0, none⟩) (n + 1) cap)) w') :
    if Region.wanted o (yielded ops a.tmps) = true then Oper.wp P o a w K Q else E := by
  obtain ⟨i, hi, hzz⟩ := Option.map_eq_some_iff.1 hinfo
  simp only [Prod.mk.injEq] at hzz
  obtain ⟨hz, hsz, hby⟩ := hzz
  refine step_append_lies w hgd s x t ho base e i z k bytes ht hi hz hsz hby hzs hk v n (numL (n * k) U) hs h ⟨B, 0, none⟩ 1 c (numL (1 * k) X) hx (numL_len _ _) ?_ (fun u hu => by obtain ⟨q, _, rfl⟩ := List.mem_map.1 hu; rfl) (by omega) h63 hbytes hbase H hH ?_
  · intro j u hu
    have hj : j < 1 * k := by have := (List.getElem?_eq_some_iff.1 hu).1; rwa [numL_len] at this
    rw [numL_get hj] at hu
    rw [Addr.add_lit, Nat.zero_add, hv j (by omega)]
    exact hu
  · intro g cap w' h2 h3 h4 h5
    refine hK g cap w' ?_ h3 h4 h5
    unfold OwnL
    rw [Nat.add_mul, ← numL_cat]
    exact h2
end Go.Proofs.YtlbpmmjckoaleaaGreat
namespace Go.Proofs.YtlbpmmjckoaleaaGreat
open Go.RowKit
set_option linter.unusedVariables false
set_option linter.unusedSimpArgs false

set_option maxHeartbeats 1000000 in
theorem length_any (x y : Int) (w : World) (hx : -1000000000 ≤ x ∧ x ≤ 1000000000) (hy : -1000000000 ≤ y ∧ y ≤ 1000000000) :
    Calls Tryz.prog 116 #[vv x y] w fun e w' => e = .returned (.int .i64 (vl x y)) ∧ Below w.heap.size w w' := by
  have hs := sq_bd hx hy
  have hset := cset_map
  go_enter Tryz.func116, Tryz.ntmps116
  go_wp2_with (first
    | (go_at_call 114; refine (products_any _ _ _ _ _ (by omega) (by omega) (by omega) (by omega)).mono ?_; rintro e w2 ⟨rfl, hb2⟩; obtain ⟨hc2, hf2⟩ := bcell hb2; have hz2 := hb2.size; (try simp at hz2); have hq2x0a : w.heap.size < w2.heap.size := (by omega))
    | (go_at_call 122; refine (root_any _ _ (by omega)).mono ?_; rintro e w5 ⟨rfl, hb5⟩; obtain ⟨hc5, hf5⟩ := bcell hb5; have hz5 := hb5.size; (try simp at hz5); have hq5x0a : w.heap.size < w5.heap.size := (by omega))
    | (go_at_call 123; refine (held_any _ _ _ (by omega) (by omega)).mono ?_; rintro e w' ⟨rfl, rfl⟩))
  go_ret
  exact ⟨rfl, bel_a⟩

end Go.Proofs.YtlbpmmjckoaleaaGreat
namespace Go.Proofs.YtlbpmmjckoaleaaGreat
open Go.RowKit
set_option linter.unusedVariables false
set_option linter.unusedSimpArgs false

set_option maxHeartbeats 2000000 in
theorem unit_any (x y : Int) (w : World) (hx : -1000000000 ≤ x ∧ x ≤ 1000000000) (hy : -1000000000 ≤ y ∧ y ≤ 1000000000) :
    Calls Tryz.prog 115 #[vv x y] w fun e w' => e = .returned (vv (ux x y) (uy x y)) ∧ Below w.heap.size w w' := by
  have hl := vl_bd x y
  by_cases h0 : vl x y = 0
  · have e1 : ux x y = 0 := if_pos h0
    have e2 : uy x y = 256 := if_pos h0
    have hset := cset_map
    go_enter Tryz.func115, Tryz.ntmps115
    go_wp2_with (go_at_call 116; refine (length_any _ _ _ (by omega) (by omega)).mono ?_; rintro e w6 ⟨rfl, hb6⟩; obtain ⟨hc6, hf6⟩ := bcell hb6; have hz6 := hb6.size; (try simp at hz6); have hq6x0a : w.heap.size < w6.heap.size := (by omega); have hq6x1a : w.heap.size + 1 < w6.heap.size := (by omega))
    exact bodyPost_ret (v := vv 0 256) (by simp [results, Tryz.results115, go_sem, *]) rfl ⟨by rw [e1, e2], bel_a⟩
  · have e1 : ux x y = (x * 256).tdiv (vl x y) := if_neg h0
    have e2 : uy x y = (y * 256).tdiv (vl x y) := if_neg h0
    have t1 := w64 (n := (x * 256).tdiv (vl x y)) (by have := tdiv_bd (x := x * 256) (B := 256000000000) (vl x y) (by omega); omega)
    have t2 := w64 (n := (y * 256).tdiv (vl x y)) (by have := tdiv_bd (x := y * 256) (B := 256000000000) (vl x y) (by omega); omega)
    have s1 := i64w (n := (x * 256).tdiv (vl x y)) (by have := tdiv_bd (x := x * 256) (B := 256000000000) (vl x y) (by omega); omega)
    have s2 := i64w (n := (y * 256).tdiv (vl x y)) (by have := tdiv_bd (x := y * 256) (B := 256000000000) (vl x y) (by omega); omega)
    have E1 : Hid (ux x y = (x * 256).tdiv (vl x y)) := e1
    have E2 : Hid (uy x y = (y * 256).tdiv (vl x y)) := e2
    clear e1 e2
    have hset := cset_map
    go_enter Tryz.func115, Tryz.ntmps115
    go_wp2_with (go_at_call 116; refine (length_any _ _ _ (by omega) (by omega)).mono ?_; rintro e w6 ⟨rfl, hb6⟩; obtain ⟨hc6, hf6⟩ := bcell hb6; have hz6 := hb6.size; (try simp at hz6); have hq6x0a : w.heap.size < w6.heap.size := (by omega); have hq6x1a : w.heap.size + 1 < w6.heap.size := (by omega))
    go_region
    all_goals
      go_wp2
      exact bodyPost_ret (v := vv ((x * 256).tdiv (vl x y)) ((y * 256).tdiv (vl x y))) (by simp [results, Tryz.results115, go_sem, *]) rfl ⟨by rw [E1.out, E2.out], bel_a⟩

end Go.Proofs.YtlbpmmjckoaleaaGreat
namespace Go.Proofs.YtlbpmmjckoaleaaGreat
open Go.RowKit
set_option linter.unusedVariables false
set_option linter.unusedSimpArgs false

end Go.Proofs.YtlbpmmjckoaleaaGreat
namespace Go.Proofs.YtlbpmmjckoaleaaGreat
open Go.RowKit
set_option linter.unusedVariables false
set_option linter.unusedSimpArgs false

end Go.Proofs.YtlbpmmjckoaleaaGreat
namespace Go.Proofs.YtlbpmmjckoaleaaGreat
open Go.RowKit
set_option linter.unusedVariables false
set_option linter.unusedSimpArgs false

theorem toVec_any (x y : Int) (w : World) :
    Calls Tryz.prog 40 #[vv x y] w fun e w' => e = .returned (vv x y) ∧ Below w.heap.size w w' := by
  have hset := cset_map
  go_enter Tryz.func40, Tryz.ntmps40
  go_wp2
  exact bodyPost_ret (v := vv x y) (by simp [results, Tryz.results40, go_sem, *]) rfl ⟨rfl, bel_a⟩

theorem eqVec_same (x y : Int) (w : World) :
    Calls Tryz.prog 45 #[vv x y, vv x y] w fun e w' => e = .returned (.bool true) ∧ Below w.heap.size w w' := by
  have hset := cset_map
  go_enter Tryz.func45, Tryz.ntmps45
  go_wp2
  go_ret
  exact ⟨rfl, bel_a⟩

end Go.Proofs.YtlbpmmjckoaleaaGreat
namespace Go.Proofs.YtlbpmmjckoaleaaGreat
open Go.RowKit
set_option linter.unusedVariables false
set_option linter.unusedSimpArgs false

/-- a number, or 0 where it may not be -/
def bb (o : Bool) (x : Int) : Int := if o = true then x else 0
theorem bb_t (x : Int) : bb true x = x := rfl
theorem bb_f (x : Int) : bb false x = 0 := rfl

end Go.Proofs.YtlbpmmjckoaleaaGreat
namespace Go.Proofs.YtlbpmmjckoaleaaGreat
open Go.RowKit
set_option linter.unusedVariables false
set_option linter.unusedSimpArgs false

theorem l3Less_any (x y : Int) (w : World) :
    Calls Tryz.prog 36 #[.int .i64 x, .int .i64 y] w fun e w' => e = .returned (.int .i64 (mn x y)) ∧ w' = w := by
  go_enter Tryz.func36, Tryz.ntmps36
  go_wp2
  all_goals
    go_ret
    refine ⟨?_, rfl⟩
    unfold mn
    split <;> first | rfl | (exfalso; omega) | (have hxy : x = y := (by omega); subst hxy; rfl) | (exfalso; simp at *; omega)

theorem l3More_any (x y : Int) (w : World) :
    Calls Tryz.prog 93 #[.int .i64 x, .int .i64 y] w fun e w' => e = .returned (.int .i64 (mx x y)) ∧ w' = w := by
  go_enter Tryz.func93, Tryz.ntmps93
  go_wp2
  all_goals
    go_ret
    refine ⟨?_, rfl⟩
    unfold mx
    split <;> first | rfl | (exfalso; omega) | (have hxy : x = y := (by omega); subst hxy; rfl) | (exfalso; simp at *; omega)

end Go.Proofs.YtlbpmmjckoaleaaGreat
namespace Go.Proofs.YtlbpmmjckoaleaaGreat
open Go.RowKit
set_option linter.unusedVariables false
set_option linter.unusedSimpArgs false

set_option maxHeartbeats 4000000 in
theorem l3Near_any (a b c d x y : Int) (w : World) :
    Calls Tryz.prog 85 #[b4 a b c d, vv x y] w fun e w' => e = .returned (vv (mn (mx x a) c) (mn (mx y b) d)) ∧ Below w.heap.size w w' := by
  have hset := cset_map
  go_enter Tryz.func85, Tryz.ntmps85
  go_wp2
  go_region_held3 (fun w' => w'.cell? ⟨w.heap.size, 0, none⟩ = some (.int .i64 a) ∧ w'.cell? ⟨w.heap.size, 1, none⟩ = some (.int .i64 b) ∧ w'.cell? ⟨w.heap.size, 2, none⟩ = some (.int .i64 c) ∧ w'.cell? ⟨w.heap.size, 3, none⟩ = some (.int .i64 d) ∧ w'.cell? ⟨w.heap.size + 1, 0, none⟩ = some (.int .i64 x) ∧ w'.cell? ⟨w.heap.size + 1, 1, none⟩ = some (.int .i64 y)) (first | (go_simp; done) | (go_keep; done)) (first
    | (go_at_call 36; refine (l3Less_any _ _ _).mono ?_; rintro e w' ⟨rfl, rfl⟩)
    | (go_at_call 93; refine (l3More_any _ _ _).mono ?_; rintro e w' ⟨rfl, rfl⟩))
  all_goals
    go_wp2
    exact bodyPost_ret (v := vv (mn (mx x a) c) (mn (mx y b) d)) (by simp [results, Tryz.results85, go_sem, *]) rfl ⟨rfl, bel_a⟩

end Go.Proofs.YtlbpmmjckoaleaaGreat
namespace Go.Proofs.YtlbpmmjckoaleaaGreat
open Go.RowKit
set_option linter.unusedVariables false
set_option linter.unusedSimpArgs false

/-- how two that are round touch: the way, how deep, and whether they do -/
def rdT (dx dy g : Int) : (Int × Int × Int) × Bool := if dx * dx + dy * dy ≤ g * g then ((ux dx dy, uy dx dy, g - vl dx dy), true) else ((0, 0, 0), false)
/-- the side on which it is least deep -/
def bsT (s0 s1 s2 s3 : Int) : Int × Int × Int :=
  let m1 : Int × Int × Int := if s1 < s0 then (-256, 0, s1) else (256, 0, s0)
  let m2 : Int × Int × Int := if s2 < m1.2.2 then (0, 256, s2) else m1
  if s3 < m2.2.2 then (0, -256, s3) else m2
def bxT (a b c d r s t u : Int) : (Int × Int × Int) × Bool := if (leB a b t u && leB r s c d) = true then (bsT (c - r) (t - a) (d - s) (u - b), true) else ((0, 0, 0), false)

theorem sunit_q (x y X Y : Int) (w : World) (e1 : ux (fc x) (fc y) = X) (e2 : uy (fc x) (fc y) = Y) :
    Calls Tryz.prog 81 #[vv x y] w fun e w' => e = .returned (vv X Y) ∧ Below w.heap.size w w' := by
  subst e1; subst e2; exact sVecUnit_any x y w
theorem slen_q (x y L : Int) (w : World) (e : vl (fc x) (fc y) = L) :
    Calls Tryz.prog 82 #[vv x y] w fun e w' => e = .returned (.int .i64 L) ∧ Below w.heap.size w w' := by
  subst e; exact sVecLen_any x y w
set_option maxHeartbeats 4000000 in
theorem l5Rounds_q (a b x y g X Y D : Int) (K : Bool) (w : World) (qa : -3000000 ≤ a ∧ a ≤ 3000000) (qb : -3000000 ≤ b ∧ b ≤ 3000000) (qx : -3000000 ≤ x ∧ x ≤ 3000000) (qy : -3000000 ≤ y ∧ y ≤ 3000000) (g0 : 0 ≤ g ∧ g ≤ 100000) (e : rdT (x - a) (y - b) g = ((X, Y, D), K)) :
    Calls Tryz.prog 58 #[vv a b, vv x y, .int .i64 g] w fun e w' => e = .returned (.tuple #[s3 X Y D, .bool K]) ∧ Below w.heap.size w w' := by
  have hset := cset_map
  obtain ⟨dx, ex⟩ : ∃ z, x - a = z := ⟨_, rfl⟩
  obtain ⟨dy, ey⟩ : ∃ z, y - b = z := ⟨_, rfl⟩
  have w1 := i64w (n := x - a) (by omega)
  have w2 := i64w (n := y - b) (by omega)
  rw [ex] at e w1
  rw [ey] at e w2
  have m3 := mul_bd (a := g) (b := g) (A := 100000) (B := 100000) (by omega) (by omega)
  have w3 := i64w (n := g * g) (by omega)
  unfold rdT at e
  cases dd : decide (g * g < dx * dx + dy * dy) with
  | true =>
    have hn := of_decide_eq_true dd
    rw [if_neg (by omega)] at e
    cases e
    clear hn m3
    go_enter Tryz.func58, Tryz.ntmps58
    go_wp2_with (go_at_call 80; refine (l2Square_any _ _ _ (by omega) (by omega)).mono ?_; rintro e w1 ⟨rfl, hb1⟩; obtain ⟨hc1, hf1⟩ := bcell hb1; have hz1 := hb1.size; (try simp only [World.size_drew, World.size_alloc, World.size_setCell] at hc1 hf1 hz1); obtain ⟨hk1x0, hj1x0, hq1x0⟩ := kfa hb1 (w.heap.size); obtain ⟨hk1x1, hj1x1, hq1x1⟩ := kfa hb1 (w.heap.size + 1); obtain ⟨hk1x2, hj1x2, hq1x2⟩ := kfa hb1 (w.heap.size + 1 + 1); obtain ⟨hk1x3, hj1x3, hq1x3⟩ := kfa hb1 (w.heap.size + 1 + 1 + 1); clear hc1 hf1)
    exact bodyPost_ret (v := .tuple #[s3 0 0 0, .bool false]) (by simp [results, Tryz.results58, go_sem, *]) rfl ⟨rfl, bel_a⟩
  | false =>
    have hn := of_decide_eq_false dd
    rw [if_pos (by omega)] at e
    obtain ⟨L, eL⟩ : ∃ z, vl dx dy = z := ⟨_, rfl⟩
    have lb := vl_bd dx dy
    rw [eL] at lb
    rw [eL] at e
    simp only [Prod.mk.injEq] at e
    obtain ⟨⟨eX, eY, eD⟩, eK⟩ := e
    subst eD
    subst eK
    have f1 := fc_id (n := dx) (by omega) (by omega)
    have f2 := fc_id (n := dy) (by omega) (by omega)
    have eX : ux (fc dx) (fc dy) = X := by rw [f1, f2]; exact eX
    have eY : uy (fc dx) (fc dy) = Y := by rw [f1, f2]; exact eY
    have eL : vl (fc dx) (fc dy) = L := by rw [f1, f2]; exact eL
    have w4 := i64w (n := g - L) (by omega)
    clear hn m3 f1 f2
    go_enter Tryz.func58, Tryz.ntmps58
    go_upto_region 4 with (go_at_call 80; refine (l2Square_any _ _ _ (by omega) (by omega)).mono ?_; rintro e w1 ⟨rfl, hb1⟩; obtain ⟨hc1, hf1⟩ := bcell hb1; have hz1 := hb1.size; (try simp only [World.size_drew, World.size_alloc, World.size_setCell] at hc1 hf1 hz1); obtain ⟨hk1x0, hj1x0, hq1x0⟩ := kfa hb1 (w.heap.size); obtain ⟨hk1x1, hj1x1, hq1x1⟩ := kfa hb1 (w.heap.size + 1); obtain ⟨hk1x2, hj1x2, hq1x2⟩ := kfa hb1 (w.heap.size + 1 + 1); obtain ⟨hk1x3, hj1x3, hq1x3⟩ := kfa hb1 (w.heap.size + 1 + 1 + 1); clear hc1 hf1)
    refine wp_region_held_drew (S := fun w' => w'.cell? ⟨w.heap.size + 1 + 1 + 1, 0, none⟩ = some (.int .i64 dx) ∧ w'.cell? ⟨w.heap.size + 1 + 1 + 1, 1, none⟩ = some (.int .i64 dy)) (by kernel_rfl) ?_ (fun hHeld => ?_)
    · (try dsimp only)
      (first | (go_simp; done) | (go_keep; done))
    refine tq 0 hHeld ?_
    refine tq 2 hHeld ?_
    refine tq 3 hHeld ?_
    (refine tc 1 fun K hK => ?_; go_simp; (go_at_call 81; refine (sunit_q _ _ _ _ _ eX eY).mono ?_; rintro e w2 ⟨rfl, hb2⟩; obtain ⟨hc2, hf2⟩ := bcell hb2; have hz2 := hb2.size; (try simp only [World.size_drew, World.size_alloc, World.size_setCell] at hc2 hf2 hz2); obtain ⟨hk2x0, hj2x0, hq2x0⟩ := kfa hb2 (w.heap.size); obtain ⟨hk2x1, hj2x1, hq2x1⟩ := kfa hb2 (w.heap.size + 1); obtain ⟨hk2x2, hj2x2, hq2x2⟩ := kfa hb2 (w.heap.size + 1 + 1); obtain ⟨hk2x3, hj2x3, hq2x3⟩ := kfa hb2 (w.heap.size + 1 + 1 + 1); clear hc2 hf2); (try go_wp2_with fail); refine tr hK (fun hHeld => ?_); clear hK K)
    (refine tc 4 fun K hK => ?_; go_simp; (go_at_call 82; refine (slen_q _ _ _ _ eL).mono ?_; rintro e w3 ⟨rfl, hb3⟩; obtain ⟨hc3, hf3⟩ := bcell hb3; have hz3 := hb3.size; (try simp only [World.size_drew, World.size_alloc, World.size_setCell] at hc3 hf3 hz3); obtain ⟨hk3x0, hj3x0, hq3x0⟩ := kfa hb3 (w.heap.size); obtain ⟨hk3x1, hj3x1, hq3x1⟩ := kfa hb3 (w.heap.size + 1); obtain ⟨hk3x2, hj3x2, hq3x2⟩ := kfa hb3 (w.heap.size + 1 + 1); obtain ⟨hk3x3, hj3x3, hq3x3⟩ := kfa hb3 (w.heap.size + 1 + 1 + 1); clear hc3 hf3); (try go_wp2_with fail); refine tr hK (fun hHeld => ?_); clear hK K)
    refine tq 5 hHeld ?_
    refine tq 6 hHeld ?_
    (refine tc 7 fun K hK => ?_; go_simp; refine tr hK (fun hHeld => ?_); clear hK K)
    refine tq 8 hHeld ?_
    refine wpAnyH_done (by kernel_rfl) ?_ _
    go_wp2_with fail
    exact bodyPost_ret (v := .tuple #[s3 X Y (g - L), .bool true]) (by simp [results, Tryz.results58, go_sem, *]) rfl ⟨rfl, bel_a⟩

theorem smeets_q (a b c d r s t u : Int) (z : Bool) (w : World) (e : (leB a b t u && leB r s c d) = z) :
    Calls Tryz.prog 83 #[b4 a b c d, b4 r s t u] w fun e w' => e = .returned (.bool z) ∧ Below w.heap.size w w' := by
  subst e; exact l3Meets_any a b c d r s t u w
set_option maxHeartbeats 8000000 in
theorem l5Boxes_q (a b c d r s t u X Y D : Int) (K : Bool) (w : World) (qa : -3000000 ≤ a ∧ a ≤ 3000000) (qb : -3000000 ≤ b ∧ b ≤ 3000000) (qc : -3000000 ≤ c ∧ c ≤ 3000000) (qd : -3000000 ≤ d ∧ d ≤ 3000000) (qr : -3000000 ≤ r ∧ r ≤ 3000000) (qs : -3000000 ≤ s ∧ s ≤ 3000000) (qt : -3000000 ≤ t ∧ t ≤ 3000000) (qu : -3000000 ≤ u ∧ u ≤ 3000000) (e : bxT a b c d r s t u = ((X, Y, D), K)) :
    Calls Tryz.prog 59 #[b4 a b c d, b4 r s t u] w fun e w' => e = .returned (.tuple #[s3 X Y D, .bool K]) ∧ Below w.heap.size w w' := by
  have hset := cset_map
  unfold bxT at e
  cases eM : (leB a b t u && leB r s c d) with
  | false =>
    rw [if_neg (by simp [eM])] at e
    cases e
    go_enter Tryz.func59, Tryz.ntmps59
    go_wp2_with (go_at_call 83; refine (smeets_q _ _ _ _ _ _ _ _ _ _ eM).mono ?_; rintro e w1 ⟨rfl, hb1⟩; obtain ⟨hc1, hf1⟩ := bcell hb1; have hz1 := hb1.size; (try simp only [World.size_drew, World.size_alloc, World.size_setCell] at hc1 hf1 hz1); obtain ⟨hk1x0, hj1x0, hq1x0⟩ := kfa hb1 (w.heap.size); obtain ⟨hk1x1, hj1x1, hq1x1⟩ := kfa hb1 (w.heap.size + 1); obtain ⟨hk1x2, hj1x2, hq1x2⟩ := kfa hb1 (w.heap.size + 1 + 1); clear hc1 hf1)
    exact bodyPost_ret (v := .tuple #[s3 0 0 0, .bool false]) (by simp [results, Tryz.results59, go_sem, *]) rfl ⟨rfl, bel_a⟩
  | true =>
    rw [if_pos eM] at e
    obtain ⟨s0, es0⟩ : ∃ z, c - r = z := ⟨_, rfl⟩
    have ws0 := i64w (n := c - r) (by omega)
    rw [es0] at e ws0
    obtain ⟨s1, es1⟩ : ∃ z, t - a = z := ⟨_, rfl⟩
    have ws1 := i64w (n := t - a) (by omega)
    rw [es1] at e ws1
    obtain ⟨s2, es2⟩ : ∃ z, d - s = z := ⟨_, rfl⟩
    have ws2 := i64w (n := d - s) (by omega)
    rw [es2] at e ws2
    obtain ⟨s3', es3'⟩ : ∃ z, u - b = z := ⟨_, rfl⟩
    have ws3' := i64w (n := u - b) (by omega)
    rw [es3'] at e ws3'
    unfold bsT at e
    cases d1 : decide (s1 < s0) with
    | true =>
      simp only [if_pos (of_decide_eq_true d1)] at e
      cases d2 : decide (s2 < s1) with
      | true =>
        simp only [if_pos (of_decide_eq_true d2)] at e
        cases d3 : decide (s3' < s2) with
        | true =>
          simp only [if_pos (of_decide_eq_true d3)] at e
          simp only [Prod.mk.injEq] at e
          obtain ⟨⟨eX, eY, eD⟩, eK⟩ := e
          subst eX
          subst eY
          subst eD
          subst eK
          go_enter Tryz.func59, Tryz.ntmps59
          go_wp2_with (go_at_call 83; refine (smeets_q _ _ _ _ _ _ _ _ _ _ eM).mono ?_; rintro e w1 ⟨rfl, hb1⟩; obtain ⟨hc1, hf1⟩ := bcell hb1; have hz1 := hb1.size; (try simp only [World.size_drew, World.size_alloc, World.size_setCell] at hc1 hf1 hz1); obtain ⟨hk1x0, hj1x0, hq1x0⟩ := kfa hb1 (w.heap.size); obtain ⟨hk1x1, hj1x1, hq1x1⟩ := kfa hb1 (w.heap.size + 1); obtain ⟨hk1x2, hj1x2, hq1x2⟩ := kfa hb1 (w.heap.size + 1 + 1); clear hc1 hf1)
          exact bodyPost_ret (v := .tuple #[s3 0 (-256) s3', .bool true]) (by simp [results, Tryz.results59, go_sem, *]) rfl ⟨rfl, bel_a⟩
        | false =>
          simp only [if_neg (of_decide_eq_false d3)] at e
          simp only [Prod.mk.injEq] at e
          obtain ⟨⟨eX, eY, eD⟩, eK⟩ := e
          subst eX
          subst eY
          subst eD
          subst eK
          go_enter Tryz.func59, Tryz.ntmps59
          go_wp2_with (go_at_call 83; refine (smeets_q _ _ _ _ _ _ _ _ _ _ eM).mono ?_; rintro e w1 ⟨rfl, hb1⟩; obtain ⟨hc1, hf1⟩ := bcell hb1; have hz1 := hb1.size; (try simp only [World.size_drew, World.size_alloc, World.size_setCell] at hc1 hf1 hz1); obtain ⟨hk1x0, hj1x0, hq1x0⟩ := kfa hb1 (w.heap.size); obtain ⟨hk1x1, hj1x1, hq1x1⟩ := kfa hb1 (w.heap.size + 1); obtain ⟨hk1x2, hj1x2, hq1x2⟩ := kfa hb1 (w.heap.size + 1 + 1); clear hc1 hf1)
          exact bodyPost_ret (v := .tuple #[s3 0 256 s2, .bool true]) (by simp [results, Tryz.results59, go_sem, *]) rfl ⟨rfl, bel_a⟩
      | false =>
        simp only [if_neg (of_decide_eq_false d2)] at e
        cases d3 : decide (s3' < s1) with
        | true =>
          simp only [if_pos (of_decide_eq_true d3)] at e
          simp only [Prod.mk.injEq] at e
          obtain ⟨⟨eX, eY, eD⟩, eK⟩ := e
          subst eX
          subst eY
          subst eD
          subst eK
          go_enter Tryz.func59, Tryz.ntmps59
          go_wp2_with (go_at_call 83; refine (smeets_q _ _ _ _ _ _ _ _ _ _ eM).mono ?_; rintro e w1 ⟨rfl, hb1⟩; obtain ⟨hc1, hf1⟩ := bcell hb1; have hz1 := hb1.size; (try simp only [World.size_drew, World.size_alloc, World.size_setCell] at hc1 hf1 hz1); obtain ⟨hk1x0, hj1x0, hq1x0⟩ := kfa hb1 (w.heap.size); obtain ⟨hk1x1, hj1x1, hq1x1⟩ := kfa hb1 (w.heap.size + 1); obtain ⟨hk1x2, hj1x2, hq1x2⟩ := kfa hb1 (w.heap.size + 1 + 1); clear hc1 hf1)
          exact bodyPost_ret (v := .tuple #[s3 0 (-256) s3', .bool true]) (by simp [results, Tryz.results59, go_sem, *]) rfl ⟨rfl, bel_a⟩
        | false =>
          simp only [if_neg (of_decide_eq_false d3)] at e
          simp only [Prod.mk.injEq] at e
          obtain ⟨⟨eX, eY, eD⟩, eK⟩ := e
          subst eX
          subst eY
          subst eD
          subst eK
          go_enter Tryz.func59, Tryz.ntmps59
          go_wp2_with (go_at_call 83; refine (smeets_q _ _ _ _ _ _ _ _ _ _ eM).mono ?_; rintro e w1 ⟨rfl, hb1⟩; obtain ⟨hc1, hf1⟩ := bcell hb1; have hz1 := hb1.size; (try simp only [World.size_drew, World.size_alloc, World.size_setCell] at hc1 hf1 hz1); obtain ⟨hk1x0, hj1x0, hq1x0⟩ := kfa hb1 (w.heap.size); obtain ⟨hk1x1, hj1x1, hq1x1⟩ := kfa hb1 (w.heap.size + 1); obtain ⟨hk1x2, hj1x2, hq1x2⟩ := kfa hb1 (w.heap.size + 1 + 1); clear hc1 hf1)
          exact bodyPost_ret (v := .tuple #[s3 (-256) 0 s1, .bool true]) (by simp [results, Tryz.results59, go_sem, *]) rfl ⟨rfl, bel_a⟩
    | false =>
      simp only [if_neg (of_decide_eq_false d1)] at e
      cases d2 : decide (s2 < s0) with
      | true =>
        simp only [if_pos (of_decide_eq_true d2)] at e
        cases d3 : decide (s3' < s2) with
        | true =>
          simp only [if_pos (of_decide_eq_true d3)] at e
          simp only [Prod.mk.injEq] at e
          obtain ⟨⟨eX, eY, eD⟩, eK⟩ := e
          subst eX
          subst eY
          subst eD
          subst eK
          go_enter Tryz.func59, Tryz.ntmps59
          go_wp2_with (go_at_call 83; refine (smeets_q _ _ _ _ _ _ _ _ _ _ eM).mono ?_; rintro e w1 ⟨rfl, hb1⟩; obtain ⟨hc1, hf1⟩ := bcell hb1; have hz1 := hb1.size; (try simp only [World.size_drew, World.size_alloc, World.size_setCell] at hc1 hf1 hz1); obtain ⟨hk1x0, hj1x0, hq1x0⟩ := kfa hb1 (w.heap.size); obtain ⟨hk1x1, hj1x1, hq1x1⟩ := kfa hb1 (w.heap.size + 1); obtain ⟨hk1x2, hj1x2, hq1x2⟩ := kfa hb1 (w.heap.size + 1 + 1); clear hc1 hf1)
          exact bodyPost_ret (v := .tuple #[s3 0 (-256) s3', .bool true]) (by simp [results, Tryz.results59, go_sem, *]) rfl ⟨rfl, bel_a⟩
        | false =>
          simp only [if_neg (of_decide_eq_false d3)] at e
          simp only [Prod.mk.injEq] at e
          obtain ⟨⟨eX, eY, eD⟩, eK⟩ := e
          subst eX
          subst eY
          subst eD
          subst eK
          go_enter Tryz.func59, Tryz.ntmps59
          go_wp2_with (go_at_call 83; refine (smeets_q _ _ _ _ _ _ _ _ _ _ eM).mono ?_; rintro e w1 ⟨rfl, hb1⟩; obtain ⟨hc1, hf1⟩ := bcell hb1; have hz1 := hb1.size; (try simp only [World.size_drew, World.size_alloc, World.size_setCell] at hc1 hf1 hz1); obtain ⟨hk1x0, hj1x0, hq1x0⟩ := kfa hb1 (w.heap.size); obtain ⟨hk1x1, hj1x1, hq1x1⟩ := kfa hb1 (w.heap.size + 1); obtain ⟨hk1x2, hj1x2, hq1x2⟩ := kfa hb1 (w.heap.size + 1 + 1); clear hc1 hf1)
          exact bodyPost_ret (v := .tuple #[s3 0 256 s2, .bool true]) (by simp [results, Tryz.results59, go_sem, *]) rfl ⟨rfl, bel_a⟩
      | false =>
        simp only [if_neg (of_decide_eq_false d2)] at e
        cases d3 : decide (s3' < s0) with
        | true =>
          simp only [if_pos (of_decide_eq_true d3)] at e
          simp only [Prod.mk.injEq] at e
          obtain ⟨⟨eX, eY, eD⟩, eK⟩ := e
          subst eX
          subst eY
          subst eD
          subst eK
          go_enter Tryz.func59, Tryz.ntmps59
          go_wp2_with (go_at_call 83; refine (smeets_q _ _ _ _ _ _ _ _ _ _ eM).mono ?_; rintro e w1 ⟨rfl, hb1⟩; obtain ⟨hc1, hf1⟩ := bcell hb1; have hz1 := hb1.size; (try simp only [World.size_drew, World.size_alloc, World.size_setCell] at hc1 hf1 hz1); obtain ⟨hk1x0, hj1x0, hq1x0⟩ := kfa hb1 (w.heap.size); obtain ⟨hk1x1, hj1x1, hq1x1⟩ := kfa hb1 (w.heap.size + 1); obtain ⟨hk1x2, hj1x2, hq1x2⟩ := kfa hb1 (w.heap.size + 1 + 1); clear hc1 hf1)
          exact bodyPost_ret (v := .tuple #[s3 0 (-256) s3', .bool true]) (by simp [results, Tryz.results59, go_sem, *]) rfl ⟨rfl, bel_a⟩
        | false =>
          simp only [if_neg (of_decide_eq_false d3)] at e
          simp only [Prod.mk.injEq] at e
          obtain ⟨⟨eX, eY, eD⟩, eK⟩ := e
          subst eX
          subst eY
          subst eD
          subst eK
          go_enter Tryz.func59, Tryz.ntmps59
          go_wp2_with (go_at_call 83; refine (smeets_q _ _ _ _ _ _ _ _ _ _ eM).mono ?_; rintro e w1 ⟨rfl, hb1⟩; obtain ⟨hc1, hf1⟩ := bcell hb1; have hz1 := hb1.size; (try simp only [World.size_drew, World.size_alloc, World.size_setCell] at hc1 hf1 hz1); obtain ⟨hk1x0, hj1x0, hq1x0⟩ := kfa hb1 (w.heap.size); obtain ⟨hk1x1, hj1x1, hq1x1⟩ := kfa hb1 (w.heap.size + 1); obtain ⟨hk1x2, hj1x2, hq1x2⟩ := kfa hb1 (w.heap.size + 1 + 1); clear hc1 hf1)
          exact bodyPost_ret (v := .tuple #[s3 256 0 s0, .bool true]) (by simp [results, Tryz.results59, go_sem, *]) rfl ⟨rfl, bel_a⟩
end Go.Proofs.YtlbpmmjckoaleaaGreat
namespace Go.Proofs.YtlbpmmjckoaleaaGreat
open Go.RowKit
set_option linter.unusedVariables false
set_option linter.unusedSimpArgs false

def mxT (a b c d x y g : Int) : (Int × Int × Int) × Bool := if ptB a b c d x y = true then (((bsT (c - x) (x - a) (d - y) (y - b)).1, (bsT (c - x) (x - a) (d - y) (y - b)).2.1, (bsT (c - x) (x - a) (d - y) (y - b)).2.2 + g), true) else rdT (x - mn (mx x a) c) (y - mn (mx y b) d) g
theorem bsT_bd {s0 s1 s2 s3 B : Int} (h0 : -B ≤ s0 ∧ s0 ≤ B) (h1 : -B ≤ s1 ∧ s1 ≤ B) (h2 : -B ≤ s2 ∧ s2 ≤ B) (h3 : -B ≤ s3 ∧ s3 ≤ B) : -B ≤ (bsT s0 s1 s2 s3).2.2 ∧ (bsT s0 s1 s2 s3).2.2 ≤ B ∧ (-256 ≤ (bsT s0 s1 s2 s3).1 ∧ (bsT s0 s1 s2 s3).1 ≤ 256) ∧ (-256 ≤ (bsT s0 s1 s2 s3).2.1 ∧ (bsT s0 s1 s2 s3).2.1 ≤ 256) := by
  unfold bsT
  by_cases a : s1 < s0
  · simp only [if_pos a]
    by_cases b : s2 < s1
    · simp only [if_pos b]
      by_cases c : s3 < s2
      · simp only [if_pos c]; omega
      · simp only [if_neg c]; omega
    · simp only [if_neg b]
      by_cases c : s3 < s1
      · simp only [if_pos c]; omega
      · simp only [if_neg c]; omega
  · simp only [if_neg a]
    by_cases b : s2 < s0
    · simp only [if_pos b]
      by_cases c : s3 < s2
      · simp only [if_pos c]; omega
      · simp only [if_neg c]; omega
    · simp only [if_neg b]
      by_cases c : s3 < s0
      · simp only [if_pos c]; omega
      · simp only [if_neg c]; omega
theorem near_in {a c x B : Int} (ha : -B ≤ a ∧ a ≤ B) (hc : -B ≤ c ∧ c ≤ B) (hx : -B ≤ x ∧ x ≤ B) : -B ≤ mn (mx x a) c ∧ mn (mx x a) c ≤ B := by
  unfold mn mx; repeat' split <;> omega

theorem spoint_q (a b c d x y : Int) (z : Bool) (w : World) (e : ptB a b c d x y = z) :
    Calls Tryz.prog 84 #[b4 a b c d, vv x y] w fun e w' => e = .returned (.bool z) ∧ Below w.heap.size w w' := by
  subst e; exact l3Point_any a b c d x y w
theorem snear_q (a b c d x y X Y : Int) (w : World) (e1 : mn (mx x a) c = X) (e2 : mn (mx y b) d = Y) :
    Calls Tryz.prog 85 #[b4 a b c d, vv x y] w fun e w' => e = .returned (vv X Y) ∧ Below w.heap.size w w' := by
  subst e1; subst e2; exact l3Near_any a b c d x y w
set_option maxHeartbeats 8000000 in
theorem l5Mixed_q (a b c d x y g X Y D : Int) (K : Bool) (w : World) (qa : -3000000 ≤ a ∧ a ≤ 3000000) (qb : -3000000 ≤ b ∧ b ≤ 3000000) (qc : -3000000 ≤ c ∧ c ≤ 3000000) (qd : -3000000 ≤ d ∧ d ≤ 3000000) (qx : -3000000 ≤ x ∧ x ≤ 3000000) (qy : -3000000 ≤ y ∧ y ≤ 3000000) (g0 : 0 ≤ g ∧ g ≤ 100000) (e : mxT a b c d x y g = ((X, Y, D), K)) :
    Calls Tryz.prog 61 #[b4 a b c d, vv x y, .int .i64 g] w fun e w' => e = .returned (.tuple #[s3 X Y D, .bool K]) ∧ Below w.heap.size w w' := by
  have hset := cset_map
  unfold mxT at e
  cases eP : ptB a b c d x y with
  | true =>
    rw [if_pos eP] at e
    have hb := bsT_bd (s0 := c - x) (s1 := x - a) (s2 := d - y) (s3 := y - b) (B := 6000000) (by omega) (by omega) (by omega) (by omega)
    obtain ⟨⟨P, Q, E⟩, eQ⟩ : ∃ z, bsT (c - x) (x - a) (d - y) (y - b) = z := ⟨_, rfl⟩
    rw [eQ] at e hb
    dsimp only at hb
    simp only [Prod.mk.injEq] at e
    obtain ⟨⟨eX, eY, eD⟩, eK⟩ := e
    subst eX
    subst eY
    subst eD
    subst eK
    have eB : bxT a b c d x y x y = ((P, Q, E), true) := by
      have hm : (leB a b x y && leB x y c d) = true := by
        unfold ptB at eP; have := of_decide_eq_true eP; unfold leB; simp only [Bool.and_eq_true, decide_eq_true_eq]; omega
      unfold bxT; rw [if_pos hm, eQ]
    have w1 := i64w (n := E + g) (by have := hb.1; have := hb.2.1; omega)
    clear hb eQ
    go_enter Tryz.func61, Tryz.ntmps61
    go_wp2_with (first
    | (go_at_call 84; refine (spoint_q _ _ _ _ _ _ _ _ eP).mono ?_; rintro e w1 ⟨rfl, hb1⟩; obtain ⟨hc1, hf1⟩ := bcell hb1; have hz1 := hb1.size; (try simp only [World.size_drew, World.size_alloc, World.size_setCell] at hc1 hf1 hz1); obtain ⟨hk1x0, hj1x0, hq1x0⟩ := kfa hb1 (w.heap.size); obtain ⟨hk1x1, hj1x1, hq1x1⟩ := kfa hb1 (w.heap.size + 1); obtain ⟨hk1x2, hj1x2, hq1x2⟩ := kfa hb1 (w.heap.size + 1 + 1); clear hc1 hf1)
    | (go_at_call 59; refine (l5Boxes_q _ _ _ _ _ _ _ _ P Q E true _ (by omega) (by omega) (by omega) (by omega) (by omega) (by omega) (by omega) (by omega) eB).mono ?_; rintro e w2 ⟨rfl, hb2⟩; obtain ⟨hc2, hf2⟩ := bcell hb2; have hz2 := hb2.size; (try simp only [World.size_drew, World.size_alloc, World.size_setCell] at hc2 hf2 hz2); obtain ⟨hk2x0, hj2x0, hq2x0⟩ := kfa hb2 (w.heap.size); obtain ⟨hk2x1, hj2x1, hq2x1⟩ := kfa hb2 (w.heap.size + 1); obtain ⟨hk2x2, hj2x2, hq2x2⟩ := kfa hb2 (w.heap.size + 1 + 1); clear hc2 hf2))
    exact bodyPost_ret (v := .tuple #[s3 P Q (E + g), .bool true]) (by simp [results, Tryz.results61, go_sem, *]) rfl ⟨rfl, bel_a⟩
  | false =>
    rw [if_neg (by simp [eP])] at e
    have n1 := near_in (a := a) (c := c) (x := x) (B := 3000000) (by omega) (by omega) (by omega)
    have n2 := near_in (a := b) (c := d) (x := y) (B := 3000000) (by omega) (by omega) (by omega)
    obtain ⟨nx, eN1⟩ : ∃ z, mn (mx x a) c = z := ⟨_, rfl⟩
    obtain ⟨ny, eN2⟩ : ∃ z, mn (mx y b) d = z := ⟨_, rfl⟩
    rw [eN1] at e n1
    rw [eN2] at e n2
    go_enter Tryz.func61, Tryz.ntmps61
    go_upto_region 5 with (go_at_call 84; refine (spoint_q _ _ _ _ _ _ _ _ eP).mono ?_; rintro e w1 ⟨rfl, hb1⟩; obtain ⟨hc1, hf1⟩ := bcell hb1; have hz1 := hb1.size; (try simp only [World.size_drew, World.size_alloc, World.size_setCell] at hc1 hf1 hz1); obtain ⟨hk1x0, hj1x0, hq1x0⟩ := kfa hb1 (w.heap.size); obtain ⟨hk1x1, hj1x1, hq1x1⟩ := kfa hb1 (w.heap.size + 1); obtain ⟨hk1x2, hj1x2, hq1x2⟩ := kfa hb1 (w.heap.size + 1 + 1); clear hc1 hf1)
    refine wp_region_held_drew (S := fun w' => w'.cell? ⟨w.heap.size, 0, none⟩ = some (.int .i64 a) ∧ w'.cell? ⟨w.heap.size, 1, none⟩ = some (.int .i64 b) ∧ w'.cell? ⟨w.heap.size, 2, none⟩ = some (.int .i64 c) ∧ w'.cell? ⟨w.heap.size, 3, none⟩ = some (.int .i64 d) ∧ w'.cell? ⟨w.heap.size + 1, 0, none⟩ = some (.int .i64 x) ∧ w'.cell? ⟨w.heap.size + 1, 1, none⟩ = some (.int .i64 y)) (by kernel_rfl) ?_ (fun hHeld => ?_)
    · (try dsimp only)
      (first | (go_simp; done) | (go_keep; done))
    refine tq 0 hHeld ?_
    refine tq 1 hHeld ?_
    refine tq 3 hHeld ?_
    refine tq 4 hHeld ?_
    (refine tc 2 fun K hK => ?_; go_simp; (go_at_call 85; refine (snear_q _ _ _ _ _ _ _ _ _ eN1 eN2).mono ?_; rintro e w3 ⟨rfl, hb3⟩; obtain ⟨hc3, hf3⟩ := bcell hb3; have hz3 := hb3.size; (try simp only [World.size_drew, World.size_alloc, World.size_setCell] at hc3 hf3 hz3); obtain ⟨hk3x0, hj3x0, hq3x0⟩ := kfa hb3 (w.heap.size); obtain ⟨hk3x1, hj3x1, hq3x1⟩ := kfa hb3 (w.heap.size + 1); obtain ⟨hk3x2, hj3x2, hq3x2⟩ := kfa hb3 (w.heap.size + 1 + 1); clear hc3 hf3); (try go_wp2_with fail); refine tr hK (fun hHeld => ?_); clear hK K)
    (refine tc 5 fun K hK => ?_; go_simp; (go_at_call 58; refine (l5Rounds_q nx ny x y g X Y D _ _ (by omega) (by omega) (by omega) (by omega) (by omega) e).mono ?_; rintro e w4 ⟨rfl, hb4⟩; obtain ⟨hc4, hf4⟩ := bcell hb4; have hz4 := hb4.size; (try simp only [World.size_drew, World.size_alloc, World.size_setCell] at hc4 hf4 hz4); obtain ⟨hk4x0, hj4x0, hq4x0⟩ := kfa hb4 (w.heap.size); obtain ⟨hk4x1, hj4x1, hq4x1⟩ := kfa hb4 (w.heap.size + 1); obtain ⟨hk4x2, hj4x2, hq4x2⟩ := kfa hb4 (w.heap.size + 1 + 1); clear hc4 hf4); (try go_wp2_with fail); refine tr hK (fun hHeld => ?_); clear hK K)
    refine tq 6 hHeld ?_
    refine tq 7 hHeld ?_
    (refine tc 8 fun K hK => ?_; go_simp; refine tr hK (fun hHeld => ?_); clear hK K)
    refine tq 9 hHeld ?_
    refine wpAnyH_done (by kernel_rfl) ?_ _
    go_wp2_with fail
    exact bodyPost_ret (v := .tuple #[s3 X Y D, .bool K]) (by simp [results, Tryz.results61, go_sem, *]) rfl ⟨rfl, bel_a⟩
set_option maxHeartbeats 4000000 in
theorem l5Turn_q (x y k : Int) (w : World) (hx : -2000000000 ≤ x ∧ x ≤ 2000000000) (hy : -2000000000 ≤ y ∧ y ≤ 2000000000) :
    Calls Tryz.prog 62 #[s3 x y k] w fun e w' => e = .returned (s3 (-x) (-y) k) ∧ Below w.heap.size w w' := by
  have hset := cset_map
  have w1 := i64w (n := -x) (by omega)
  have w2 := i64w (n := -y) (by omega)
  go_enter Tryz.func62, Tryz.ntmps62
  go_wp2_with fail
  exact bodyPost_ret (v := s3 (-x) (-y) k) (by simp [results, Tryz.results62, go_sem, *]) rfl ⟨rfl, bel_a⟩
end Go.Proofs.YtlbpmmjckoaleaaGreat
namespace Go.Proofs.YtlbpmmjckoaleaaGreat
open Go.RowKit
set_option linter.unusedVariables false
set_option linter.unusedSimpArgs false

theorem ux_bd2 {x y : Int} (hx : -6000000 ≤ x ∧ x ≤ 6000000) : -1600000000 ≤ ux x y ∧ ux x y ≤ 1600000000 := by
  unfold ux; split
  · omega
  · have := tdiv_bd (x := x * 256) (B := 1600000000) (vl x y) (by omega); exact this
theorem uy_bd2 {x y : Int} (hy : -6000000 ≤ y ∧ y ≤ 6000000) : -1600000000 ≤ uy x y ∧ uy x y ≤ 1600000000 := by
  unfold uy; split
  · omega
  · have := tdiv_bd (x := y * 256) (B := 1600000000) (vl x y) (by omega); exact this
theorem mxT_bd {a b c d x y g X Y D : Int} {K : Bool} (qa : -3000000 ≤ a ∧ a ≤ 3000000) (qb : -3000000 ≤ b ∧ b ≤ 3000000) (qc : -3000000 ≤ c ∧ c ≤ 3000000) (qd : -3000000 ≤ d ∧ d ≤ 3000000) (qx : -3000000 ≤ x ∧ x ≤ 3000000) (qy : -3000000 ≤ y ∧ y ≤ 3000000) (e : mxT a b c d x y g = ((X, Y, D), K)) :
    (-1600000000 ≤ X ∧ X ≤ 1600000000) ∧ (-1600000000 ≤ Y ∧ Y ≤ 1600000000) := by
  unfold mxT at e
  split at e
  · have hb := bsT_bd (s0 := c - x) (s1 := x - a) (s2 := d - y) (s3 := y - b) (B := 6000000) (by omega) (by omega) (by omega) (by omega)
    simp only [Prod.mk.injEq] at e
    obtain ⟨⟨eX, eY, eD⟩, eK⟩ := e
    omega
  · have n1 := near_in (a := a) (c := c) (x := x) (B := 3000000) (by omega) (by omega) (by omega)
    have n2 := near_in (a := b) (c := d) (x := y) (B := 3000000) (by omega) (by omega) (by omega)
    unfold rdT at e
    split at e
    · simp only [Prod.mk.injEq] at e
      obtain ⟨⟨eX, eY, eD⟩, eK⟩ := e
      have h1 := ux_bd2 (x := x - mn (mx x a) c) (y := y - mn (mx y b) d) (by omega)
      have h2 := uy_bd2 (x := x - mn (mx x a) c) (y := y - mn (mx y b) d) (by omega)
      omega
    · simp only [Prod.mk.injEq] at e
      obtain ⟨⟨eX, eY, eD⟩, eK⟩ := e
      omega
def tnT (m : (Int × Int × Int) × Bool) : (Int × Int × Int) × Bool := if m.2 = true then ((-m.1.1, -m.1.2.1, m.1.2.2), true) else ((0, 0, 0), false)

set_option maxHeartbeats 4000000 in
theorem sT_rr (g1 g2 x y u v X Y D : Int) (K : Bool) (w : World) (lg1 : 1 ≤ g1 ∧ g1 ≤ 25600) (lg2 : 1 ≤ g2 ∧ g2 ≤ 25600) (px : -2560000 ≤ x ∧ x ≤ 2560000) (py : -2560000 ≤ y ∧ y ≤ 2560000) (pu : -2560000 ≤ u ∧ u ≤ 2560000) (pv : -2560000 ≤ v ∧ v ≤ 2560000) (e : rdT (u - x) (v - y) (g1 + g2) = ((X, Y, D), K)) :
    Calls Tryz.prog 38 #[s3 1 g1 0, vv x y, s3 1 g2 0, vv u v] w fun e w' => e = .returned (.tuple #[s3 X Y D, .bool K]) ∧ Below w.heap.size w w' := by
  have hset := cset_map
  have w1 := i64w (n := g1 + g2) (by omega)
  go_enter Tryz.func38, Tryz.ntmps38
  go_wp2_with (go_at_call 58; refine (l5Rounds_q _ _ _ _ _ X Y D _ _ (by omega) (by omega) (by omega) (by omega) (by omega) e).mono ?_; rintro e w1 ⟨rfl, hb1⟩; obtain ⟨hc1, hf1⟩ := bcell hb1; have hz1 := hb1.size; (try simp only [World.size_drew, World.size_alloc, World.size_setCell] at hc1 hf1 hz1); obtain ⟨hk1x0, hj1x0, hq1x0⟩ := kfa hb1 (w.heap.size); obtain ⟨hk1x1, hj1x1, hq1x1⟩ := kfa hb1 (w.heap.size + 1); obtain ⟨hk1x2, hj1x2, hq1x2⟩ := kfa hb1 (w.heap.size + 1 + 1); obtain ⟨hk1x3, hj1x3, hq1x3⟩ := kfa hb1 (w.heap.size + 1 + 1 + 1); obtain ⟨hk1x4, hj1x4, hq1x4⟩ := kfa hb1 (w.heap.size + 1 + 1 + 1 + 1); clear hc1 hf1)
  exact bodyPost_ret (v := .tuple #[s3 X Y D, .bool K]) (by simp [results, Tryz.results38, go_sem, *]) rfl ⟨rfl, bel_a⟩

set_option maxHeartbeats 4000000 in
theorem sT_bb (g1 h1 g2 h2 x y u v X Y D : Int) (K : Bool) (w : World) (lg1 : 1 ≤ g1 ∧ g1 ≤ 25600) (lh1 : 1 ≤ h1 ∧ h1 ≤ 25600) (lg2 : 1 ≤ g2 ∧ g2 ≤ 25600) (lh2 : 1 ≤ h2 ∧ h2 ≤ 25600) (px : -2560000 ≤ x ∧ x ≤ 2560000) (py : -2560000 ≤ y ∧ y ≤ 2560000) (pu : -2560000 ≤ u ∧ u ≤ 2560000) (pv : -2560000 ≤ v ∧ v ≤ 2560000) (e : bxT (x - g1) (y - h1) (x + g1) (y + h1) (u - g2) (v - h2) (u + g2) (v + h2) = ((X, Y, D), K)) :
    Calls Tryz.prog 38 #[s3 2 g1 h1, vv x y, s3 2 g2 h2, vv u v] w fun e w' => e = .returned (.tuple #[s3 X Y D, .bool K]) ∧ Below w.heap.size w w' := by
  have hset := cset_map
  go_enter Tryz.func38, Tryz.ntmps38
  go_upto_region 4 with fail
  refine wp_region_held_drew (S := fun w' => w'.cell? ⟨w.heap.size, 0, none⟩ = some (.int .i64 2) ∧ w'.cell? ⟨w.heap.size, 1, none⟩ = some (.int .i64 g1) ∧ w'.cell? ⟨w.heap.size, 2, none⟩ = some (.int .i64 h1) ∧ w'.cell? ⟨w.heap.size + 1, 0, none⟩ = some (.int .i64 x) ∧ w'.cell? ⟨w.heap.size + 1, 1, none⟩ = some (.int .i64 y) ∧ w'.cell? ⟨w.heap.size + 1 + 1, 0, none⟩ = some (.int .i64 2) ∧ w'.cell? ⟨w.heap.size + 1 + 1, 1, none⟩ = some (.int .i64 g2) ∧ w'.cell? ⟨w.heap.size + 1 + 1, 2, none⟩ = some (.int .i64 h2) ∧ w'.cell? ⟨w.heap.size + 1 + 1 + 1, 0, none⟩ = some (.int .i64 u) ∧ w'.cell? ⟨w.heap.size + 1 + 1 + 1, 1, none⟩ = some (.int .i64 v)) (by kernel_rfl) ?_ (fun hHeld => ?_)
  · (try dsimp only)
    (first | (go_simp; done) | (go_keep; done))
  refine tq 0 hHeld ?_
  refine tq 1 hHeld ?_
  refine tq 3 hHeld ?_
  refine tq 4 hHeld ?_
  (refine tc 2 fun K hK => ?_; go_simp; (go_at_call 60; refine (l3Bounds_b _ _ _ _ _ (by omega) (by omega) (by omega) (by omega) (by omega) (by omega)).mono ?_; rintro e w1 ⟨rfl, hb1⟩; obtain ⟨hc1, hf1⟩ := bcell hb1; have hz1 := hb1.size; (try simp only [World.size_drew, World.size_alloc, World.size_setCell] at hc1 hf1 hz1); obtain ⟨hk1x0, hj1x0, hq1x0⟩ := kfa hb1 (w.heap.size); obtain ⟨hk1x1, hj1x1, hq1x1⟩ := kfa hb1 (w.heap.size + 1); obtain ⟨hk1x2, hj1x2, hq1x2⟩ := kfa hb1 (w.heap.size + 1 + 1); obtain ⟨hk1x3, hj1x3, hq1x3⟩ := kfa hb1 (w.heap.size + 1 + 1 + 1); obtain ⟨hk1x4, hj1x4, hq1x4⟩ := kfa hb1 (w.heap.size + 1 + 1 + 1 + 1); clear hc1 hf1); (try go_wp2_with fail); refine tr hK (fun hHeld => ?_); clear hK K)
  (refine tc 5 fun K hK => ?_; go_simp; (go_at_call 60; refine (l3Bounds_b _ _ _ _ _ (by omega) (by omega) (by omega) (by omega) (by omega) (by omega)).mono ?_; rintro e w2 ⟨rfl, hb2⟩; obtain ⟨hc2, hf2⟩ := bcell hb2; have hz2 := hb2.size; (try simp only [World.size_drew, World.size_alloc, World.size_setCell] at hc2 hf2 hz2); obtain ⟨hk2x0, hj2x0, hq2x0⟩ := kfa hb2 (w.heap.size); obtain ⟨hk2x1, hj2x1, hq2x1⟩ := kfa hb2 (w.heap.size + 1); obtain ⟨hk2x2, hj2x2, hq2x2⟩ := kfa hb2 (w.heap.size + 1 + 1); obtain ⟨hk2x3, hj2x3, hq2x3⟩ := kfa hb2 (w.heap.size + 1 + 1 + 1); obtain ⟨hk2x4, hj2x4, hq2x4⟩ := kfa hb2 (w.heap.size + 1 + 1 + 1 + 1); clear hc2 hf2); (try go_wp2_with fail); refine tr hK (fun hHeld => ?_); clear hK K)
  (refine tc 6 fun K hK => ?_; go_simp; (go_at_call 59; refine (l5Boxes_q _ _ _ _ _ _ _ _ X Y D _ _ (by omega) (by omega) (by omega) (by omega) (by omega) (by omega) (by omega) (by omega) e).mono ?_; rintro e w3 ⟨rfl, hb3⟩; obtain ⟨hc3, hf3⟩ := bcell hb3; have hz3 := hb3.size; (try simp only [World.size_drew, World.size_alloc, World.size_setCell] at hc3 hf3 hz3); obtain ⟨hk3x0, hj3x0, hq3x0⟩ := kfa hb3 (w.heap.size); obtain ⟨hk3x1, hj3x1, hq3x1⟩ := kfa hb3 (w.heap.size + 1); obtain ⟨hk3x2, hj3x2, hq3x2⟩ := kfa hb3 (w.heap.size + 1 + 1); obtain ⟨hk3x3, hj3x3, hq3x3⟩ := kfa hb3 (w.heap.size + 1 + 1 + 1); obtain ⟨hk3x4, hj3x4, hq3x4⟩ := kfa hb3 (w.heap.size + 1 + 1 + 1 + 1); clear hc3 hf3); (try go_wp2_with fail); refine tr hK (fun hHeld => ?_); clear hK K)
  refine tq 7 hHeld ?_
  refine tq 8 hHeld ?_
  (refine tc 9 fun K hK => ?_; go_simp; refine tr hK (fun hHeld => ?_); clear hK K)
  refine tq 10 hHeld ?_
  refine wpAnyH_done (by kernel_rfl) ?_ _
  go_wp2_with fail
  exact bodyPost_ret (v := .tuple #[s3 X Y D, .bool K]) (by simp [results, Tryz.results38, go_sem, *]) rfl ⟨rfl, bel_a⟩
set_option maxHeartbeats 4000000 in
theorem sT_br (g1 h1 g2 x y u v X Y D : Int) (K : Bool) (w : World) (lg1 : 1 ≤ g1 ∧ g1 ≤ 25600) (lh1 : 1 ≤ h1 ∧ h1 ≤ 25600) (lg2 : 1 ≤ g2 ∧ g2 ≤ 25600) (px : -2560000 ≤ x ∧ x ≤ 2560000) (py : -2560000 ≤ y ∧ y ≤ 2560000) (pu : -2560000 ≤ u ∧ u ≤ 2560000) (pv : -2560000 ≤ v ∧ v ≤ 2560000) (e : mxT (x - g1) (y - h1) (x + g1) (y + h1) u v g2 = ((X, Y, D), K)) :
    Calls Tryz.prog 38 #[s3 2 g1 h1, vv x y, s3 1 g2 0, vv u v] w fun e w' => e = .returned (.tuple #[s3 X Y D, .bool K]) ∧ Below w.heap.size w w' := by
  have hset := cset_map
  go_enter Tryz.func38, Tryz.ntmps38
  go_upto_region 6 with fail
  refine wp_region_held_drew (S := fun w' => w'.cell? ⟨w.heap.size, 0, none⟩ = some (.int .i64 2) ∧ w'.cell? ⟨w.heap.size, 1, none⟩ = some (.int .i64 g1) ∧ w'.cell? ⟨w.heap.size, 2, none⟩ = some (.int .i64 h1) ∧ w'.cell? ⟨w.heap.size + 1, 0, none⟩ = some (.int .i64 x) ∧ w'.cell? ⟨w.heap.size + 1, 1, none⟩ = some (.int .i64 y) ∧ w'.cell? ⟨w.heap.size + 1 + 1, 0, none⟩ = some (.int .i64 1) ∧ w'.cell? ⟨w.heap.size + 1 + 1, 1, none⟩ = some (.int .i64 g2) ∧ w'.cell? ⟨w.heap.size + 1 + 1, 2, none⟩ = some (.int .i64 0) ∧ w'.cell? ⟨w.heap.size + 1 + 1 + 1, 0, none⟩ = some (.int .i64 u) ∧ w'.cell? ⟨w.heap.size + 1 + 1 + 1, 1, none⟩ = some (.int .i64 v)) (by kernel_rfl) ?_ (fun hHeld => ?_)
  · (try dsimp only)
    (first | (go_simp; done) | (go_keep; done))
  refine tq 0 hHeld ?_
  refine tq 1 hHeld ?_
  refine tq 3 hHeld ?_
  refine tq 4 hHeld ?_
  refine tq 5 hHeld ?_
  (refine tc 2 fun K hK => ?_; go_simp; (go_at_call 60; refine (l3Bounds_b _ _ _ _ _ (by omega) (by omega) (by omega) (by omega) (by omega) (by omega)).mono ?_; rintro e w1 ⟨rfl, hb1⟩; obtain ⟨hc1, hf1⟩ := bcell hb1; have hz1 := hb1.size; (try simp only [World.size_drew, World.size_alloc, World.size_setCell] at hc1 hf1 hz1); obtain ⟨hk1x0, hj1x0, hq1x0⟩ := kfa hb1 (w.heap.size); obtain ⟨hk1x1, hj1x1, hq1x1⟩ := kfa hb1 (w.heap.size + 1); obtain ⟨hk1x2, hj1x2, hq1x2⟩ := kfa hb1 (w.heap.size + 1 + 1); obtain ⟨hk1x3, hj1x3, hq1x3⟩ := kfa hb1 (w.heap.size + 1 + 1 + 1); obtain ⟨hk1x4, hj1x4, hq1x4⟩ := kfa hb1 (w.heap.size + 1 + 1 + 1 + 1); clear hc1 hf1); (try go_wp2_with fail); refine tr hK (fun hHeld => ?_); clear hK K)
  (refine tc 6 fun K hK => ?_; go_simp; (go_at_call 61; refine (l5Mixed_q _ _ _ _ _ _ _ X Y D _ _ (by omega) (by omega) (by omega) (by omega) (by omega) (by omega) (by omega) e).mono ?_; rintro e w2 ⟨rfl, hb2⟩; obtain ⟨hc2, hf2⟩ := bcell hb2; have hz2 := hb2.size; (try simp only [World.size_drew, World.size_alloc, World.size_setCell] at hc2 hf2 hz2); obtain ⟨hk2x0, hj2x0, hq2x0⟩ := kfa hb2 (w.heap.size); obtain ⟨hk2x1, hj2x1, hq2x1⟩ := kfa hb2 (w.heap.size + 1); obtain ⟨hk2x2, hj2x2, hq2x2⟩ := kfa hb2 (w.heap.size + 1 + 1); obtain ⟨hk2x3, hj2x3, hq2x3⟩ := kfa hb2 (w.heap.size + 1 + 1 + 1); obtain ⟨hk2x4, hj2x4, hq2x4⟩ := kfa hb2 (w.heap.size + 1 + 1 + 1 + 1); clear hc2 hf2); (try go_wp2_with fail); refine tr hK (fun hHeld => ?_); clear hK K)
  refine tq 7 hHeld ?_
  refine tq 8 hHeld ?_
  (refine tc 9 fun K hK => ?_; go_simp; refine tr hK (fun hHeld => ?_); clear hK K)
  refine tq 10 hHeld ?_
  refine wpAnyH_done (by kernel_rfl) ?_ _
  go_wp2_with fail
  exact bodyPost_ret (v := .tuple #[s3 X Y D, .bool K]) (by simp [results, Tryz.results38, go_sem, *]) rfl ⟨rfl, bel_a⟩

set_option maxHeartbeats 8000000 in
theorem sT_rb (g1 g2 h2 x y u v X Y D : Int) (K : Bool) (w : World) (lg1 : 1 ≤ g1 ∧ g1 ≤ 25600) (lg2 : 1 ≤ g2 ∧ g2 ≤ 25600) (lh2 : 1 ≤ h2 ∧ h2 ≤ 25600) (px : -2560000 ≤ x ∧ x ≤ 2560000) (py : -2560000 ≤ y ∧ y ≤ 2560000) (pu : -2560000 ≤ u ∧ u ≤ 2560000) (pv : -2560000 ≤ v ∧ v ≤ 2560000) (e : tnT (mxT (u - g2) (v - h2) (u + g2) (v + h2) x y g1) = ((X, Y, D), K)) :
    Calls Tryz.prog 38 #[s3 1 g1 0, vv x y, s3 2 g2 h2, vv u v] w fun e w' => e = .returned (.tuple #[s3 X Y D, .bool K]) ∧ Below w.heap.size w w' := by
  have hset := cset_map
  obtain ⟨⟨⟨P, Q, E⟩, Z⟩, eM⟩ : ∃ z, mxT (u - g2) (v - h2) (u + g2) (v + h2) x y g1 = z := ⟨_, rfl⟩
  obtain ⟨hP, hQ⟩ := mxT_bd (by omega) (by omega) (by omega) (by omega) (by omega) (by omega) eM
  rw [eM] at e
  unfold tnT at e
  cases Z with
  | true =>
    simp only [if_true, Prod.mk.injEq] at e
    obtain ⟨⟨eX, eY, eD⟩, eK⟩ := e
    subst eX
    subst eY
    subst eD
    subst eK
    go_enter Tryz.func38, Tryz.ntmps38
    go_upto_region 7 with fail
    refine wp_region_held_drew (S := fun w' => w'.cell? ⟨w.heap.size, 0, none⟩ = some (.int .i64 1) ∧ w'.cell? ⟨w.heap.size, 1, none⟩ = some (.int .i64 g1) ∧ w'.cell? ⟨w.heap.size, 2, none⟩ = some (.int .i64 0) ∧ w'.cell? ⟨w.heap.size + 1, 0, none⟩ = some (.int .i64 x) ∧ w'.cell? ⟨w.heap.size + 1, 1, none⟩ = some (.int .i64 y) ∧ w'.cell? ⟨w.heap.size + 1 + 1, 0, none⟩ = some (.int .i64 2) ∧ w'.cell? ⟨w.heap.size + 1 + 1, 1, none⟩ = some (.int .i64 g2) ∧ w'.cell? ⟨w.heap.size + 1 + 1, 2, none⟩ = some (.int .i64 h2) ∧ w'.cell? ⟨w.heap.size + 1 + 1 + 1, 0, none⟩ = some (.int .i64 u) ∧ w'.cell? ⟨w.heap.size + 1 + 1 + 1, 1, none⟩ = some (.int .i64 v)) (by kernel_rfl) ?_ (fun hHeld => ?_)
    · (try dsimp only)
      (first | (go_simp; done) | (go_keep; done))
    refine tq 0 hHeld ?_
    refine tq 1 hHeld ?_
    refine tq 3 hHeld ?_
    refine tq 4 hHeld ?_
    refine tq 5 hHeld ?_
    refine wpAnyH_ready (rs := [2, 10]) (by kernel_rfl) (by simp) ?_
    refine AllReadyH.cons rfl (fun K hK => ?_) (AllReadyH.cons rfl (fun K hK => ?_) AllReadyH.nil)
    · (go_simp; (go_at_call 60; refine (l3Bounds_b _ _ _ _ _ (by omega) (by omega) (by omega) (by omega) (by omega) (by omega)).mono ?_; rintro e w1 ⟨rfl, hb1⟩; obtain ⟨hc1, hf1⟩ := bcell hb1; have hz1 := hb1.size; (try simp only [World.size_drew, World.size_alloc, World.size_setCell] at hc1 hf1 hz1); obtain ⟨hk1x0, hj1x0, hq1x0⟩ := kfa hb1 (w.heap.size); obtain ⟨hk1x1, hj1x1, hq1x1⟩ := kfa hb1 (w.heap.size + 1); obtain ⟨hk1x2, hj1x2, hq1x2⟩ := kfa hb1 (w.heap.size + 1 + 1); obtain ⟨hk1x3, hj1x3, hq1x3⟩ := kfa hb1 (w.heap.size + 1 + 1 + 1); obtain ⟨hk1x4, hj1x4, hq1x4⟩ := kfa hb1 (w.heap.size + 1 + 1 + 1 + 1); (try have hk1y0 := fun o => hc1 (w.heap.size + 1 + 1 + 1 + 1 + 1) o (by omega)); (try have hj1y0 := fun o => hf1 (w.heap.size + 1 + 1 + 1 + 1 + 1) o (by omega)); (try have hq1y0 : w.heap.size + 1 + 1 + 1 + 1 + 1 < w1.heap.size := (by omega)); (try have hr1y0 : (w.heap.size + 1 + 1 + 1 + 1 + 1 = w1.heap.size) = False := eq_false (by omega)); (try have ht1y0 : (w1.heap.size = w.heap.size + 1 + 1 + 1 + 1 + 1) = False := eq_false (by omega)); clear hc1 hf1); (try go_wp2_with fail); refine tr hK (fun hHeld => ?_); clear hK K)
      refine wpAnyH_ready (rs := [6, 10]) (by kernel_rfl) (by simp) ?_
      refine AllReadyH.cons rfl (fun K hK => ?_) (AllReadyH.cons rfl (fun K hK => ?_) AllReadyH.nil)
      · (go_simp; (go_at_call 61; refine (l5Mixed_q _ _ _ _ _ _ _ P Q E true _ (by omega) (by omega) (by omega) (by omega) (by omega) (by omega) (by omega) eM).mono ?_; rintro e w2 ⟨rfl, hb2⟩; obtain ⟨hc2, hf2⟩ := bcell hb2; have hz2 := hb2.size; (try simp only [World.size_drew, World.size_alloc, World.size_setCell] at hc2 hf2 hz2); obtain ⟨hk2x0, hj2x0, hq2x0⟩ := kfa hb2 (w.heap.size); obtain ⟨hk2x1, hj2x1, hq2x1⟩ := kfa hb2 (w.heap.size + 1); obtain ⟨hk2x2, hj2x2, hq2x2⟩ := kfa hb2 (w.heap.size + 1 + 1); obtain ⟨hk2x3, hj2x3, hq2x3⟩ := kfa hb2 (w.heap.size + 1 + 1 + 1); obtain ⟨hk2x4, hj2x4, hq2x4⟩ := kfa hb2 (w.heap.size + 1 + 1 + 1 + 1); (try have hk2y0 := fun o => hc2 (w.heap.size + 1 + 1 + 1 + 1 + 1) o (by omega)); (try have hj2y0 := fun o => hf2 (w.heap.size + 1 + 1 + 1 + 1 + 1) o (by omega)); (try have hq2y0 : w.heap.size + 1 + 1 + 1 + 1 + 1 < w2.heap.size := (by omega)); (try have hr2y0 : (w.heap.size + 1 + 1 + 1 + 1 + 1 = w2.heap.size) = False := eq_false (by omega)); (try have ht2y0 : (w2.heap.size = w.heap.size + 1 + 1 + 1 + 1 + 1) = False := eq_false (by omega)); (try have hk2y1 := fun o => hc2 (w1.heap.size) o (by omega)); (try have hj2y1 := fun o => hf2 (w1.heap.size) o (by omega)); (try have hq2y1 : w1.heap.size < w2.heap.size := (by omega)); (try have hr2y1 : (w1.heap.size = w2.heap.size) = False := eq_false (by omega)); (try have ht2y1 : (w2.heap.size = w1.heap.size) = False := eq_false (by omega)); clear hc2 hf2); (try go_wp2_with fail); refine tr hK (fun hHeld => ?_); clear hK K)
        refine tq 7 hHeld ?_
        refine tq 8 hHeld ?_
        refine tq 9 hHeld ?_
        (refine tc 10 fun K hK => ?_; go_simp; refine tr hK (fun hHeld => ?_); clear hK K)
        (refine tc 11 fun K hK => ?_; go_simp; refine tr hK (fun hHeld => ?_); clear hK K)
        refine tq 12 hHeld ?_
        refine wpAnyH_done (by kernel_rfl) ?_ _
        go_wp2_with (go_at_call 62; refine (l5Turn_q _ _ _ _ (by omega) (by omega)).mono ?_; rintro e w5 ⟨rfl, hb5⟩; obtain ⟨hc5, hf5⟩ := bcell hb5; have hz5 := hb5.size; (try simp only [World.size_drew, World.size_alloc, World.size_setCell] at hc5 hf5 hz5); obtain ⟨hk5x0, hj5x0, hq5x0⟩ := kfa hb5 (w.heap.size); obtain ⟨hk5x1, hj5x1, hq5x1⟩ := kfa hb5 (w.heap.size + 1); obtain ⟨hk5x2, hj5x2, hq5x2⟩ := kfa hb5 (w.heap.size + 1 + 1); obtain ⟨hk5x3, hj5x3, hq5x3⟩ := kfa hb5 (w.heap.size + 1 + 1 + 1); obtain ⟨hk5x4, hj5x4, hq5x4⟩ := kfa hb5 (w.heap.size + 1 + 1 + 1 + 1); clear hc5 hf5)
        exact bodyPost_ret (v := .tuple #[s3 (-P) (-Q) E, .bool true]) (by simp [results, Tryz.results38, go_sem, *]) rfl ⟨rfl, bel_a⟩
      · (go_simp; refine tr hK (fun hHeld => ?_); clear hK K)
        (refine tc 6 fun K hK => ?_; go_simp; (go_at_call 61; refine (l5Mixed_q _ _ _ _ _ _ _ P Q E true _ (by omega) (by omega) (by omega) (by omega) (by omega) (by omega) (by omega) eM).mono ?_; rintro e w2 ⟨rfl, hb2⟩; obtain ⟨hc2, hf2⟩ := bcell hb2; have hz2 := hb2.size; (try simp only [World.size_drew, World.size_alloc, World.size_setCell] at hc2 hf2 hz2); obtain ⟨hk2x0, hj2x0, hq2x0⟩ := kfa hb2 (w.heap.size); obtain ⟨hk2x1, hj2x1, hq2x1⟩ := kfa hb2 (w.heap.size + 1); obtain ⟨hk2x2, hj2x2, hq2x2⟩ := kfa hb2 (w.heap.size + 1 + 1); obtain ⟨hk2x3, hj2x3, hq2x3⟩ := kfa hb2 (w.heap.size + 1 + 1 + 1); obtain ⟨hk2x4, hj2x4, hq2x4⟩ := kfa hb2 (w.heap.size + 1 + 1 + 1 + 1); (try have hk2y0 := fun o => hc2 (w.heap.size + 1 + 1 + 1 + 1 + 1) o (by omega)); (try have hj2y0 := fun o => hf2 (w.heap.size + 1 + 1 + 1 + 1 + 1) o (by omega)); (try have hq2y0 : w.heap.size + 1 + 1 + 1 + 1 + 1 < w2.heap.size := (by omega)); (try have hr2y0 : (w.heap.size + 1 + 1 + 1 + 1 + 1 = w2.heap.size) = False := eq_false (by omega)); (try have ht2y0 : (w2.heap.size = w.heap.size + 1 + 1 + 1 + 1 + 1) = False := eq_false (by omega)); (try have hk2y1 := fun o => hc2 (w1.heap.size) o (by omega)); (try have hj2y1 := fun o => hf2 (w1.heap.size) o (by omega)); (try have hq2y1 : w1.heap.size < w2.heap.size := (by omega)); (try have hr2y1 : (w1.heap.size = w2.heap.size) = False := eq_false (by omega)); (try have ht2y1 : (w2.heap.size = w1.heap.size) = False := eq_false (by omega)); clear hc2 hf2); (try go_wp2_with fail); refine tr hK (fun hHeld => ?_); clear hK K)
        refine tq 7 hHeld ?_
        refine tq 8 hHeld ?_
        refine tq 9 hHeld ?_
        (refine tc 11 fun K hK => ?_; go_simp; refine tr hK (fun hHeld => ?_); clear hK K)
        refine tq 12 hHeld ?_
        refine wpAnyH_done (by kernel_rfl) ?_ _
        go_wp2_with (go_at_call 62; refine (l5Turn_q _ _ _ _ (by omega) (by omega)).mono ?_; rintro e w5 ⟨rfl, hb5⟩; obtain ⟨hc5, hf5⟩ := bcell hb5; have hz5 := hb5.size; (try simp only [World.size_drew, World.size_alloc, World.size_setCell] at hc5 hf5 hz5); obtain ⟨hk5x0, hj5x0, hq5x0⟩ := kfa hb5 (w.heap.size); obtain ⟨hk5x1, hj5x1, hq5x1⟩ := kfa hb5 (w.heap.size + 1); obtain ⟨hk5x2, hj5x2, hq5x2⟩ := kfa hb5 (w.heap.size + 1 + 1); obtain ⟨hk5x3, hj5x3, hq5x3⟩ := kfa hb5 (w.heap.size + 1 + 1 + 1); obtain ⟨hk5x4, hj5x4, hq5x4⟩ := kfa hb5 (w.heap.size + 1 + 1 + 1 + 1); clear hc5 hf5)
        exact bodyPost_ret (v := .tuple #[s3 (-P) (-Q) E, .bool true]) (by simp [results, Tryz.results38, go_sem, *]) rfl ⟨rfl, bel_a⟩
    · (go_simp; refine tr hK (fun hHeld => ?_); clear hK K)
      (refine tc 2 fun K hK => ?_; go_simp; (go_at_call 60; refine (l3Bounds_b _ _ _ _ _ (by omega) (by omega) (by omega) (by omega) (by omega) (by omega)).mono ?_; rintro e w1 ⟨rfl, hb1⟩; obtain ⟨hc1, hf1⟩ := bcell hb1; have hz1 := hb1.size; (try simp only [World.size_drew, World.size_alloc, World.size_setCell] at hc1 hf1 hz1); obtain ⟨hk1x0, hj1x0, hq1x0⟩ := kfa hb1 (w.heap.size); obtain ⟨hk1x1, hj1x1, hq1x1⟩ := kfa hb1 (w.heap.size + 1); obtain ⟨hk1x2, hj1x2, hq1x2⟩ := kfa hb1 (w.heap.size + 1 + 1); obtain ⟨hk1x3, hj1x3, hq1x3⟩ := kfa hb1 (w.heap.size + 1 + 1 + 1); obtain ⟨hk1x4, hj1x4, hq1x4⟩ := kfa hb1 (w.heap.size + 1 + 1 + 1 + 1); (try have hk1y0 := fun o => hc1 (w.heap.size + 1 + 1 + 1 + 1 + 1) o (by omega)); (try have hj1y0 := fun o => hf1 (w.heap.size + 1 + 1 + 1 + 1 + 1) o (by omega)); (try have hq1y0 : w.heap.size + 1 + 1 + 1 + 1 + 1 < w1.heap.size := (by omega)); (try have hr1y0 : (w.heap.size + 1 + 1 + 1 + 1 + 1 = w1.heap.size) = False := eq_false (by omega)); (try have ht1y0 : (w1.heap.size = w.heap.size + 1 + 1 + 1 + 1 + 1) = False := eq_false (by omega)); clear hc1 hf1); (try go_wp2_with fail); refine tr hK (fun hHeld => ?_); clear hK K)
      (refine tc 6 fun K hK => ?_; go_simp; (go_at_call 61; refine (l5Mixed_q _ _ _ _ _ _ _ P Q E true _ (by omega) (by omega) (by omega) (by omega) (by omega) (by omega) (by omega) eM).mono ?_; rintro e w2 ⟨rfl, hb2⟩; obtain ⟨hc2, hf2⟩ := bcell hb2; have hz2 := hb2.size; (try simp only [World.size_drew, World.size_alloc, World.size_setCell] at hc2 hf2 hz2); obtain ⟨hk2x0, hj2x0, hq2x0⟩ := kfa hb2 (w.heap.size); obtain ⟨hk2x1, hj2x1, hq2x1⟩ := kfa hb2 (w.heap.size + 1); obtain ⟨hk2x2, hj2x2, hq2x2⟩ := kfa hb2 (w.heap.size + 1 + 1); obtain ⟨hk2x3, hj2x3, hq2x3⟩ := kfa hb2 (w.heap.size + 1 + 1 + 1); obtain ⟨hk2x4, hj2x4, hq2x4⟩ := kfa hb2 (w.heap.size + 1 + 1 + 1 + 1); (try have hk2y0 := fun o => hc2 (w.heap.size + 1 + 1 + 1 + 1 + 1) o (by omega)); (try have hj2y0 := fun o => hf2 (w.heap.size + 1 + 1 + 1 + 1 + 1) o (by omega)); (try have hq2y0 : w.heap.size + 1 + 1 + 1 + 1 + 1 < w2.heap.size := (by omega)); (try have hr2y0 : (w.heap.size + 1 + 1 + 1 + 1 + 1 = w2.heap.size) = False := eq_false (by omega)); (try have ht2y0 : (w2.heap.size = w.heap.size + 1 + 1 + 1 + 1 + 1) = False := eq_false (by omega)); (try have hk2y1 := fun o => hc2 (w1.heap.size) o (by omega)); (try have hj2y1 := fun o => hf2 (w1.heap.size) o (by omega)); (try have hq2y1 : w1.heap.size < w2.heap.size := (by omega)); (try have hr2y1 : (w1.heap.size = w2.heap.size) = False := eq_false (by omega)); (try have ht2y1 : (w2.heap.size = w1.heap.size) = False := eq_false (by omega)); clear hc2 hf2); (try go_wp2_with fail); refine tr hK (fun hHeld => ?_); clear hK K)
      refine tq 7 hHeld ?_
      refine tq 8 hHeld ?_
      refine tq 9 hHeld ?_
      (refine tc 11 fun K hK => ?_; go_simp; refine tr hK (fun hHeld => ?_); clear hK K)
      refine tq 12 hHeld ?_
      refine wpAnyH_done (by kernel_rfl) ?_ _
      go_wp2_with (go_at_call 62; refine (l5Turn_q _ _ _ _ (by omega) (by omega)).mono ?_; rintro e w5 ⟨rfl, hb5⟩; obtain ⟨hc5, hf5⟩ := bcell hb5; have hz5 := hb5.size; (try simp only [World.size_drew, World.size_alloc, World.size_setCell] at hc5 hf5 hz5); obtain ⟨hk5x0, hj5x0, hq5x0⟩ := kfa hb5 (w.heap.size); obtain ⟨hk5x1, hj5x1, hq5x1⟩ := kfa hb5 (w.heap.size + 1); obtain ⟨hk5x2, hj5x2, hq5x2⟩ := kfa hb5 (w.heap.size + 1 + 1); obtain ⟨hk5x3, hj5x3, hq5x3⟩ := kfa hb5 (w.heap.size + 1 + 1 + 1); obtain ⟨hk5x4, hj5x4, hq5x4⟩ := kfa hb5 (w.heap.size + 1 + 1 + 1 + 1); clear hc5 hf5)
      exact bodyPost_ret (v := .tuple #[s3 (-P) (-Q) E, .bool true]) (by simp [results, Tryz.results38, go_sem, *]) rfl ⟨rfl, bel_a⟩
  | false =>
    rw [if_neg (by simp)] at e
    simp only [Prod.mk.injEq] at e
    obtain ⟨⟨eX, eY, eD⟩, eK⟩ := e
    subst eX
    subst eY
    subst eD
    subst eK
    go_enter Tryz.func38, Tryz.ntmps38
    go_upto_region 7 with fail
    refine wp_region_held_drew (S := fun w' => w'.cell? ⟨w.heap.size, 0, none⟩ = some (.int .i64 1) ∧ w'.cell? ⟨w.heap.size, 1, none⟩ = some (.int .i64 g1) ∧ w'.cell? ⟨w.heap.size, 2, none⟩ = some (.int .i64 0) ∧ w'.cell? ⟨w.heap.size + 1, 0, none⟩ = some (.int .i64 x) ∧ w'.cell? ⟨w.heap.size + 1, 1, none⟩ = some (.int .i64 y) ∧ w'.cell? ⟨w.heap.size + 1 + 1, 0, none⟩ = some (.int .i64 2) ∧ w'.cell? ⟨w.heap.size + 1 + 1, 1, none⟩ = some (.int .i64 g2) ∧ w'.cell? ⟨w.heap.size + 1 + 1, 2, none⟩ = some (.int .i64 h2) ∧ w'.cell? ⟨w.heap.size + 1 + 1 + 1, 0, none⟩ = some (.int .i64 u) ∧ w'.cell? ⟨w.heap.size + 1 + 1 + 1, 1, none⟩ = some (.int .i64 v)) (by kernel_rfl) ?_ (fun hHeld => ?_)
    · (try dsimp only)
      (first | (go_simp; done) | (go_keep; done))
    refine tq 0 hHeld ?_
    refine tq 1 hHeld ?_
    refine tq 3 hHeld ?_
    refine tq 4 hHeld ?_
    refine tq 5 hHeld ?_
    refine wpAnyH_ready (rs := [2, 10]) (by kernel_rfl) (by simp) ?_
    refine AllReadyH.cons rfl (fun K hK => ?_) (AllReadyH.cons rfl (fun K hK => ?_) AllReadyH.nil)
    · (go_simp; (go_at_call 60; refine (l3Bounds_b _ _ _ _ _ (by omega) (by omega) (by omega) (by omega) (by omega) (by omega)).mono ?_; rintro e w1 ⟨rfl, hb1⟩; obtain ⟨hc1, hf1⟩ := bcell hb1; have hz1 := hb1.size; (try simp only [World.size_drew, World.size_alloc, World.size_setCell] at hc1 hf1 hz1); obtain ⟨hk1x0, hj1x0, hq1x0⟩ := kfa hb1 (w.heap.size); obtain ⟨hk1x1, hj1x1, hq1x1⟩ := kfa hb1 (w.heap.size + 1); obtain ⟨hk1x2, hj1x2, hq1x2⟩ := kfa hb1 (w.heap.size + 1 + 1); obtain ⟨hk1x3, hj1x3, hq1x3⟩ := kfa hb1 (w.heap.size + 1 + 1 + 1); obtain ⟨hk1x4, hj1x4, hq1x4⟩ := kfa hb1 (w.heap.size + 1 + 1 + 1 + 1); (try have hk1y0 := fun o => hc1 (w.heap.size + 1 + 1 + 1 + 1 + 1) o (by omega)); (try have hj1y0 := fun o => hf1 (w.heap.size + 1 + 1 + 1 + 1 + 1) o (by omega)); (try have hq1y0 : w.heap.size + 1 + 1 + 1 + 1 + 1 < w1.heap.size := (by omega)); (try have hr1y0 : (w.heap.size + 1 + 1 + 1 + 1 + 1 = w1.heap.size) = False := eq_false (by omega)); (try have ht1y0 : (w1.heap.size = w.heap.size + 1 + 1 + 1 + 1 + 1) = False := eq_false (by omega)); clear hc1 hf1); (try go_wp2_with fail); refine tr hK (fun hHeld => ?_); clear hK K)
      refine wpAnyH_ready (rs := [6, 10]) (by kernel_rfl) (by simp) ?_
      refine AllReadyH.cons rfl (fun K hK => ?_) (AllReadyH.cons rfl (fun K hK => ?_) AllReadyH.nil)
      · (go_simp; (go_at_call 61; refine (l5Mixed_q _ _ _ _ _ _ _ P Q E false _ (by omega) (by omega) (by omega) (by omega) (by omega) (by omega) (by omega) eM).mono ?_; rintro e w2 ⟨rfl, hb2⟩; obtain ⟨hc2, hf2⟩ := bcell hb2; have hz2 := hb2.size; (try simp only [World.size_drew, World.size_alloc, World.size_setCell] at hc2 hf2 hz2); obtain ⟨hk2x0, hj2x0, hq2x0⟩ := kfa hb2 (w.heap.size); obtain ⟨hk2x1, hj2x1, hq2x1⟩ := kfa hb2 (w.heap.size + 1); obtain ⟨hk2x2, hj2x2, hq2x2⟩ := kfa hb2 (w.heap.size + 1 + 1); obtain ⟨hk2x3, hj2x3, hq2x3⟩ := kfa hb2 (w.heap.size + 1 + 1 + 1); obtain ⟨hk2x4, hj2x4, hq2x4⟩ := kfa hb2 (w.heap.size + 1 + 1 + 1 + 1); (try have hk2y0 := fun o => hc2 (w.heap.size + 1 + 1 + 1 + 1 + 1) o (by omega)); (try have hj2y0 := fun o => hf2 (w.heap.size + 1 + 1 + 1 + 1 + 1) o (by omega)); (try have hq2y0 : w.heap.size + 1 + 1 + 1 + 1 + 1 < w2.heap.size := (by omega)); (try have hr2y0 : (w.heap.size + 1 + 1 + 1 + 1 + 1 = w2.heap.size) = False := eq_false (by omega)); (try have ht2y0 : (w2.heap.size = w.heap.size + 1 + 1 + 1 + 1 + 1) = False := eq_false (by omega)); (try have hk2y1 := fun o => hc2 (w1.heap.size) o (by omega)); (try have hj2y1 := fun o => hf2 (w1.heap.size) o (by omega)); (try have hq2y1 : w1.heap.size < w2.heap.size := (by omega)); (try have hr2y1 : (w1.heap.size = w2.heap.size) = False := eq_false (by omega)); (try have ht2y1 : (w2.heap.size = w1.heap.size) = False := eq_false (by omega)); clear hc2 hf2); (try go_wp2_with fail); refine tr hK (fun hHeld => ?_); clear hK K)
        refine tq 7 hHeld ?_
        refine tq 8 hHeld ?_
        refine tq 9 hHeld ?_
        (refine tc 10 fun K hK => ?_; go_simp; refine tr hK (fun hHeld => ?_); clear hK K)
        (refine tc 11 fun K hK => ?_; go_simp; refine tr hK (fun hHeld => ?_); clear hK K)
        refine tq 12 hHeld ?_
        refine wpAnyH_done (by kernel_rfl) ?_ _
        go_wp2_with fail
        exact bodyPost_ret (v := .tuple #[s3 0 0 0, .bool false]) (by simp [results, Tryz.results38, go_sem, *]) rfl ⟨rfl, bel_a⟩
      · (go_simp; refine tr hK (fun hHeld => ?_); clear hK K)
        (refine tc 6 fun K hK => ?_; go_simp; (go_at_call 61; refine (l5Mixed_q _ _ _ _ _ _ _ P Q E false _ (by omega) (by omega) (by omega) (by omega) (by omega) (by omega) (by omega) eM).mono ?_; rintro e w2 ⟨rfl, hb2⟩; obtain ⟨hc2, hf2⟩ := bcell hb2; have hz2 := hb2.size; (try simp only [World.size_drew, World.size_alloc, World.size_setCell] at hc2 hf2 hz2); obtain ⟨hk2x0, hj2x0, hq2x0⟩ := kfa hb2 (w.heap.size); obtain ⟨hk2x1, hj2x1, hq2x1⟩ := kfa hb2 (w.heap.size + 1); obtain ⟨hk2x2, hj2x2, hq2x2⟩ := kfa hb2 (w.heap.size + 1 + 1); obtain ⟨hk2x3, hj2x3, hq2x3⟩ := kfa hb2 (w.heap.size + 1 + 1 + 1); obtain ⟨hk2x4, hj2x4, hq2x4⟩ := kfa hb2 (w.heap.size + 1 + 1 + 1 + 1); (try have hk2y0 := fun o => hc2 (w.heap.size + 1 + 1 + 1 + 1 + 1) o (by omega)); (try have hj2y0 := fun o => hf2 (w.heap.size + 1 + 1 + 1 + 1 + 1) o (by omega)); (try have hq2y0 : w.heap.size + 1 + 1 + 1 + 1 + 1 < w2.heap.size := (by omega)); (try have hr2y0 : (w.heap.size + 1 + 1 + 1 + 1 + 1 = w2.heap.size) = False := eq_false (by omega)); (try have ht2y0 : (w2.heap.size = w.heap.size + 1 + 1 + 1 + 1 + 1) = False := eq_false (by omega)); (try have hk2y1 := fun o => hc2 (w1.heap.size) o (by omega)); (try have hj2y1 := fun o => hf2 (w1.heap.size) o (by omega)); (try have hq2y1 : w1.heap.size < w2.heap.size := (by omega)); (try have hr2y1 : (w1.heap.size = w2.heap.size) = False := eq_false (by omega)); (try have ht2y1 : (w2.heap.size = w1.heap.size) = False := eq_false (by omega)); clear hc2 hf2); (try go_wp2_with fail); refine tr hK (fun hHeld => ?_); clear hK K)
        refine tq 7 hHeld ?_
        refine tq 8 hHeld ?_
        refine tq 9 hHeld ?_
        (refine tc 11 fun K hK => ?_; go_simp; refine tr hK (fun hHeld => ?_); clear hK K)
        refine tq 12 hHeld ?_
        refine wpAnyH_done (by kernel_rfl) ?_ _
        go_wp2_with fail
        exact bodyPost_ret (v := .tuple #[s3 0 0 0, .bool false]) (by simp [results, Tryz.results38, go_sem, *]) rfl ⟨rfl, bel_a⟩
    · (go_simp; refine tr hK (fun hHeld => ?_); clear hK K)
      (refine tc 2 fun K hK => ?_; go_simp; (go_at_call 60; refine (l3Bounds_b _ _ _ _ _ (by omega) (by omega) (by omega) (by omega) (by omega) (by omega)).mono ?_; rintro e w1 ⟨rfl, hb1⟩; obtain ⟨hc1, hf1⟩ := bcell hb1; have hz1 := hb1.size; (try simp only [World.size_drew, World.size_alloc, World.size_setCell] at hc1 hf1 hz1); obtain ⟨hk1x0, hj1x0, hq1x0⟩ := kfa hb1 (w.heap.size); obtain ⟨hk1x1, hj1x1, hq1x1⟩ := kfa hb1 (w.heap.size + 1); obtain ⟨hk1x2, hj1x2, hq1x2⟩ := kfa hb1 (w.heap.size + 1 + 1); obtain ⟨hk1x3, hj1x3, hq1x3⟩ := kfa hb1 (w.heap.size + 1 + 1 + 1); obtain ⟨hk1x4, hj1x4, hq1x4⟩ := kfa hb1 (w.heap.size + 1 + 1 + 1 + 1); (try have hk1y0 := fun o => hc1 (w.heap.size + 1 + 1 + 1 + 1 + 1) o (by omega)); (try have hj1y0 := fun o => hf1 (w.heap.size + 1 + 1 + 1 + 1 + 1) o (by omega)); (try have hq1y0 : w.heap.size + 1 + 1 + 1 + 1 + 1 < w1.heap.size := (by omega)); (try have hr1y0 : (w.heap.size + 1 + 1 + 1 + 1 + 1 = w1.heap.size) = False := eq_false (by omega)); (try have ht1y0 : (w1.heap.size = w.heap.size + 1 + 1 + 1 + 1 + 1) = False := eq_false (by omega)); clear hc1 hf1); (try go_wp2_with fail); refine tr hK (fun hHeld => ?_); clear hK K)
      (refine tc 6 fun K hK => ?_; go_simp; (go_at_call 61; refine (l5Mixed_q _ _ _ _ _ _ _ P Q E false _ (by omega) (by omega) (by omega) (by omega) (by omega) (by omega) (by omega) eM).mono ?_; rintro e w2 ⟨rfl, hb2⟩; obtain ⟨hc2, hf2⟩ := bcell hb2; have hz2 := hb2.size; (try simp only [World.size_drew, World.size_alloc, World.size_setCell] at hc2 hf2 hz2); obtain ⟨hk2x0, hj2x0, hq2x0⟩ := kfa hb2 (w.heap.size); obtain ⟨hk2x1, hj2x1, hq2x1⟩ := kfa hb2 (w.heap.size + 1); obtain ⟨hk2x2, hj2x2, hq2x2⟩ := kfa hb2 (w.heap.size + 1 + 1); obtain ⟨hk2x3, hj2x3, hq2x3⟩ := kfa hb2 (w.heap.size + 1 + 1 + 1); obtain ⟨hk2x4, hj2x4, hq2x4⟩ := kfa hb2 (w.heap.size + 1 + 1 + 1 + 1); (try have hk2y0 := fun o => hc2 (w.heap.size + 1 + 1 + 1 + 1 + 1) o (by omega)); (try have hj2y0 := fun o => hf2 (w.heap.size + 1 + 1 + 1 + 1 + 1) o (by omega)); (try have hq2y0 : w.heap.size + 1 + 1 + 1 + 1 + 1 < w2.heap.size := (by omega)); (try have hr2y0 : (w.heap.size + 1 + 1 + 1 + 1 + 1 = w2.heap.size) = False := eq_false (by omega)); (try have ht2y0 : (w2.heap.size = w.heap.size + 1 + 1 + 1 + 1 + 1) = False := eq_false (by omega)); (try have hk2y1 := fun o => hc2 (w1.heap.size) o (by omega)); (try have hj2y1 := fun o => hf2 (w1.heap.size) o (by omega)); (try have hq2y1 : w1.heap.size < w2.heap.size := (by omega)); (try have hr2y1 : (w1.heap.size = w2.heap.size) = False := eq_false (by omega)); (try have ht2y1 : (w2.heap.size = w1.heap.size) = False := eq_false (by omega)); clear hc2 hf2); (try go_wp2_with fail); refine tr hK (fun hHeld => ?_); clear hK K)
      refine tq 7 hHeld ?_
      refine tq 8 hHeld ?_
      refine tq 9 hHeld ?_
      (refine tc 11 fun K hK => ?_; go_simp; refine tr hK (fun hHeld => ?_); clear hK K)
      refine tq 12 hHeld ?_
      refine wpAnyH_done (by kernel_rfl) ?_ _
      go_wp2_with fail
      exact bodyPost_ret (v := .tuple #[s3 0 0 0, .bool false]) (by simp [results, Tryz.results38, go_sem, *]) rfl ⟨rfl, bel_a⟩
end Go.Proofs.YtlbpmmjckoaleaaGreat
