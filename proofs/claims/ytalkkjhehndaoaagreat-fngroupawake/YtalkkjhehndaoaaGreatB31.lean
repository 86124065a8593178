/- Texts of a proof. -/
import Derived.Test.YtalkkjhehndaoaaGreatB4
import Derived.Deep.QuietTactic
import Derived.BigQuiet
import Derived.Deep.RegionWith
import Derived.Deep.RegionHeld3
import Derived.Test.YtalkkjhehndaoaaGreatB16
import Derived.Test.YtalkkjhehndaoaaGreatB10
import Derived.Deep.DeepCutAuto
import Derived.Handy
set_option maxHeartbeats 16000000
set_option maxRecDepth 20000
namespace Go.Proofs.YtalkkjhehndaoaaGreat
open Go.RowKit
set_option linter.unusedVariables false
set_option linter.unusedSimpArgs false
def stp (G : Nat → Nat) : Option (Nat × Nat) → Nat → Nat
 | none => G
 | some (A, B) => fun j => if j = A ∨ j = B then min (G A) (G B) else G j
def rnd (E : Nat → Option (Nat × Nat)) (G : Nat → Nat) : Nat → Nat → Nat
 | 0 => G
 | k + 1 => stp (rnd E G k) (E k)
def rnds (E : Nat → Option (Nat × Nat)) (M : Nat) : Nat → Nat → Nat
 | 0 => fun j => j
 | r + 1 => rnd E (rnds E M r) M
def jn (L : Nat → Nat) : Option (Nat × Nat) → Nat → Nat
 | none => L
 | some (A, B) => fun j => if L j = max (L A) (L B) then min (L A) (L B) else L j
def lab (E : Nat → Option (Nat × Nat)) : Nat → Nat → Nat
 | 0 => fun j => j
 | k + 1 => jn (lab E k) (E k)
theorem lab_le (E : Nat → Option (Nat × Nat)) : ∀ k j, lab E k j ≤ j
 | 0, j => Nat.le_refl _
 | k + 1, j => by
  have ih := lab_le E k
  rw [lab]
  cases h : E k with
  | none => exact ih j
  | some p =>
   obtain ⟨A, B⟩ := p
   show (if lab E k j = max (lab E k A) (lab E k B) then min (lab E k A) (lab E k B) else lab E k j) ≤ j
   have := ih j
   split <;> omega
theorem lab_edge (E : Nat → Option (Nat × Nat)) : ∀ k i A B, i < k → E i = some (A, B) → lab E k A = lab E k B
 | 0, i, _, _, h, _ => absurd h (Nat.not_lt_zero _)
 | k + 1, i, A, B, h, e => by
  rw [lab]
  cases hk : E k with
  | none =>
   by_cases hi : i = k
   · subst hi; rw [hk] at e; cases e
   · exact lab_edge E k i A B (by omega) e
  | some p =>
   obtain ⟨C, D⟩ := p
   show (if lab E k A = max (lab E k C) (lab E k D) then min (lab E k C) (lab E k D) else lab E k A) = (if lab E k B = max (lab E k C) (lab E k D) then min (lab E k C) (lab E k D) else lab E k B)
   by_cases hi : i = k
   · subst hi
     rw [hk] at e
     simp only [Option.some.injEq, Prod.mk.injEq] at e
     obtain ⟨rfl, rfl⟩ := e
     split <;> split <;> omega
   · rw [lab_edge E k i A B (by omega) e]
theorem lab_set (E : Nat → Option (Nat × Nat)) (X : Nat → Prop) : ∀ k, (∀ i A B, i < k → E i = some (A, B) → (X A ↔ X B)) → ∀ j, (X (lab E k j) ↔ X j)
 | 0, _, j => Iff.rfl
 | k + 1, hX, j => by
  have ih := lab_set E X k (fun i A B h e => hX i A B (by omega) e)
  rw [lab]
  cases hk : E k with
  | none => exact ih j
  | some p =>
   obtain ⟨A, B⟩ := p
   show X (if lab E k j = max (lab E k A) (lab E k B) then min (lab E k A) (lab E k B) else lab E k j) ↔ X j
   have hAB := hX k A B (Nat.lt_succ_self _) hk
   have h1 := ih A
   have h2 := ih B
   have h3 := ih j
   by_cases e : lab E k j = max (lab E k A) (lab E k B)
   · rw [if_pos e]
     rcases Nat.le_total (lab E k A) (lab E k B) with q | q
     · rw [Nat.min_eq_left q]
       rw [Nat.max_eq_right q] at e
       rw [e] at h3
       exact h1.trans (hAB.trans (h2.symm.trans h3))
     · rw [Nat.min_eq_right q]
       rw [Nat.max_eq_left q] at e
       rw [e] at h3
       exact h2.trans (hAB.symm.trans (h1.symm.trans h3))
   · rw [if_neg e]; exact h3
theorem lab_idem (E : Nat → Option (Nat × Nat)) (k j : Nat) : lab E k (lab E k j) = lab E k j :=
 (lab_set E (fun x => lab E k x = lab E k j) k (fun i A B h e => by rw [lab_edge E k i A B h e]) j).2 rfl
theorem stp_le (G : Nat → Nat) (e : Option (Nat × Nat)) (j : Nat) : stp G e j ≤ G j := by
 cases e with
 | none => exact Nat.le_refl _
 | some p =>
  obtain ⟨A, B⟩ := p
  show (if j = A ∨ j = B then min (G A) (G B) else G j) ≤ G j
  by_cases h : j = A ∨ j = B
  · rw [if_pos h]
    rcases h with rfl | rfl
    · exact Nat.min_le_left _ _
    · exact Nat.min_le_right _ _
  · rw [if_neg h]; exact Nat.le_refl _
theorem rnd_le (E : Nat → Option (Nat × Nat)) (G : Nat → Nat) : ∀ k j, rnd E G k j ≤ G j
 | 0, _ => Nat.le_refl _
 | k + 1, j => Nat.le_trans (stp_le _ _ _) (rnd_le E G k j)
theorem rnd_mono (E : Nat → Option (Nat × Nat)) (G : Nat → Nat) (k : Nat) : ∀ m, k ≤ m → ∀ j, rnd E G m j ≤ rnd E G k j
 | 0, h, j => by
  obtain rfl : k = 0 := by omega
  exact Nat.le_refl _
 | m + 1, h, j => by
  by_cases e : k = m + 1
  · subst e; exact Nat.le_refl _
  · exact Nat.le_trans (stp_le _ _ _) (rnd_mono E G k m (by omega) j)
def Same (L G : Nat → Nat) : Prop := ∀ j, L (G j) = L j
theorem stp_same {L G : Nat → Nat} {e : Option (Nat × Nat)} (h : Same L G) (he : ∀ A B, e = some (A, B) → L A = L B) : Same L (stp G e) := by
 intro j
 cases e with
 | none => exact h j
 | some p =>
  obtain ⟨A, B⟩ := p
  have q := he A B rfl
  show L (if j = A ∨ j = B then min (G A) (G B) else G j) = L j
  by_cases hj : j = A ∨ j = B
  · rw [if_pos hj]
    have hm : L (min (G A) (G B)) = L A := by
     rcases Nat.le_total (G A) (G B) with z | z
     · rw [Nat.min_eq_left z]; exact h A
     · rw [Nat.min_eq_right z]; exact (h B).trans q.symm
    rw [hm]
    rcases hj with rfl | rfl
    · rfl
    · exact q
  · rw [if_neg hj]; exact h j
theorem rnd_same {E : Nat → Option (Nat × Nat)} {L G : Nat → Nat} {M : Nat} (hE : ∀ i A B, i < M → E i = some (A, B) → L A = L B) (h : Same L G) : ∀ k, k ≤ M → Same L (rnd E G k)
 | 0, _ => h
 | k + 1, hk => stp_same (rnd_same hE h k (by omega)) (fun A B e => hE k A B (by omega) e)
theorem rnds_same {E : Nat → Option (Nat × Nat)} {L : Nat → Nat} {M : Nat} (hE : ∀ i A B, i < M → E i = some (A, B) → L A = L B) : ∀ r, Same L (rnds E M r)
 | 0 => fun _ => rfl
 | r + 1 => rnd_same hE (rnds_same hE r) M (Nat.le_refl _)
theorem rnds_le (E : Nat → Option (Nat × Nat)) (M : Nat) : ∀ r j, rnds E M r j ≤ j
 | 0, _ => Nat.le_refl _
 | r + 1, j => Nat.le_trans (rnd_le E _ M j) (rnds_le E M r j)
def cntp (p : Nat → Bool) : Nat → Nat
 | 0 => 0
 | n + 1 => cntp p n + (if p n = true then 1 else 0)
theorem cntp_le (p : Nat → Bool) : ∀ n, cntp p n ≤ n
 | 0 => Nat.le_refl _
 | n + 1 => by have := cntp_le p n; rw [cntp]; split <;> omega
theorem cntp_mono {p q : Nat → Bool} : ∀ n, (∀ v, v < n → p v = true → q v = true) → cntp p n ≤ cntp q n
 | 0, _ => Nat.le_refl _
 | n + 1, h => by
  have a := cntp_mono (p := p) (q := q) n (fun v hv => h v (by omega))
  have b := h n (by omega)
  rw [cntp, cntp]
  by_cases e : p n = true
  · rw [if_pos e, if_pos (b e)]; omega
  · rw [if_neg e]; omega
theorem cntp_lt {p q : Nat → Bool} {y : Nat} : ∀ n, y < n → (∀ v, v < n → p v = true → q v = true) → p y = false → q y = true → cntp p n < cntp q n
 | 0, h, _, _, _ => absurd h (Nat.not_lt_zero _)
 | n + 1, h, hm, h1, h2 => by
  rw [cntp, cntp]
  by_cases e : y = n
  · subst e
    have a := cntp_mono (p := p) (q := q) y (fun v hv => hm v (by omega))
    rw [if_neg (by rw [h1]; simp), if_pos h2]; omega
  · have a := cntp_lt n (by omega) (fun v hv => hm v (by omega)) h1 h2
    have b := hm n (by omega)
    by_cases z : p n = true
    · rw [if_pos z, if_pos (b z)]; omega
    · rw [if_neg z]; omega
theorem rnds_lab (E : Nat → Option (Nat × Nat)) (M n : Nat) (hE : ∀ i A B, i < M → E i = some (A, B) → A < n ∧ B < n) : ∀ v, v < n → rnds E M n v = lab E M v := by
 have hedge := fun i A B (h : i < M) (e : E i = some (A, B)) => lab_edge E M i A B h e
 have hsame := rnds_same (E := E) (L := lab E M) (M := M) hedge
 have hge : ∀ r j, lab E M j ≤ rnds E M r j := fun r j => by
  have a := lab_le E M (rnds E M r j)
  rw [hsame r j] at a
  exact a
 have key : ∀ r, (∀ v, v < n → rnds E M r v = lab E M v) ∨ r < cntp (fun v => decide (rnds E M r v = lab E M v)) n := by
  intro r
  induction r with
  | zero =>
   by_cases h0 : n = 0
   · left; intro v hv; omega
   · right
     have z : lab E M 0 = 0 := by have := lab_le E M 0; omega
     have := cntp_lt (p := fun _ => false) (q := fun v => decide (rnds E M 0 v = lab E M v)) (y := 0) n (by omega) (fun _ _ h => by cases h) rfl (by show decide (0 = lab E M 0) = true; rw [z]; rfl)
     omega
  | succ r ih =>
   have mono : ∀ v, rnds E M r v = lab E M v → rnds E M (r + 1) v = lab E M v := fun v e => by
    have a := rnd_le E (rnds E M r) M v
    have b := hge (r + 1) v
    have c : rnds E M (r + 1) v = rnd E (rnds E M r) M v := rfl
    omega
   rcases ih with ih | ih
   · left; intro v hv; exact mono v (ih v hv)
   · by_cases all : ∀ v, v < n → rnds E M (r + 1) v = lab E M v
     · left; exact all
     · right
       -- an edge that parts what is there from what is not
       have cross : ∃ y, y < n ∧ rnds E M r y ≠ lab E M y ∧ rnds E M (r + 1) y = lab E M y := by
        refine Classical.byContradiction fun hno => all fun v hv => mono v ?_
        have closed : ∀ i A B, i < M → E i = some (A, B) → (rnds E M r A = lab E M A ↔ rnds E M r B = lab E M B) := by
         intro i A B hi e
         have hb := hE i A B hi e
         have hl := hedge i A B hi e
         have st : rnd E (rnds E M r) (i + 1) A = min (rnd E (rnds E M r) i A) (rnd E (rnds E M r) i B) ∧ rnd E (rnds E M r) (i + 1) B = min (rnd E (rnds E M r) i A) (rnd E (rnds E M r) i B) := by
          constructor
          · show stp _ (E i) A = _; rw [e]; show (if A = A ∨ A = B then _ else _) = _; rw [if_pos (.inl rfl)]
          · show stp _ (E i) B = _; rw [e]; show (if B = A ∨ B = B then _ else _) = _; rw [if_pos (.inr rfl)]
         have mA := rnd_mono E (rnds E M r) (i + 1) M (by omega) A
         have mB := rnd_mono E (rnds E M r) (i + 1) M (by omega) B
         have lA := rnd_le E (rnds E M r) i A
         have lB := rnd_le E (rnds E M r) i B
         have gA := hge (r + 1) A
         have gB := hge (r + 1) B
         have cA : rnds E M (r + 1) A = rnd E (rnds E M r) M A := rfl
         have cB : rnds E M (r + 1) B = rnd E (rnds E M r) M B := rfl
         rw [cA] at gA
         rw [cB] at gB
         have eA := st.1
         have eB := st.2
         constructor
         · intro h
           refine Classical.byContradiction fun hn => hno ⟨B, hb.2, hn, ?_⟩
           rw [cB]
           have := Nat.min_le_left (rnd E (rnds E M r) i A) (rnd E (rnds E M r) i B)
           omega
         · intro h
           refine Classical.byContradiction fun hn => hno ⟨A, hb.1, hn, ?_⟩
           rw [cA]
           have := Nat.min_le_right (rnd E (rnds E M r) i A) (rnd E (rnds E M r) i B)
           omega
        refine (lab_set E (fun x => rnds E M r x = lab E M x) M closed v).1 ?_
        have a := rnds_le E M r (lab E M v)
        have b := hge r (lab E M v)
        rw [lab_idem] at b ⊢
        omega
       obtain ⟨y, hy, h1, h2⟩ := cross
       have := cntp_lt (p := fun v => decide (rnds E M r v = lab E M v)) (q := fun v => decide (rnds E M (r + 1) v = lab E M v)) (y := y) n hy (fun v _ h => decide_eq_true (mono v (of_decide_eq_true h))) (decide_eq_false h1) (decide_eq_true h2)
       omega
 rcases key n with h | h
 · exact h
 · have := cntp_le (fun v => decide (rnds E M n v = lab E M v)) n
   omega
theorem spanAround_any (x y u v : Int) (w : World) (hx : -4000000000 ≤ x ∧ x ≤ 4000000000) (hy : -4000000000 ≤ y ∧ y ≤ 4000000000) (hu : -4000000000 ≤ u ∧ u ≤ 4000000000) (hv : -4000000000 ≤ v ∧ v ≤ 4000000000) :
 Calls Tryz.prog 135 #[vv x y, vv u v] w fun e w' => e = .returned (b4 (x - u) (y - v) (x + u) (y + v)) ∧ Below w.heap.size w w' := by
 have hset := cset_map
 go_enter Tryz.func135, Tryz.ntmps135
 go_wp2
 go_region_held3 (fun w' => w'.cell? ⟨w.heap.size, 0, none⟩ = some (.int .i64 x) ∧ w'.cell? ⟨w.heap.size, 1, none⟩ = some (.int .i64 y) ∧ w'.cell? ⟨w.heap.size + 1, 0, none⟩ = some (.int .i64 u) ∧ w'.cell? ⟨w.heap.size + 1, 1, none⟩ = some (.int .i64 v)) (first | (go_simp; done) | (go_keep; done)) (first
  | (go_at_call 141; refine (plus_any _ _ _ _ _ (by omega) (by omega) (by omega) (by omega)).mono ?_; rintro e w1 ⟨rfl, hb1⟩; obtain ⟨hc1, hf1⟩ := bcell hb1; have hl1 := blt hb1; have hz1 := hb1.size; (try simp only [World.size_drew, World.size_alloc, World.size_setCell] at hc1 hf1 hl1 hz1); (try have hq1x0 : w.heap.size < w1.heap.size := (by omega)); (try have hq1x1 : w.heap.size + 1 < w1.heap.size := (by omega)); (try have hq1x2 : w.heap.size + 1 + 1 < w1.heap.size := (by omega)))
  | (go_at_call 119; refine (less_any _ _ _ _ _ (by omega) (by omega) (by omega) (by omega)).mono ?_; rintro e w1 ⟨rfl, hb1⟩; obtain ⟨hc1, hf1⟩ := bcell hb1; have hl1 := blt hb1; have hz1 := hb1.size; (try simp only [World.size_drew, World.size_alloc, World.size_setCell] at hc1 hf1 hl1 hz1); (try have hq1x0 : w.heap.size < w1.heap.size := (by omega)); (try have hq1x1 : w.heap.size + 1 < w1.heap.size := (by omega)); (try have hq1x2 : w.heap.size + 1 + 1 < w1.heap.size := (by omega))))
 all_goals
  go_wp2
  exact bodyPost_ret (v := b4 (x - u) (y - v) (x + u) (y + v)) (by simp [results, Tryz.results135, go_sem, *]) rfl ⟨rfl, bel_a⟩
theorem unit_z (x y X Y : Int) (w : World) (hx : -1000000000 ≤ x ∧ x ≤ 1000000000) (hy : -1000000000 ≤ y ∧ y ≤ 1000000000) (e1 : ux x y = X) (e2 : uy x y = Y) :
 Calls Tryz.prog 132 #[vv x y] w fun e w' => e = .returned (vv X Y) ∧ Below w.heap.size w w' := by
 subst e1; subst e2; exact unit_any x y w hx hy
theorem length_z (x y L : Int) (w : World) (hx : -1000000000 ≤ x ∧ x ≤ 1000000000) (hy : -1000000000 ≤ y ∧ y ≤ 1000000000) (e : vl x y = L) :
 Calls Tryz.prog 133 #[vv x y] w fun e w' => e = .returned (.int .i64 L) ∧ Below w.heap.size w w' := by
 subst e; exact length_any x y w hx hy
theorem roundDent_q (dx dy g X Y D : Int) (K : Bool) (w : World) (qx : -6000000 ≤ dx ∧ dx ≤ 6000000) (qy : -6000000 ≤ dy ∧ dy ≤ 6000000) (g0 : 0 ≤ g ∧ g ≤ 100000) (e : rdT dx dy g = ((X, Y, D), K)) :
 Calls Tryz.prog 118 #[vv dx dy, .int .i64 g] w fun e w' => e = .returned (.tuple #[s3 X Y D, .bool K]) ∧ Below w.heap.size w w' := by
 have hset := cset_map
 have m3 := mul_bd (a := g) (b := g) (A := 100000) (B := 100000) (by omega) (by omega)
 have w3 := i64w (n := g * g) (by omega)
 unfold rdT at e
 cases dd : decide (g * g < dx * dx + dy * dy) with
 | true =>
  have hn := of_decide_eq_true dd
  rw [if_neg (by omega)] at e
  simp only [Prod.mk.injEq] at e
  obtain ⟨⟨eX, eY, eD⟩, eK⟩ := e
  subst eX
  subst eY
  subst eD
  subst eK
  clear hn m3
  go_enter Tryz.func118, Tryz.ntmps118
  go_wp2_with (go_at_call 131; refine (products_any _ _ _ _ _ (by omega) (by omega) (by omega) (by omega)).mono ?_; rintro e w1 ⟨rfl, hb1⟩; obtain ⟨hc1, hf1⟩ := bcell hb1; have hz1 := hb1.size; (try simp only [World.size_drew, World.size_alloc, World.size_setCell] at hc1 hf1 hz1); have hk1x0 := fun o => hc1 (w.heap.size) o (by omega); have hj1x0 := fun o => hf1 (w.heap.size) o (by omega); have hq1x0 : w.heap.size < w1.heap.size := (by omega); have hk1x1 := fun o => hc1 (w.heap.size + 1) o (by omega); have hj1x1 := fun o => hf1 (w.heap.size + 1) o (by omega); have hq1x1 : w.heap.size + 1 < w1.heap.size := (by omega); clear hc1 hf1)
  exact bodyPost_ret (v := .tuple #[s3 0 0 0, .bool false]) (by simp [results, Tryz.results118, go_sem, *]) rfl ⟨rfl, bel_a⟩
 | false =>
  have hn := of_decide_eq_false dd
  rw [if_pos (by omega)] at e
  obtain ⟨L, eL⟩ : ∃ z, vl dx dy = z := ⟨_, rfl⟩
  have lb := vl_bd dx dy
  rw [eL] at lb e
  simp only [Prod.mk.injEq] at e
  obtain ⟨⟨eX, eY, eD⟩, eK⟩ := e
  subst eD
  subst eK
  have w4 := i64w (n := g - L) (by omega)
  clear hn m3
  go_enter Tryz.func118, Tryz.ntmps118
  go_upto_region 3 with (go_at_call 131; refine (products_any _ _ _ _ _ (by omega) (by omega) (by omega) (by omega)).mono ?_; rintro e w1 ⟨rfl, hb1⟩; obtain ⟨hc1, hf1⟩ := bcell hb1; have hz1 := hb1.size; (try simp only [World.size_drew, World.size_alloc, World.size_setCell] at hc1 hf1 hz1); have hk1x0 := fun o => hc1 (w.heap.size) o (by omega); have hj1x0 := fun o => hf1 (w.heap.size) o (by omega); have hq1x0 : w.heap.size < w1.heap.size := (by omega); have hk1x1 := fun o => hc1 (w.heap.size + 1) o (by omega); have hj1x1 := fun o => hf1 (w.heap.size + 1) o (by omega); have hq1x1 : w.heap.size + 1 < w1.heap.size := (by omega); clear hc1 hf1)
  refine wp_region_held_drew (S := fun w' => w'.cell? ⟨w.heap.size, 0, none⟩ = some (.int .i64 dx) ∧ w'.cell? ⟨w.heap.size, 1, none⟩ = some (.int .i64 dy)) (by kernel_rfl) ?_ (fun hHeld => ?_)
  · (try dsimp only)
    (first | (go_simp; done) | (go_keep; done))
  refine tq 0 hHeld ?_
  refine tq 2 hHeld ?_
  refine tq 3 hHeld ?_
  (refine tc 1 fun K hK => ?_; go_simp; (go_at_call 132; refine (unit_z _ _ _ _ _ (by omega) (by omega) eX eY).mono ?_; rintro e w2 ⟨rfl, hb2⟩; obtain ⟨hc2, hf2⟩ := bcell hb2; have hz2 := hb2.size; (try simp only [World.size_drew, World.size_alloc, World.size_setCell] at hc2 hf2 hz2); have hk2x0 := fun o => hc2 (w.heap.size) o (by omega); have hj2x0 := fun o => hf2 (w.heap.size) o (by omega); have hq2x0 : w.heap.size < w2.heap.size := (by omega); have hk2x1 := fun o => hc2 (w.heap.size + 1) o (by omega); have hj2x1 := fun o => hf2 (w.heap.size + 1) o (by omega); have hq2x1 : w.heap.size + 1 < w2.heap.size := (by omega); clear hc2 hf2); (try go_wp2_with fail); refine tr hK (fun hHeld => ?_); clear hK K)
  (refine tc 4 fun K hK => ?_; go_simp; (go_at_call 133; refine (length_z _ _ _ _ (by omega) (by omega) eL).mono ?_; rintro e w3 ⟨rfl, hb3⟩; obtain ⟨hc3, hf3⟩ := bcell hb3; have hz3 := hb3.size; (try simp only [World.size_drew, World.size_alloc, World.size_setCell] at hc3 hf3 hz3); have hk3x0 := fun o => hc3 (w.heap.size) o (by omega); have hj3x0 := fun o => hf3 (w.heap.size) o (by omega); have hq3x0 : w.heap.size < w3.heap.size := (by omega); have hk3x1 := fun o => hc3 (w.heap.size + 1) o (by omega); have hj3x1 := fun o => hf3 (w.heap.size + 1) o (by omega); have hq3x1 : w.heap.size + 1 < w3.heap.size := (by omega); clear hc3 hf3); (try go_wp2_with fail); refine tr hK (fun hHeld => ?_); clear hK K)
  refine tq 5 hHeld ?_
  refine tq 6 hHeld ?_
  (refine tc 7 fun K hK => ?_; go_simp; refine tr hK (fun hHeld => ?_); clear hK K)
  refine tq 8 hHeld ?_
  refine wpAnyH_done (by kernel_rfl) ?_ _
  go_wp2_with fail
  exact bodyPost_ret (v := .tuple #[s3 X Y (g - L), .bool true]) (by simp [results, Tryz.results118, go_sem, *]) rfl ⟨rfl, bel_a⟩
theorem placedBounds_q (x y g h : Int) (w : World) (qx : -3000000 ≤ x ∧ x ≤ 3000000) (qy : -3000000 ≤ y ∧ y ≤ 3000000) (qg : -3000000 ≤ g ∧ g ≤ 3000000) (qh : -3000000 ≤ h ∧ h ≤ 3000000) :
 Calls Tryz.prog 122 #[b4 x y g h] w fun e w' => e = .returned (b4 (x - g) (y - h) (x + g) (y + h)) ∧ Below w.heap.size w w' := by
 have hset := cset_map
 go_enter Tryz.func122, Tryz.ntmps122
 go_wp2_with (go_at_call 135; refine (spanAround_any _ _ _ _ _ (by omega) (by omega) (by omega) (by omega)).mono ?_; rintro e w1 ⟨rfl, hb1⟩; obtain ⟨hc1, hf1⟩ := bcell hb1; have hz1 := hb1.size; (try simp only [World.size_drew, World.size_alloc, World.size_setCell] at hc1 hf1 hz1); have hk1x0 := fun o => hc1 (w.heap.size) o (by omega); have hj1x0 := fun o => hf1 (w.heap.size) o (by omega); have hq1x0 : w.heap.size < w1.heap.size := (by omega); have hk1x1 := fun o => hc1 (w.heap.size + 1) o (by omega); have hj1x1 := fun o => hf1 (w.heap.size + 1) o (by omega); have hq1x1 : w.heap.size + 1 < w1.heap.size := (by omega); clear hc1 hf1)
 exact bodyPost_ret (v := b4 (x - g) (y - h) (x + g) (y + h)) (by simp [results, Tryz.results122, go_sem, *]) rfl ⟨rfl, bel_a⟩
theorem placedWide_q (x y g h : Int) (w : World) :
 Calls Tryz.prog 120 #[b4 x y g h] w fun e w' => e = .returned (.int .i64 g) ∧ Below w.heap.size w w' := by
 have hset := cset_map
 go_enter Tryz.func120, Tryz.ntmps120
 go_wp2_with fail
 go_ret
 exact ⟨rfl, bel_a⟩
theorem dentHit_q (X Y D : Int) (w : World) :
 Calls Tryz.prog 98 #[s3 X Y D] w fun e w' => e = .returned (s3 X Y D) ∧ Below w.heap.size w w' := by
 have hset := cset_map
 go_enter Tryz.func98, Tryz.ntmps98
 go_upto_region 1 with fail
 refine wp_region_held_drew (S := fun w' => w'.cell? ⟨w.heap.size, 0, none⟩ = some (.int .i64 X) ∧ w'.cell? ⟨w.heap.size, 1, none⟩ = some (.int .i64 Y) ∧ w'.cell? ⟨w.heap.size, 2, none⟩ = some (.int .i64 D)) (by kernel_rfl) ?_ (fun hHeld => ?_)
 · (try dsimp only)
   (first | (go_simp; done) | (go_keep; done))
 refine tq 0 hHeld ?_
 refine tq 1 hHeld ?_
 refine tq 3 hHeld ?_
 refine tq 4 hHeld ?_
 (refine tc 2 fun K hK => ?_; go_simp; (go_at_call 73; refine (vec_any _ _ _).mono ?_; rintro e w1 ⟨rfl, hb1⟩; obtain ⟨hc1, hf1⟩ := bcell hb1; have hz1 := hb1.size; (try simp only [World.size_drew, World.size_alloc, World.size_setCell] at hc1 hf1 hz1); have hk1x0 := fun o => hc1 (w.heap.size) o (by omega); have hj1x0 := fun o => hf1 (w.heap.size) o (by omega); have hq1x0 : w.heap.size < w1.heap.size := (by omega); have hk1x1 := fun o => hc1 (w.heap.size + 1) o (by omega); have hj1x1 := fun o => hf1 (w.heap.size + 1) o (by omega); have hq1x1 : w.heap.size + 1 < w1.heap.size := (by omega); clear hc1 hf1); (try go_wp2_with fail); refine tr hK (fun hHeld => ?_); clear hK K)
 refine tq 5 hHeld ?_
 (refine tc 6 fun K hK => ?_; go_simp; refine tr hK (fun hHeld => ?_); clear hK K)
 refine wpAnyH_done (by kernel_rfl) ?_ _
 go_wp2_with fail
 exact bodyPost_ret (v := s3 X Y D) (by simp [results, Tryz.results98, go_sem, *]) rfl ⟨rfl, bel_a⟩
theorem opp_z (x y : Int) (w : World) (hx : -2000000000 ≤ x ∧ x ≤ 2000000000) (hy : -2000000000 ≤ y ∧ y ≤ 2000000000) :
 Calls Tryz.prog 134 #[vv x y] w fun e w' => e = .returned (vv (-x) (-y)) ∧ Below w.heap.size w w' := by
 have hset := cset_map
 have w1 := i64w (n := -x) (by omega)
 have w2 := i64w (n := -y) (by omega)
 go_enter Tryz.func134, Tryz.ntmps134
 go_wp2_with fail
 exact bodyPost_ret (v := vv (-x) (-y)) (by simp [results, Tryz.results134, go_sem, *]) rfl ⟨rfl, bel_a⟩
theorem dentTurned_q (X Y D : Int) (w : World) (hx : -2000000000 ≤ X ∧ X ≤ 2000000000) (hy : -2000000000 ≤ Y ∧ Y ≤ 2000000000) :
 Calls Tryz.prog 121 #[s3 X Y D] w fun e w' => e = .returned (s3 (-X) (-Y) D) ∧ Below w.heap.size w w' := by
 have hset := cset_map
 go_enter Tryz.func121, Tryz.ntmps121
 go_upto_region 1 with fail
 refine wp_region_held_drew (S := fun w' => w'.cell? ⟨w.heap.size, 0, none⟩ = some (.int .i64 X) ∧ w'.cell? ⟨w.heap.size, 1, none⟩ = some (.int .i64 Y) ∧ w'.cell? ⟨w.heap.size, 2, none⟩ = some (.int .i64 D)) (by kernel_rfl) ?_ (fun hHeld => ?_)
 · (try dsimp only)
   (first | (go_simp; done) | (go_keep; done))
 refine tq 0 hHeld ?_
 refine tq 1 hHeld ?_
 refine tq 3 hHeld ?_
 refine tq 4 hHeld ?_
 (refine tc 2 fun K hK => ?_; go_simp; (go_at_call 134; refine (opp_z _ _ _ (by omega) (by omega)).mono ?_; rintro e w1 ⟨rfl, hb1⟩; obtain ⟨hc1, hf1⟩ := bcell hb1; have hz1 := hb1.size; (try simp only [World.size_drew, World.size_alloc, World.size_setCell] at hc1 hf1 hz1); have hk1x0 := fun o => hc1 (w.heap.size) o (by omega); have hj1x0 := fun o => hf1 (w.heap.size) o (by omega); have hq1x0 : w.heap.size < w1.heap.size := (by omega); have hk1x1 := fun o => hc1 (w.heap.size + 1) o (by omega); have hj1x1 := fun o => hf1 (w.heap.size + 1) o (by omega); have hq1x1 : w.heap.size + 1 < w1.heap.size := (by omega); clear hc1 hf1); (try go_wp2_with fail); refine tr hK (fun hHeld => ?_); clear hK K)
 refine tq 5 hHeld ?_
 (refine tc 6 fun K hK => ?_; go_simp; refine tr hK (fun hHeld => ?_); clear hK K)
 refine wpAnyH_done (by kernel_rfl) ?_ _
 go_wp2_with fail
 exact bodyPost_ret (v := s3 (-X) (-Y) D) (by simp [results, Tryz.results121, go_sem, *]) rfl ⟨rfl, bel_a⟩
theorem ix4_0 (v0 v1 v2 v3 v4 v5 v6 v7 v8 v9 v10 v11 : Int) (w : World) : Sem.run Tryz.prog (Instr.index 169 (.agg #[.int .i64 v0, .int .i64 v1, .int .i64 v2, .int .i64 v3, .int .i64 v4, .int .i64 v5, .int .i64 v6, .int .i64 v7, .int .i64 v8, .int .i64 v9, .int .i64 v10, .int .i64 v11]) (.int .i64 0)) w = Result.ok (s3 v0 v1 v2) w := by
 unfold Instr.index asIntOf
 go_simp
theorem ix4_1 (v0 v1 v2 v3 v4 v5 v6 v7 v8 v9 v10 v11 : Int) (w : World) : Sem.run Tryz.prog (Instr.index 169 (.agg #[.int .i64 v0, .int .i64 v1, .int .i64 v2, .int .i64 v3, .int .i64 v4, .int .i64 v5, .int .i64 v6, .int .i64 v7, .int .i64 v8, .int .i64 v9, .int .i64 v10, .int .i64 v11]) (.int .i64 1)) w = Result.ok (s3 v3 v4 v5) w := by
 unfold Instr.index asIntOf
 go_simp
theorem ix4_2 (v0 v1 v2 v3 v4 v5 v6 v7 v8 v9 v10 v11 : Int) (w : World) : Sem.run Tryz.prog (Instr.index 169 (.agg #[.int .i64 v0, .int .i64 v1, .int .i64 v2, .int .i64 v3, .int .i64 v4, .int .i64 v5, .int .i64 v6, .int .i64 v7, .int .i64 v8, .int .i64 v9, .int .i64 v10, .int .i64 v11]) (.int .i64 2)) w = Result.ok (s3 v6 v7 v8) w := by
 unfold Instr.index asIntOf
 go_simp
theorem ix4_3 (v0 v1 v2 v3 v4 v5 v6 v7 v8 v9 v10 v11 : Int) (w : World) : Sem.run Tryz.prog (Instr.index 169 (.agg #[.int .i64 v0, .int .i64 v1, .int .i64 v2, .int .i64 v3, .int .i64 v4, .int .i64 v5, .int .i64 v6, .int .i64 v7, .int .i64 v8, .int .i64 v9, .int .i64 v10, .int .i64 v11]) (.int .i64 3)) w = Result.ok (s3 v9 v10 v11) w := by
 unfold Instr.index asIntOf
 go_simp
theorem spanDent_q (a b c d r s t u X Y D : Int) (w : World) (qa : -3000000 ≤ a ∧ a ≤ 3000000) (qb : -3000000 ≤ b ∧ b ≤ 3000000) (qc : -3000000 ≤ c ∧ c ≤ 3000000) (qd : -3000000 ≤ d ∧ d ≤ 3000000) (qr : -3000000 ≤ r ∧ r ≤ 3000000) (qs : -3000000 ≤ s ∧ s ≤ 3000000) (qt : -3000000 ≤ t ∧ t ≤ 3000000) (qu : -3000000 ≤ u ∧ u ≤ 3000000) (e : bsT (c - r) (t - a) (d - s) (u - b) = (X, Y, D)) :
 Calls Tryz.prog 124 #[b4 a b c d, b4 r s t u] w fun e w' => e = .returned (s3 X Y D) ∧ Below w.heap.size w w' := by
 have hset := cset_map
 have hi0 := ix4_0
 have hi1 := ix4_1
 have hi2 := ix4_2
 have hi3 := ix4_3
 obtain ⟨s0, es0⟩ : ∃ z, c - r = z := ⟨_, rfl⟩
 have ws0 := i64w (n := c - r) (by omega)
 rw [es0] at e ws0
 obtain ⟨s1, es1⟩ : ∃ z, t - a = z := ⟨_, rfl⟩
 have ws1 := i64w (n := t - a) (by omega)
 rw [es1] at e ws1
 obtain ⟨s2, es2⟩ : ∃ z, d - s = z := ⟨_, rfl⟩
 have ws2 := i64w (n := d - s) (by omega)
 rw [es2] at e ws2
 obtain ⟨s3', es3'⟩ : ∃ z, u - b = z := ⟨_, rfl⟩
 have ws3' := i64w (n := u - b) (by omega)
 rw [es3'] at e ws3'
 unfold bsT at e
 cases d1 : decide (s1 < s0) with
 | true =>
  simp only [if_pos (of_decide_eq_true d1)] at e
  cases d2 : decide (s2 < s1) with
  | true =>
   simp only [if_pos (of_decide_eq_true d2)] at e
   cases d3 : decide (s3' < s2) with
   | true =>
    simp only [if_pos (of_decide_eq_true d3)] at e
    simp only [Prod.mk.injEq] at e
    obtain ⟨eX, eY, eD⟩ := e
    subst eX
    subst eY
    subst eD
    go_enter Tryz.func124, Tryz.ntmps124
    go_wp2_with fail
    refine wp_loop_rounds 5 ?_
    rw [rounds_succ]
    go_wp2_with fail
    rw [rounds_succ]
    go_wp2_with fail
    rw [rounds_succ]
    go_wp2_with fail
    rw [rounds_succ]
    go_wp2_with fail
    rw [rounds_succ]
    go_wp2_with fail
    exact bodyPost_ret (v := s3 0 (-256) s3') (by simp [results, Tryz.results124, go_sem, *]) rfl ⟨rfl, bel_a⟩
   | false =>
    simp only [if_neg (of_decide_eq_false d3)] at e
    simp only [Prod.mk.injEq] at e
    obtain ⟨eX, eY, eD⟩ := e
    subst eX
    subst eY
    subst eD
    go_enter Tryz.func124, Tryz.ntmps124
    go_wp2_with fail
    refine wp_loop_rounds 5 ?_
    rw [rounds_succ]
    go_wp2_with fail
    rw [rounds_succ]
    go_wp2_with fail
    rw [rounds_succ]
    go_wp2_with fail
    rw [rounds_succ]
    go_wp2_with fail
    rw [rounds_succ]
    go_wp2_with fail
    exact bodyPost_ret (v := s3 0 256 s2) (by simp [results, Tryz.results124, go_sem, *]) rfl ⟨rfl, bel_a⟩
  | false =>
   simp only [if_neg (of_decide_eq_false d2)] at e
   cases d3 : decide (s3' < s1) with
   | true =>
    simp only [if_pos (of_decide_eq_true d3)] at e
    simp only [Prod.mk.injEq] at e
    obtain ⟨eX, eY, eD⟩ := e
    subst eX
    subst eY
    subst eD
    go_enter Tryz.func124, Tryz.ntmps124
    go_wp2_with fail
    refine wp_loop_rounds 5 ?_
    rw [rounds_succ]
    go_wp2_with fail
    rw [rounds_succ]
    go_wp2_with fail
    rw [rounds_succ]
    go_wp2_with fail
    rw [rounds_succ]
    go_wp2_with fail
    rw [rounds_succ]
    go_wp2_with fail
    exact bodyPost_ret (v := s3 0 (-256) s3') (by simp [results, Tryz.results124, go_sem, *]) rfl ⟨rfl, bel_a⟩
   | false =>
    simp only [if_neg (of_decide_eq_false d3)] at e
    simp only [Prod.mk.injEq] at e
    obtain ⟨eX, eY, eD⟩ := e
    subst eX
    subst eY
    subst eD
    go_enter Tryz.func124, Tryz.ntmps124
    go_wp2_with fail
    refine wp_loop_rounds 5 ?_
    rw [rounds_succ]
    go_wp2_with fail
    rw [rounds_succ]
    go_wp2_with fail
    rw [rounds_succ]
    go_wp2_with fail
    rw [rounds_succ]
    go_wp2_with fail
    rw [rounds_succ]
    go_wp2_with fail
    exact bodyPost_ret (v := s3 (-256) 0 s1) (by simp [results, Tryz.results124, go_sem, *]) rfl ⟨rfl, bel_a⟩
 | false =>
  simp only [if_neg (of_decide_eq_false d1)] at e
  cases d2 : decide (s2 < s0) with
  | true =>
   simp only [if_pos (of_decide_eq_true d2)] at e
   cases d3 : decide (s3' < s2) with
   | true =>
    simp only [if_pos (of_decide_eq_true d3)] at e
    simp only [Prod.mk.injEq] at e
    obtain ⟨eX, eY, eD⟩ := e
    subst eX
    subst eY
    subst eD
    go_enter Tryz.func124, Tryz.ntmps124
    go_wp2_with fail
    refine wp_loop_rounds 5 ?_
    rw [rounds_succ]
    go_wp2_with fail
    rw [rounds_succ]
    go_wp2_with fail
    rw [rounds_succ]
    go_wp2_with fail
    rw [rounds_succ]
    go_wp2_with fail
    rw [rounds_succ]
    go_wp2_with fail
    exact bodyPost_ret (v := s3 0 (-256) s3') (by simp [results, Tryz.results124, go_sem, *]) rfl ⟨rfl, bel_a⟩
   | false =>
    simp only [if_neg (of_decide_eq_false d3)] at e
    simp only [Prod.mk.injEq] at e
    obtain ⟨eX, eY, eD⟩ := e
    subst eX
    subst eY
    subst eD
    go_enter Tryz.func124, Tryz.ntmps124
    go_wp2_with fail
    refine wp_loop_rounds 5 ?_
    rw [rounds_succ]
    go_wp2_with fail
    rw [rounds_succ]
    go_wp2_with fail
    rw [rounds_succ]
    go_wp2_with fail
    rw [rounds_succ]
    go_wp2_with fail
    rw [rounds_succ]
    go_wp2_with fail
    exact bodyPost_ret (v := s3 0 256 s2) (by simp [results, Tryz.results124, go_sem, *]) rfl ⟨rfl, bel_a⟩
  | false =>
   simp only [if_neg (of_decide_eq_false d2)] at e
   cases d3 : decide (s3' < s0) with
   | true =>
    simp only [if_pos (of_decide_eq_true d3)] at e
    simp only [Prod.mk.injEq] at e
    obtain ⟨eX, eY, eD⟩ := e
    subst eX
    subst eY
    subst eD
    go_enter Tryz.func124, Tryz.ntmps124
    go_wp2_with fail
    refine wp_loop_rounds 5 ?_
    rw [rounds_succ]
    go_wp2_with fail
    rw [rounds_succ]
    go_wp2_with fail
    rw [rounds_succ]
    go_wp2_with fail
    rw [rounds_succ]
    go_wp2_with fail
    rw [rounds_succ]
    go_wp2_with fail
    exact bodyPost_ret (v := s3 0 (-256) s3') (by simp [results, Tryz.results124, go_sem, *]) rfl ⟨rfl, bel_a⟩
   | false =>
    simp only [if_neg (of_decide_eq_false d3)] at e
    simp only [Prod.mk.injEq] at e
    obtain ⟨eX, eY, eD⟩ := e
    subst eX
    subst eY
    subst eD
    go_enter Tryz.func124, Tryz.ntmps124
    go_wp2_with fail
    refine wp_loop_rounds 5 ?_
    rw [rounds_succ]
    go_wp2_with fail
    rw [rounds_succ]
    go_wp2_with fail
    rw [rounds_succ]
    go_wp2_with fail
    rw [rounds_succ]
    go_wp2_with fail
    rw [rounds_succ]
    go_wp2_with fail
    exact bodyPost_ret (v := s3 256 0 s0) (by simp [results, Tryz.results124, go_sem, *]) rfl ⟨rfl, bel_a⟩
theorem spanNear_any (a b c d x y : Int) (w : World) :
 Calls Tryz.prog 125 #[b4 a b c d, vv x y] w fun e w' => e = .returned (vv (mn (mx x a) c) (mn (mx y b) d)) ∧ Below w.heap.size w w' := by
 have hset := cset_map
 go_enter Tryz.func125, Tryz.ntmps125
 go_wp2
 go_region_held3 (fun w' => w'.cell? ⟨w.heap.size, 0, none⟩ = some (.int .i64 a) ∧ w'.cell? ⟨w.heap.size, 1, none⟩ = some (.int .i64 b) ∧ w'.cell? ⟨w.heap.size, 2, none⟩ = some (.int .i64 c) ∧ w'.cell? ⟨w.heap.size, 3, none⟩ = some (.int .i64 d) ∧ w'.cell? ⟨w.heap.size + 1, 0, none⟩ = some (.int .i64 x) ∧ w'.cell? ⟨w.heap.size + 1, 1, none⟩ = some (.int .i64 y)) (first | (go_simp; done) | (go_keep; done)) (first
  | (go_at_call 138; refine (least_any _ _ _ _ _).mono ?_; rintro e w2 ⟨rfl, hb2⟩; obtain ⟨hc2, hf2⟩ := bcell hb2; have hl2 := blt hb2; have hz2 := hb2.size; (try simp only [World.size_drew, World.size_alloc, World.size_setCell] at hc2 hf2 hl2 hz2); (try have hq2x0 : w.heap.size < w2.heap.size := (by omega)); (try have hq2x1 : w.heap.size + 1 < w2.heap.size := (by omega)); (try have hq2x2 : w.heap.size + 1 + 1 < w2.heap.size := (by omega)))
  | (go_at_call 137; refine (greatest_any _ _ _ _ _).mono ?_; rintro e w1 ⟨rfl, hb1⟩; obtain ⟨hc1, hf1⟩ := bcell hb1; have hl1 := blt hb1; have hz1 := hb1.size; (try simp only [World.size_drew, World.size_alloc, World.size_setCell] at hc1 hf1 hl1 hz1); (try have hq1x0 : w.heap.size < w1.heap.size := (by omega)); (try have hq1x1 : w.heap.size + 1 < w1.heap.size := (by omega)); (try have hq1x2 : w.heap.size + 1 + 1 < w1.heap.size := (by omega))))
 all_goals
  go_wp2
  exact bodyPost_ret (v := vv (mn (mx x a) c) (mn (mx y b) d)) (by simp [results, Tryz.results125, go_sem, *]) rfl ⟨rfl, bel_a⟩
end Go.Proofs.YtalkkjhehndaoaaGreat
