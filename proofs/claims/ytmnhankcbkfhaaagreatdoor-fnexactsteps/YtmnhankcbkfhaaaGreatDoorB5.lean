/- Texts of a proof. -/
import Derived.Test.YtmnhankcbkfhaaaGreatDoorB1
import Derived.Test.YtmnhankcbkfhaaaGreatDoorB3
import Derived.Deep.QuietTactic
import Derived.BigQuiet
import Derived.Deep.RegionWith
set_option maxHeartbeats 16000000
set_option maxRecDepth 20000
namespace Go.Proofs.YtmnhankcbkfhaaaGreatDoor
open Go.RowKit
set_option linter.unusedVariables false
section
variable {P : Program} {md : Region.Mode} {ops : Array Oper} {Q : Exit → Act → World → Prop} {S : World → Prop}
theorem td (i j : Nat) {o1 o2 o3 o4 o5 o6 p1 p2 p3 p4 p5 p6} {v u : Value} {fuel : Nat} {listed : Array Bool} {a a' : Act} {w w1 : World} (hS : S w)
 (h : S w1 → wpAnyH P md ops Q S fuel ((listed.setIfInBounds i true).setIfInBounds j true) a' w1)
 (hr : (Region.ready md ops listed = [i, j] ∧ Region.ready md ops (listed.setIfInBounds i true) = [j] ∧ Region.ready md ops (listed.setIfInBounds j true) = [i]) := by exact ⟨by kernel_rfl, by kernel_rfl, by kernel_rfl⟩)
 (hi : ops[i]? = some (Oper.mk o1 o2 o3 o4 o5 o6) := by rfl) (hj : ops[j]? = some (Oper.mk p1 p2 p3 p4 p5 p6) := by rfl)
 (hc : (Region.noSelect ops && ((Oper.mk o1 o2 o3 o4 o5 o6).apart ops (Oper.mk p1 p2 p3 p4 p5 p6) && (i != j))) = true := by kernel_rfl)
 (wi : Region.wanted (Oper.mk o1 o2 o3 o4 o5 o6) (yielded ops a.tmps) = true := by rfl) (wj : Region.wanted (Oper.mk p1 p2 p3 p4 p5 p6) (yielded ops a.tmps) = true := by rfl)
 (vi : (execOp a.eval (Oper.mk o1 o2 o3 o4 o5 o6)).run P w = .ok (.value v) w := by (go_simp; (try with_reducible rfl)))
 (vj : (execOp a.eval (Oper.mk p1 p2 p3 p4 p5 p6)).run P w = .ok (.value u) w1 := by (go_simp; (first | done | exact ⟨rfl, rfl⟩ | with_reducible rfl)))
 (vi1 : (execOp a.eval (Oper.mk o1 o2 o3 o4 o5 o6)).run P w1 = .ok (.value v) w1 := by (go_simp; (try with_reducible rfl)))
 (hS1 : S w1 := by ((try dsimp only); (first | (go_simp; done) | (go_keep; done))))
 (he : (a.put (Oper.mk o1 o2 o3 o4 o5 o6).dst v).put (Oper.mk p1 p2 p3 p4 p5 p6).dst u = a' := by ((try simp only [Act.put, List.setIfInBounds_toArray, List.set_cons_zero, List.set_cons_succ]); (try with_reducible rfl))) :
 wpAnyH P md ops Q S (fuel + 2) listed a w := by
 subst he
 simp only [Bool.and_eq_true] at hc
 obtain ⟨h1, h2, h3⟩ := Oper.apart_spec hc.2.1
 have hne : i ≠ j := by simpa using hc.2.2
 have hsel := Region.noSelect_spec hc.1
 obtain ⟨r0, r1, r2⟩ := hr
 refine ⟨fun e => (by rw [r0] at e; cases e), fun x hx => ?_⟩
 rw [r0] at hx
 rcases List.mem_cons.1 hx with rfl | hx
 · unfold wpOp
   rw [hi]
   simp only [wi, if_true]
   refine .inl ?_
   simp only [Oper.wp, vi, Oper.upon]
   refine ⟨hS, ⟨fun e => (by rw [r1] at e; cases e), fun y hy => ?_⟩⟩
   rw [r1] at hy
   obtain rfl := List.mem_singleton.1 hy
   unfold wpOp
   rw [hj]
   simp only [wanted_put _ a _ v h1, wj, if_true]
   refine .inl ?_
   rw [Oper.wp, execOp_put _ (fun cs b => hsel _ _ cs b hj) a _ v h1, vj]
   exact ⟨hS1, h hS1⟩
 · obtain rfl := List.mem_singleton.1 hx
   unfold wpOp
   rw [hj]
   simp only [wj, if_true]
   refine .inl ?_
   simp only [Oper.wp, vj, Oper.upon]
   refine ⟨hS1, ⟨fun e => (by rw [r2] at e; cases e), fun y hy => ?_⟩⟩
   rw [r2] at hy
   obtain rfl := List.mem_singleton.1 hy
   unfold wpOp
   rw [hi]
   simp only [wanted_put _ a _ u h3, wi, if_true]
   refine .inl ?_
   rw [Oper.wp, execOp_put _ (fun cs b => hsel _ _ cs b hi) a _ u h3, vi1]
   refine ⟨hS1, ?_⟩
   have := h hS1
   rw [Array.setIfInBounds_comm _ _ hne, Act.put_comm a v u h2] at this
   exact this
end
end Go.Proofs.YtmnhankcbkfhaaaGreatDoor
namespace Go.Proofs.YtmnhankcbkfhaaaGreatDoor
open Go.RowKit
set_option linter.unusedVariables false
set_option linter.unusedSimpArgs false
theorem wayTimes_any (x y n : Int) (w : World) (hx : -1000000000 ≤ x ∧ x ≤ 1000000000) (hy : -1000000000 ≤ y ∧ y ≤ 1000000000) (hn : -1000000000 ≤ n ∧ n ≤ 1000000000) :
 Calls Tryz.prog 158 #[vv x y, .int .i64 n] w fun e w' => e = .returned (vv (fc ((x * n).tdiv 256)) (fc ((y * n).tdiv 256))) ∧ Below w.heap.size w w' := by
 have hset := cset_map
 go_enter Tryz.func158, Tryz.ntmps158
 go_wp2
 go_region_with (go_at_call 170; refine (times_any _ _ _ (by omega) (by omega)).mono ?_; rintro e w' ⟨rfl, rfl⟩)
 all_goals
  go_wp2
  exact bodyPost_ret (v := vv (fc ((x * n).tdiv 256)) (fc ((y * n).tdiv 256))) (by simp [results, Tryz.results158, go_sem, *]) rfl ⟨rfl, bel_a⟩
theorem dot_any (x y u v : Int) (w : World) (hx : -1000000000 ≤ x ∧ x ≤ 1000000000) (hy : -1000000000 ≤ y ∧ y ≤ 1000000000) (hu : -1000000000 ≤ u ∧ u ≤ 1000000000) (hv : -1000000000 ≤ v ∧ v ≤ 1000000000) :
 Calls Tryz.prog 169 #[vv x y, vv u v] w fun e w' => e = .returned (.int .i64 (fc ((x * u + y * v).tdiv 256))) ∧ Below w.heap.size w w' := by
 have p := mul_bd (A := 1000000000) (B := 1000000000) hx hu
 have q := mul_bd (A := 1000000000) (B := 1000000000) hy hv
 have ht := i64w (n := (x * u + y * v).tdiv 256) (by have := tdiv_bd (x := x * u + y * v) (B := 2000000000000000000) 256 (by omega); omega)
 have hset := cset_map
 go_enter Tryz.func169, Tryz.ntmps169
 go_wp2_with (first
  | (go_at_call 179; refine (products_any _ _ _ _ _ (by omega) (by omega) (by omega) (by omega)).mono ?_; rintro e w2 ⟨rfl, hb2⟩; obtain ⟨hc2, hf2⟩ := bcell hb2; have hz2 := hb2.size; (try simp at hz2); have hq2x0a : w.heap.size < w2.heap.size := (by omega); have hq2x1a : w.heap.size + 1 < w2.heap.size := (by omega))
  | (go_at_call 140; refine (held_any _ _ _ (by omega) (by omega)).mono ?_; rintro e w' ⟨rfl, rfl⟩))
 all_goals
  go_ret
  exact ⟨rfl, bel_a⟩
theorem length_any (x y : Int) (w : World) (hx : -1000000000 ≤ x ∧ x ≤ 1000000000) (hy : -1000000000 ≤ y ∧ y ≤ 1000000000) :
 Calls Tryz.prog 181 #[vv x y] w fun e w' => e = .returned (.int .i64 (vl x y)) ∧ Below w.heap.size w w' := by
 have hs := sq_bd hx hy
 have hset := cset_map
 go_enter Tryz.func181, Tryz.ntmps181
 go_wp2_with (first
  | (go_at_call 179; refine (products_any _ _ _ _ _ (by omega) (by omega) (by omega) (by omega)).mono ?_; rintro e w2 ⟨rfl, hb2⟩; obtain ⟨hc2, hf2⟩ := bcell hb2; have hz2 := hb2.size; (try simp at hz2); have hq2x0a : w.heap.size < w2.heap.size := (by omega))
  | (go_at_call 186; refine (root_any _ _ (by omega)).mono ?_; rintro e w5 ⟨rfl, hb5⟩; obtain ⟨hc5, hf5⟩ := bcell hb5; have hz5 := hb5.size; (try simp at hz5); have hq5x0a : w.heap.size < w5.heap.size := (by omega))
  | (go_at_call 140; refine (held_any _ _ _ (by omega) (by omega)).mono ?_; rintro e w' ⟨rfl, rfl⟩))
 go_ret
 exact ⟨rfl, bel_a⟩
def stp (G : Nat → Nat) : Option (Nat × Nat) → Nat → Nat
 | none => G
 | some (A, B) => fun j => if j = A ∨ j = B then min (G A) (G B) else G j
def rnd (E : Nat → Option (Nat × Nat)) (G : Nat → Nat) : Nat → Nat → Nat
 | 0 => G
 | k + 1 => stp (rnd E G k) (E k)
def rnds (E : Nat → Option (Nat × Nat)) (M : Nat) : Nat → Nat → Nat
 | 0 => fun j => j
 | r + 1 => rnd E (rnds E M r) M
def jn (L : Nat → Nat) : Option (Nat × Nat) → Nat → Nat
 | none => L
 | some (A, B) => fun j => if L j = max (L A) (L B) then min (L A) (L B) else L j
def lab (E : Nat → Option (Nat × Nat)) : Nat → Nat → Nat
 | 0 => fun j => j
 | k + 1 => jn (lab E k) (E k)
theorem lab_le (E : Nat → Option (Nat × Nat)) : ∀ k j, lab E k j ≤ j
 | 0, j => Nat.le_refl _
 | k + 1, j => by
  have ih := lab_le E k
  rw [lab]
  cases h : E k with
  | none => exact ih j
  | some p =>
   obtain ⟨A, B⟩ := p
   show (if lab E k j = max (lab E k A) (lab E k B) then min (lab E k A) (lab E k B) else lab E k j) ≤ j
   have := ih j
   split <;> omega
theorem lab_edge (E : Nat → Option (Nat × Nat)) : ∀ k i A B, i < k → E i = some (A, B) → lab E k A = lab E k B
 | 0, i, _, _, h, _ => absurd h (Nat.not_lt_zero _)
 | k + 1, i, A, B, h, e => by
  rw [lab]
  cases hk : E k with
  | none =>
   by_cases hi : i = k
   · subst hi; rw [hk] at e; cases e
   · exact lab_edge E k i A B (by omega) e
  | some p =>
   obtain ⟨C, D⟩ := p
   show (if lab E k A = max (lab E k C) (lab E k D) then min (lab E k C) (lab E k D) else lab E k A) = (if lab E k B = max (lab E k C) (lab E k D) then min (lab E k C) (lab E k D) else lab E k B)
   by_cases hi : i = k
   · subst hi
     rw [hk] at e
     simp only [Option.some.injEq, Prod.mk.injEq] at e
     obtain ⟨rfl, rfl⟩ := e
     split <;> split <;> omega
   · rw [lab_edge E k i A B (by omega) e]
theorem lab_set (E : Nat → Option (Nat × Nat)) (X : Nat → Prop) : ∀ k, (∀ i A B, i < k → E i = some (A, B) → (X A ↔ X B)) → ∀ j, (X (lab E k j) ↔ X j)
 | 0, _, j => Iff.rfl
 | k + 1, hX, j => by
  have ih := lab_set E X k (fun i A B h e => hX i A B (by omega) e)
  rw [lab]
  cases hk : E k with
  | none => exact ih j
  | some p =>
   obtain ⟨A, B⟩ := p
   show X (if lab E k j = max (lab E k A) (lab E k B) then min (lab E k A) (lab E k B) else lab E k j) ↔ X j
   have hAB := hX k A B (Nat.lt_succ_self _) hk
   have h1 := ih A
   have h2 := ih B
   have h3 := ih j
   by_cases e : lab E k j = max (lab E k A) (lab E k B)
   · rw [if_pos e]
     rcases Nat.le_total (lab E k A) (lab E k B) with q | q
     · rw [Nat.min_eq_left q]
       rw [Nat.max_eq_right q] at e
       rw [e] at h3
       exact h1.trans (hAB.trans (h2.symm.trans h3))
     · rw [Nat.min_eq_right q]
       rw [Nat.max_eq_left q] at e
       rw [e] at h3
       exact h2.trans (hAB.symm.trans (h1.symm.trans h3))
   · rw [if_neg e]; exact h3
theorem lab_idem (E : Nat → Option (Nat × Nat)) (k j : Nat) : lab E k (lab E k j) = lab E k j :=
 (lab_set E (fun x => lab E k x = lab E k j) k (fun i A B h e => by rw [lab_edge E k i A B h e]) j).2 rfl
theorem stp_le (G : Nat → Nat) (e : Option (Nat × Nat)) (j : Nat) : stp G e j ≤ G j := by
 cases e with
 | none => exact Nat.le_refl _
 | some p =>
  obtain ⟨A, B⟩ := p
  show (if j = A ∨ j = B then min (G A) (G B) else G j) ≤ G j
  by_cases h : j = A ∨ j = B
  · rw [if_pos h]
    rcases h with rfl | rfl
    · exact Nat.min_le_left _ _
    · exact Nat.min_le_right _ _
  · rw [if_neg h]; exact Nat.le_refl _
theorem rnd_le (E : Nat → Option (Nat × Nat)) (G : Nat → Nat) : ∀ k j, rnd E G k j ≤ G j
 | 0, _ => Nat.le_refl _
 | k + 1, j => Nat.le_trans (stp_le _ _ _) (rnd_le E G k j)
theorem rnd_mono (E : Nat → Option (Nat × Nat)) (G : Nat → Nat) (k : Nat) : ∀ m, k ≤ m → ∀ j, rnd E G m j ≤ rnd E G k j
 | 0, h, j => by
  obtain rfl : k = 0 := by omega
  exact Nat.le_refl _
 | m + 1, h, j => by
  by_cases e : k = m + 1
  · subst e; exact Nat.le_refl _
  · exact Nat.le_trans (stp_le _ _ _) (rnd_mono E G k m (by omega) j)
def Same (L G : Nat → Nat) : Prop := ∀ j, L (G j) = L j
theorem stp_same {L G : Nat → Nat} {e : Option (Nat × Nat)} (h : Same L G) (he : ∀ A B, e = some (A, B) → L A = L B) : Same L (stp G e) := by
 intro j
 cases e with
 | none => exact h j
 | some p =>
  obtain ⟨A, B⟩ := p
  have q := he A B rfl
  show L (if j = A ∨ j = B then min (G A) (G B) else G j) = L j
  by_cases hj : j = A ∨ j = B
  · rw [if_pos hj]
    have hm : L (min (G A) (G B)) = L A := by
     rcases Nat.le_total (G A) (G B) with z | z
     · rw [Nat.min_eq_left z]; exact h A
     · rw [Nat.min_eq_right z]; exact (h B).trans q.symm
    rw [hm]
    rcases hj with rfl | rfl
    · rfl
    · exact q
  · rw [if_neg hj]; exact h j
theorem rnd_same {E : Nat → Option (Nat × Nat)} {L G : Nat → Nat} {M : Nat} (hE : ∀ i A B, i < M → E i = some (A, B) → L A = L B) (h : Same L G) : ∀ k, k ≤ M → Same L (rnd E G k)
 | 0, _ => h
 | k + 1, hk => stp_same (rnd_same hE h k (by omega)) (fun A B e => hE k A B (by omega) e)
theorem rnds_same {E : Nat → Option (Nat × Nat)} {L : Nat → Nat} {M : Nat} (hE : ∀ i A B, i < M → E i = some (A, B) → L A = L B) : ∀ r, Same L (rnds E M r)
 | 0 => fun _ => rfl
 | r + 1 => rnd_same hE (rnds_same hE r) M (Nat.le_refl _)
theorem rnds_le (E : Nat → Option (Nat × Nat)) (M : Nat) : ∀ r j, rnds E M r j ≤ j
 | 0, _ => Nat.le_refl _
 | r + 1, j => Nat.le_trans (rnd_le E _ M j) (rnds_le E M r j)
def cntp (p : Nat → Bool) : Nat → Nat
 | 0 => 0
 | n + 1 => cntp p n + (if p n = true then 1 else 0)
theorem cntp_le (p : Nat → Bool) : ∀ n, cntp p n ≤ n
 | 0 => Nat.le_refl _
 | n + 1 => by have := cntp_le p n; rw [cntp]; split <;> omega
theorem cntp_mono {p q : Nat → Bool} : ∀ n, (∀ v, v < n → p v = true → q v = true) → cntp p n ≤ cntp q n
 | 0, _ => Nat.le_refl _
 | n + 1, h => by
  have a := cntp_mono (p := p) (q := q) n (fun v hv => h v (by omega))
  have b := h n (by omega)
  rw [cntp, cntp]
  by_cases e : p n = true
  · rw [if_pos e, if_pos (b e)]; omega
  · rw [if_neg e]; omega
theorem cntp_lt {p q : Nat → Bool} {y : Nat} : ∀ n, y < n → (∀ v, v < n → p v = true → q v = true) → p y = false → q y = true → cntp p n < cntp q n
 | 0, h, _, _, _ => absurd h (Nat.not_lt_zero _)
 | n + 1, h, hm, h1, h2 => by
  rw [cntp, cntp]
  by_cases e : y = n
  · subst e
    have a := cntp_mono (p := p) (q := q) y (fun v hv => hm v (by omega))
    rw [if_neg (by rw [h1]; simp), if_pos h2]; omega
  · have a := cntp_lt n (by omega) (fun v hv => hm v (by omega)) h1 h2
    have b := hm n (by omega)
    by_cases z : p n = true
    · rw [if_pos z, if_pos (b z)]; omega
    · rw [if_neg z]; omega
theorem rnds_lab (E : Nat → Option (Nat × Nat)) (M n : Nat) (hE : ∀ i A B, i < M → E i = some (A, B) → A < n ∧ B < n) : ∀ v, v < n → rnds E M n v = lab E M v := by
 have hedge := fun i A B (h : i < M) (e : E i = some (A, B)) => lab_edge E M i A B h e
 have hsame := rnds_same (E := E) (L := lab E M) (M := M) hedge
 have hge : ∀ r j, lab E M j ≤ rnds E M r j := fun r j => by
  have a := lab_le E M (rnds E M r j)
  rw [hsame r j] at a
  exact a
 have key : ∀ r, (∀ v, v < n → rnds E M r v = lab E M v) ∨ r < cntp (fun v => decide (rnds E M r v = lab E M v)) n := by
  intro r
  induction r with
  | zero =>
   by_cases h0 : n = 0
   · left; intro v hv; omega
   · right
     have z : lab E M 0 = 0 := by have := lab_le E M 0; omega
     have := cntp_lt (p := fun _ => false) (q := fun v => decide (rnds E M 0 v = lab E M v)) (y := 0) n (by omega) (fun _ _ h => by cases h) rfl (by show decide (0 = lab E M 0) = true; rw [z]; rfl)
     omega
  | succ r ih =>
   have mono : ∀ v, rnds E M r v = lab E M v → rnds E M (r + 1) v = lab E M v := fun v e => by
    have a := rnd_le E (rnds E M r) M v
    have b := hge (r + 1) v
    have c : rnds E M (r + 1) v = rnd E (rnds E M r) M v := rfl
    omega
   rcases ih with ih | ih
   · left; intro v hv; exact mono v (ih v hv)
   · by_cases all : ∀ v, v < n → rnds E M (r + 1) v = lab E M v
     · left; exact all
     · right
       -- an edge that parts what is there from what is not
       have cross : ∃ y, y < n ∧ rnds E M r y ≠ lab E M y ∧ rnds E M (r + 1) y = lab E M y := by
        refine Classical.byContradiction fun hno => all fun v hv => mono v ?_
        have closed : ∀ i A B, i < M → E i = some (A, B) → (rnds E M r A = lab E M A ↔ rnds E M r B = lab E M B) := by
         intro i A B hi e
         have hb := hE i A B hi e
         have hl := hedge i A B hi e
         have st : rnd E (rnds E M r) (i + 1) A = min (rnd E (rnds E M r) i A) (rnd E (rnds E M r) i B) ∧ rnd E (rnds E M r) (i + 1) B = min (rnd E (rnds E M r) i A) (rnd E (rnds E M r) i B) := by
          constructor
          · show stp _ (E i) A = _; rw [e]; show (if A = A ∨ A = B then _ else _) = _; rw [if_pos (.inl rfl)]
          · show stp _ (E i) B = _; rw [e]; show (if B = A ∨ B = B then _ else _) = _; rw [if_pos (.inr rfl)]
         have mA := rnd_mono E (rnds E M r) (i + 1) M (by omega) A
         have mB := rnd_mono E (rnds E M r) (i + 1) M (by omega) B
         have lA := rnd_le E (rnds E M r) i A
         have lB := rnd_le E (rnds E M r) i B
         have gA := hge (r + 1) A
         have gB := hge (r + 1) B
         have cA : rnds E M (r + 1) A = rnd E (rnds E M r) M A := rfl
         have cB : rnds E M (r + 1) B = rnd E (rnds E M r) M B := rfl
         rw [cA] at gA
         rw [cB] at gB
         have eA := st.1
         have eB := st.2
         constructor
         · intro h
           refine Classical.byContradiction fun hn => hno ⟨B, hb.2, hn, ?_⟩
           rw [cB]
           have := Nat.min_le_left (rnd E (rnds E M r) i A) (rnd E (rnds E M r) i B)
           omega
         · intro h
           refine Classical.byContradiction fun hn => hno ⟨A, hb.1, hn, ?_⟩
           rw [cA]
           have := Nat.min_le_right (rnd E (rnds E M r) i A) (rnd E (rnds E M r) i B)
           omega
        refine (lab_set E (fun x => rnds E M r x = lab E M x) M closed v).1 ?_
        have a := rnds_le E M r (lab E M v)
        have b := hge r (lab E M v)
        rw [lab_idem] at b ⊢
        omega
       obtain ⟨y, hy, h1, h2⟩ := cross
       have := cntp_lt (p := fun v => decide (rnds E M r v = lab E M v)) (q := fun v => decide (rnds E M (r + 1) v = lab E M v)) (y := y) n hy (fun v _ h => decide_eq_true (mono v (of_decide_eq_true h))) (decide_eq_false h1) (decide_eq_true h2)
       omega
 rcases key n with h | h
 · exact h
 · have := cntp_le (fun v => decide (rnds E M n v = lab E M v)) n
   omega
end Go.Proofs.YtmnhankcbkfhaaaGreatDoor
