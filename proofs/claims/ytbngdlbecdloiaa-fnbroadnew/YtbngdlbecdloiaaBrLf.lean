/- A tree's leaves, and a node more. -/
import Derived.Test.YtbngdlbecdloiaaB29
import Derived.Deep.RegionHeld3
import Derived.Deep.DeepCutAuto
set_option maxHeartbeats 16000000
set_option maxRecDepth 20000
namespace Go.Proofs.Ytbngdlbecdloiaa
open Go.RowKit
set_option linter.unusedVariables false
set_option linter.unusedSimpArgs false
abbrev ndW (V : Nat → Int) (l : Bool) : Value := .agg #[.int .i64 (V 0), .int .i64 (V 1), .int .i64 (V 2), .int .i64 (V 3), .bool l, .int .i64 (V 5), .int .i64 (V 6), .int .i64 (V 7)]
/-- a leaf's numbers -/
def leafV (U : Nat → Int) (p : Nat) : Nat → Int := fun j => match j with
  | 0 => U (p * 5 + 1) - 256
  | 1 => U (p * 5 + 2) - 256
  | 2 => U (p * 5 + 3) + 256
  | 3 => U (p * 5 + 4) + 256
  | 4 => 1
  | 5 => (p : Int)
  | _ => 0
def B2 (a : Int) : Prop := -2000000000 ≤ a ∧ a ≤ 2000000000
set_option maxRecDepth 20000 in
set_option maxHeartbeats 1000000 in
theorem leafOf_any (tb : Nat) (b o N ci : Nat) (U : Nat → Int) (p : Nat) (w : World) (hp : p < N) (hc : ∀ q, q < N * 5 → w.cell? ⟨b, o + q, none⟩ = some (.int .i64 (U q))) (c0 : w.cell? ⟨tb, 0, none⟩ = some (.slice (some ⟨b, o, none⟩) N ci)) (hU : ∀ q, q < N * 5 → B2 (U q)) :
    Calls Try.prog 73 #[.pointer (some ⟨tb, 0, none⟩), .int .i64 (p : Int)] w fun e w' => e = .returned (ndW (leafV U p) true) ∧ Below w.heap.size w w' := by
  have hset := cset_map
  obtain ⟨k0, k1, k2, k3, k4⟩ := box_cells hc hp
  obtain ⟨u1, u1'⟩ := hU (p * 5 + 1) (by omega)
  obtain ⟨u2, u2'⟩ := hU (p * 5 + 2) (by omega)
  obtain ⟨u3, u3'⟩ := hU (p * 5 + 3) (by omega)
  obtain ⟨u4, u4'⟩ := hU (p * 5 + 4) (by omega)
  have l0 := cell_lt c0
  have lb := cell_lt k1
  simp only at l0 lb
  have hpi : (p : Int) < (N : Int) := by omega
  go_enter Try.func73, Try.ntmps73
  go_upto_region 2 with fail
  go_cut [6] (fun v wc => ∃ x, v = .pointer (some ⟨x, 0, none⟩) ∧ w.heap.size < x ∧ Below w.heap.size w wc ∧ Sp4 wc x (U (p * 5 + 1)) (U (p * 5 + 2)) (U (p * 5 + 3)) (U (p * 5 + 4)) ∧ wc.cell? ⟨w.heap.size + 1, 0, none⟩ = some (.int .i64 256) ∧ wc.cell? ⟨w.heap.size + 1, 1, none⟩ = some (.int .i64 256) ∧ (wc.cell? ⟨w.heap.size, 0, none⟩ = some (.int .i64 0) ∧ wc.cell? ⟨w.heap.size, 1, none⟩ = some (.int .i64 0) ∧ wc.cell? ⟨w.heap.size, 2, none⟩ = some (.int .i64 0) ∧ wc.cell? ⟨w.heap.size, 3, none⟩ = some (.int .i64 0) ∧ wc.cell? ⟨w.heap.size, 4, none⟩ = some (.bool false) ∧ wc.cell? ⟨w.heap.size, 5, none⟩ = some (.int .i64 0) ∧ wc.cell? ⟨w.heap.size, 6, none⟩ = some (.int .i64 0) ∧ wc.cell? ⟨w.heap.size, 7, none⟩ = some (.int .i64 0)) ∧ (∀ j, wc.frozen? ⟨w.heap.size, j, none⟩ = false))
  case first =>
    go_wp2_with (go_at_call 48; refine (spanOf_any _ _ _ _ _).mono ?_; rintro e w1 ⟨rfl, hb1⟩; obtain ⟨hc1, hf1⟩ := bcell hb1; have hz1 := hb1.size; (try simp only [World.size_drew, World.size_alloc, World.size_setCell] at hc1 hf1 hz1); have hc2 := fun o => hc1 w.heap.size o (by omega); have hc3 := fun o => hc1 (w.heap.size + 1) o (by omega); have hf2 := fun o => hf1 w.heap.size o (by omega); have hz2 : w.heap.size < w1.heap.size := (by omega); have hz3 : w.heap.size + 1 < w1.heap.size := (by omega); clear hc1 hf1)
    go_meet
    exact ⟨_, rfl, by omega, bel_a, ⟨by go_simp, by go_simp, by go_simp, by go_simp⟩, by go_simp, by go_simp, ⟨by go_simp, by go_simp, by go_simp, by go_simp, by go_simp, by go_simp, by go_simp, by go_simp⟩, fun j => by go_simp⟩
  case rest =>
  obtain ⟨x, rfl, hx, hB, ⟨s0, s1, s2, s3⟩, r0, r1, ⟨z0, z1, z2, z3, z4, z5, z6, z7⟩, hfz⟩ := hcut
  have hwl : w.heap.size < wc.heap.size := by have := cell_lt r0; simp only at this; omega
  have FF : ∀ w', But w.heap.size wc w' → w'.cell? ⟨x, 0, none⟩ = some (.int .i64 (U (p * 5 + 1))) ∧ w'.cell? ⟨x, 1, none⟩ = some (.int .i64 (U (p * 5 + 2))) ∧ w'.cell? ⟨x, 2, none⟩ = some (.int .i64 (U (p * 5 + 3))) ∧ w'.cell? ⟨x, 3, none⟩ = some (.int .i64 (U (p * 5 + 4))) ∧ w'.cell? ⟨w.heap.size + 1, 0, none⟩ = some (.int .i64 256) ∧ w'.cell? ⟨w.heap.size + 1, 1, none⟩ = some (.int .i64 256) :=
    fun w' s => ⟨keepB s s0 (by show x ≠ w.heap.size; omega), keepB s s1 (by show x ≠ w.heap.size; omega), keepB s s2 (by show x ≠ w.heap.size; omega), keepB s s3 (by show x ≠ w.heap.size; omega), keepB s r0 (by show w.heap.size + 1 ≠ w.heap.size; omega), keepB s r1 (by show w.heap.size + 1 ≠ w.heap.size; omega)⟩
  go_upto_region 3 with fail
  refine wp_region_held_drew (S := fun w' => But w.heap.size wc w') (by kernel_rfl) ((But.refl _ _).drew) (fun hHeld => ?_)
  refine tq 0 hHeld ?_
  refine tq 1 hHeld ?_ (hv := by (intro w' s; obtain ⟨q1, q2, q3, q4, q5, q6⟩ := FF w' s; go_simp; (try with_reducible rfl)))
  refine tq 2 hHeld ?_ (hv := by (intro w' s; obtain ⟨q1, q2, q3, q4, q5, q6⟩ := FF w' s; go_simp; (try with_reducible rfl)))
  refine tq 4 hHeld ?_
  refine tq 5 hHeld ?_ (hv := by (intro w' s; obtain ⟨q1, q2, q3, q4, q5, q6⟩ := FF w' s; go_simp; (try with_reducible rfl)))
  refine tq 6 hHeld ?_ (hv := by (intro w' s; obtain ⟨q1, q2, q3, q4, q5, q6⟩ := FF w' s; go_simp; (try with_reducible rfl)))
  refine tq 9 hHeld ?_
  refine tc 3 fun K hK => ?_
  (go_simp; (go_at_call 78; refine (less_any _ _ _ _ _ (by omega) (by omega) (by omega) (by omega)).mono ?_; rintro e w2 ⟨rfl, hb2⟩; obtain ⟨hc2, hf2⟩ := bcell hb2; have hz2 := hb2.size; (try simp only [World.size_drew, World.size_alloc, World.size_setCell] at hc2 hf2 hz2); (try have hd2 := fun o => hc2 w.heap.size o (by omega)); (try have he2 := fun o => hf2 w.heap.size o (by omega)); clear hc2 hf2); (try go_wp2_with fail); refine tr hK (fun hHeld => ?_) (hHeld.trans (But.of_below hb2)); clear hK K)
  refine tc 7 fun K hK => ?_
  (go_simp; (go_at_call 79; refine (plus_any _ _ _ _ _ (by omega) (by omega) (by omega) (by omega)).mono ?_; rintro e w3 ⟨rfl, hb3⟩; obtain ⟨hc3, hf3⟩ := bcell hb3; have hz3 := hb3.size; (try simp only [World.size_drew, World.size_alloc, World.size_setCell] at hc3 hf3 hz3); (try have hd3 := fun o => hc3 w.heap.size o (by omega)); (try have he3 := fun o => hf3 w.heap.size o (by omega)); clear hc3 hf3); (try go_wp2_with fail); refine tr hK (fun hHeld => ?_) (hHeld.trans (But.of_below hb3)); clear hK K)
  refine tq 8 hHeld ?_
  refine tq 10 hHeld ?_
  refine tc 11 fun K hK => ?_
  (go_simp; refine tr hK (fun hHeld => ?_) ((((((((hHeld.setCell rfl _).setCell rfl _).setCell rfl _).setCell rfl _).setCell rfl _).setCell rfl _).setCell rfl _).setCell rfl _); clear hK K)
  refine wpAnyH_done (by kernel_rfl) ?_ _
  go_wp2_with fail
  exact bodyPost_ret (v := ndW (leafV U p) true) (by simp [results, Try.results73, go_sem, leafV, *]) rfl ⟨rfl, hB.trans (hHeld.below (Nat.le_refl _) (Nat.le_of_lt hwl))⟩
theorem nd8_new (D V : Nat → Int) (m : Nat) : nd8 (fun q => if q < m * 8 then D q else V (q - m * 8)) m = [.int .i64 (V 0), .int .i64 (V 1), .int .i64 (V 2), .int .i64 (V 3), .bool (decide (V 4 = 1)), .int .i64 (V 5), .int .i64 (V 6), .int .i64 (V 7)] := by
  have h : ∀ j, (if m * 8 + j < m * 8 then D (m * 8 + j) else V (m * 8 + j - m * 8)) = V j := fun j => by rw [if_neg (by omega)]; congr 1; omega
  have h0 := h 0
  simp only [Nat.add_zero] at h0
  unfold nd8
  simp only [h, h0]
theorem TW.put {w : World} {base tb N ci g m c : Nat} {ai : Option Addr} {v : Value} {D : Nat → Int} (e0 : w.cell? ⟨tb, 0, none⟩ = some (.slice ai N ci)) (e1 : w.cell? ⟨tb, 1, none⟩ = some v) (f : w.frozen? ⟨tb, 1, none⟩ = false) (ho : NL w base (.slice (some ⟨g, 0, none⟩) m c) D m) (htb : tb < base) :
    TW (w.setCell ⟨tb, 1, none⟩ (.slice (some ⟨g, 0, none⟩) m c)) base tb ai N ci (.slice (some ⟨g, 0, none⟩) m c) m D :=
  ⟨by rw [cset_other (by intro q; injection q with q1 q2; omega)]; exact e0, by rw [cset_map, e1]; rfl, by rw [World.frozen?_setCell]; exact f, ho.keep fun k hk => Below.heap_setCell _ _ _ _ (by have := (ho.lt k hk).1; show k ≠ tb; omega)⟩
set_option maxRecDepth 20000 in
set_option maxHeartbeats 1000000 in
theorem add_any (base tb : Nat) (ai : Option Addr) (N ci : Nat) (v : Value) (m : Nat) (D V : Nat → Int) (l : Bool) (w : World) (h : TW w base tb ai N ci v m D) (hl : l = decide (V 4 = 1)) (hm : m ≤ 1000) (hbase : base ≤ w.heap.size) (htb : tb < base) :
    Calls Try.prog 72 #[.pointer (some ⟨tb, 0, none⟩), ndW V l] w fun e w' => e = .returned (.int .i64 (m : Int)) ∧ ∃ v', TW w' base tb ai N ci v' (m + 1) (fun q => if q < m * 8 then D q else V (q - m * 8)) ∧ (∀ k, k < base → k ≠ tb → w'.heap[k]? = w.heap[k]?) ∧ w'.os = w.os ∧ w'.tape = w.tape ∧ w'.output = w.output ∧ w.heap.size ≤ w'.heap.size := by
  have hset := cset_map
  have c1 := h.c1
  have f1 := h.f1
  have l1 := cell_lt c1
  simp only at l1
  go_enter Try.func72, Try.ntmps72
  subst hl
  have h9 := h.below (w' := w.alloc (.cells #[.int .i64 (V 0), .int .i64 (V 1), .int .i64 (V 2), .int .i64 (V 3), .bool (decide (V 4 = 1)), .int .i64 (V 5), .int .i64 (V 6), .int .i64 (V 7)] 100)) ((Below.refl _ _).alloc (Nat.le_refl _) _)
  have hw1 : IntKind.i64.wrap (((m + 1 : Nat) : Int) - 1) = (m : Int) := by rw [i64w (by omega)]; omega
  have hw2 : IntKind.i64.wrap ((m : Int) + 1 - 1) = (m : Int) := by rw [i64w (by omega)]; omega
  have hw3 : ((m : Int) + 1 - 1) = (m : Int) := by omega
  go_upto_region 1 with fail
  have hE : Below w.heap.size w (w.alloc (.cells #[.int .i64 (V 0), .int .i64 (V 1), .int .i64 (V 2), .int .i64 (V 3), .bool (decide (V 4 = 1)), .int .i64 (V 5), .int .i64 (V 6), .int .i64 (V 7)] 100)) := (Below.refl _ _).alloc (Nat.le_refl _) _
  have n0 : (w.alloc (.cells #[.int .i64 (V 0), .int .i64 (V 1), .int .i64 (V 2), .int .i64 (V 3), .bool (decide (V 4 = 1)), .int .i64 (V 5), .int .i64 (V 6), .int .i64 (V 7)] 100)).cell? ⟨w.heap.size, 0, none⟩ = some (.int .i64 (V 0)) := by go_simp
  have n1 : (w.alloc (.cells #[.int .i64 (V 0), .int .i64 (V 1), .int .i64 (V 2), .int .i64 (V 3), .bool (decide (V 4 = 1)), .int .i64 (V 5), .int .i64 (V 6), .int .i64 (V 7)] 100)).cell? ⟨w.heap.size, 1, none⟩ = some (.int .i64 (V 1)) := by go_simp
  have n2 : (w.alloc (.cells #[.int .i64 (V 0), .int .i64 (V 1), .int .i64 (V 2), .int .i64 (V 3), .bool (decide (V 4 = 1)), .int .i64 (V 5), .int .i64 (V 6), .int .i64 (V 7)] 100)).cell? ⟨w.heap.size, 2, none⟩ = some (.int .i64 (V 2)) := by go_simp
  have n3 : (w.alloc (.cells #[.int .i64 (V 0), .int .i64 (V 1), .int .i64 (V 2), .int .i64 (V 3), .bool (decide (V 4 = 1)), .int .i64 (V 5), .int .i64 (V 6), .int .i64 (V 7)] 100)).cell? ⟨w.heap.size, 3, none⟩ = some (.int .i64 (V 3)) := by go_simp
  have n4 : (w.alloc (.cells #[.int .i64 (V 0), .int .i64 (V 1), .int .i64 (V 2), .int .i64 (V 3), .bool (decide (V 4 = 1)), .int .i64 (V 5), .int .i64 (V 6), .int .i64 (V 7)] 100)).cell? ⟨w.heap.size, 4, none⟩ = some (.bool (decide (V 4 = 1))) := by go_simp
  have n5 : (w.alloc (.cells #[.int .i64 (V 0), .int .i64 (V 1), .int .i64 (V 2), .int .i64 (V 3), .bool (decide (V 4 = 1)), .int .i64 (V 5), .int .i64 (V 6), .int .i64 (V 7)] 100)).cell? ⟨w.heap.size, 5, none⟩ = some (.int .i64 (V 5)) := by go_simp
  have n6 : (w.alloc (.cells #[.int .i64 (V 0), .int .i64 (V 1), .int .i64 (V 2), .int .i64 (V 3), .bool (decide (V 4 = 1)), .int .i64 (V 5), .int .i64 (V 6), .int .i64 (V 7)] 100)).cell? ⟨w.heap.size, 6, none⟩ = some (.int .i64 (V 6)) := by go_simp
  have n7 : (w.alloc (.cells #[.int .i64 (V 0), .int .i64 (V 1), .int .i64 (V 2), .int .i64 (V 3), .bool (decide (V 4 = 1)), .int .i64 (V 5), .int .i64 (V 6), .int .i64 (V 7)] 100)).cell? ⟨w.heap.size, 7, none⟩ = some (.int .i64 (V 7)) := by go_simp
  have hz : (w.alloc (.cells #[.int .i64 (V 0), .int .i64 (V 1), .int .i64 (V 2), .int .i64 (V 3), .bool (decide (V 4 = 1)), .int .i64 (V 5), .int .i64 (V 6), .int .i64 (V 7)] 100)).heap.size = w.heap.size + 1 := by simp
  generalize w.alloc (.cells #[.int .i64 (V 0), .int .i64 (V 1), .int .i64 (V 2), .int .i64 (V 3), .bool (decide (V 4 = 1)), .int .i64 (V 5), .int .i64 (V 6), .int .i64 (V 7)] 100) = w9 at h9 hE n0 n1 n2 n3 n4 n5 n6 n7 hz ⊢
  have c9 := h9.c1
  have hx9 : tb < w9.heap.size := by omega
  have hy9 : w.heap.size < w9.heap.size := by omega
  obtain ⟨bx, hbx⟩ : ∃ x, w.heap.size = x := ⟨_, rfl⟩
  rw [hbx] at hz hy9 n0 n1 n2 n3 n4 n5 n6 n7
  simp only [hbx]
  have hb9 : base ≤ w9.heap.size := by omega
  clear c1 f1 hz hbx
  refine wp_region_held_drew (S := fun _ => True) (by kernel_rfl) trivial (fun hHeld => ?_)
  refine tq 0 hHeld ?_
  refine tq 1 hHeld ?_
  refine tq 2 hHeld ?_
  refine tq 3 hHeld ?_
  refine wpAnyH_ready (rs := [4, 5]) (by kernel_rfl) (by simp) ?_
  refine AllReadyH.cons rfl (fun K hK => ?_) (AllReadyH.cons rfl (fun K hK => ?_) AllReadyH.nil)
  · (go_simp; refine tr hK (fun hHeld => ?_) trivial; clear hK K)
    refine tc 5 fun K hK => ?_
    (go_simp; refine tr hK (fun hHeld => ?_) trivial; clear hK K)
    refine tc 6 fun K hK => ?_
    (go_simp; refine tr hK (fun hHeld => ?_) trivial; clear hK K)
    refine tc 7 fun K hK => ?_
    (refine step_napp (by rfl) _ _ _ (by rfl) Try.underlying75 base v (fun q => if q < m * 8 then D q else V (q - m * 8)) m (by rfl) ((h9.below (by exact bel_a)).congr (fun q hq => (if_pos hq).symm)).nl w9.heap.size (by first | rfl | (simp [*]; done) | (go_simp; done)) (by rw [nd8_new]; intro i hi; rcases (show i = 0 ∨ i = 1 ∨ i = 2 ∨ i = 3 ∨ i = 4 ∨ i = 5 ∨ i = 6 ∨ i = 7 by omega) with rfl | rfl | rfl | rfl | rfl | rfl | rfl | rfl <;> go_simp) (by omega) (by first | omega | (simp; done) | (simp; omega)) ?_
     intro g7 c7 w7 ho7 hg7
     have e7 : ∀ k, k < base → w7.heap[k]? = w9.heap[k]? := fun k hk => (hg7.block k (by first | omega | (simp; done) | (simp; omega)) (fun e => by have := (h9.nl.lt k e.symm).1; omega)).trans ((bel_a : Below w9.heap.size w9 _).block k (by omega))
     have m7 : w7.os = w9.os ∧ w7.tape = w9.tape ∧ w7.output = w9.output ∧ w9.heap.size ≤ w7.heap.size := ⟨hg7.os, hg7.tape, hg7.output, Nat.le_trans (by first | omega | (simp; done) | (simp; omega)) hg7.size⟩
     have z7 := (World.cell?_of_block (a := ⟨tb, 0, none⟩) (e7 tb htb)).trans h9.c0
     have y7 := (World.cell?_of_block (a := ⟨tb, 1, none⟩) (e7 tb htb)).trans h9.c1
     have x7 := (World.frozen?_of_block (a := ⟨tb, 1, none⟩) (e7 tb htb)).trans h9.f1
     refine tr hK (fun hHeld => ?_) trivial
     clear hK K)
    refine tq 8 hHeld ?_
    refine tq 9 hHeld ?_
    refine tc 10 fun K hK => ?_
    (go_simp; refine tr hK (fun hHeld => ?_) trivial; clear hK K)
    refine wpAnyH_done (by kernel_rfl) ?_ _
    have hT := TW.put z7 y7 x7 ho7 htb
    have hT1 := hT.c1
    go_wp2_with fail
    go_ret
    exact ⟨rfl, _, hT.below (by exact bel_a), fun k h1 h2 => (Below.heap_setCell w7 ⟨tb, 1, none⟩ _ k h2).trans ((e7 k h1).trans (hE.block k (by omega))), m7.1.trans hE.os, m7.2.1.trans hE.tape, m7.2.2.1.trans hE.output, Nat.le_trans hE.size (Nat.le_trans m7.2.2.2 (by simp))⟩
  · (go_simp; refine tr hK (fun hHeld => ?_) trivial; clear hK K)
    refine wpAnyH_ready (rs := [4, 6]) (by kernel_rfl) (by simp) ?_
    refine AllReadyH.cons rfl (fun K hK => ?_) (AllReadyH.cons rfl (fun K hK => ?_) AllReadyH.nil)
    · (go_simp; refine tr hK (fun hHeld => ?_) trivial; clear hK K)
      refine tc 6 fun K hK => ?_
      (go_simp; refine tr hK (fun hHeld => ?_) trivial; clear hK K)
      refine tc 7 fun K hK => ?_
      (refine step_napp (by rfl) _ _ _ (by rfl) Try.underlying75 base v (fun q => if q < m * 8 then D q else V (q - m * 8)) m (by rfl) ((h9.below (by exact bel_a)).congr (fun q hq => (if_pos hq).symm)).nl w9.heap.size (by first | rfl | (simp [*]; done) | (go_simp; done)) (by rw [nd8_new]; intro i hi; rcases (show i = 0 ∨ i = 1 ∨ i = 2 ∨ i = 3 ∨ i = 4 ∨ i = 5 ∨ i = 6 ∨ i = 7 by omega) with rfl | rfl | rfl | rfl | rfl | rfl | rfl | rfl <;> go_simp) (by omega) (by first | omega | (simp; done) | (simp; omega)) ?_
       intro g7 c7 w7 ho7 hg7
       have e7 : ∀ k, k < base → w7.heap[k]? = w9.heap[k]? := fun k hk => (hg7.block k (by first | omega | (simp; done) | (simp; omega)) (fun e => by have := (h9.nl.lt k e.symm).1; omega)).trans ((bel_a : Below w9.heap.size w9 _).block k (by omega))
       have m7 : w7.os = w9.os ∧ w7.tape = w9.tape ∧ w7.output = w9.output ∧ w9.heap.size ≤ w7.heap.size := ⟨hg7.os, hg7.tape, hg7.output, Nat.le_trans (by first | omega | (simp; done) | (simp; omega)) hg7.size⟩
       have z7 := (World.cell?_of_block (a := ⟨tb, 0, none⟩) (e7 tb htb)).trans h9.c0
       have y7 := (World.cell?_of_block (a := ⟨tb, 1, none⟩) (e7 tb htb)).trans h9.c1
       have x7 := (World.frozen?_of_block (a := ⟨tb, 1, none⟩) (e7 tb htb)).trans h9.f1
       refine tr hK (fun hHeld => ?_) trivial
       clear hK K)
      refine tq 8 hHeld ?_
      refine tq 9 hHeld ?_
      refine tc 10 fun K hK => ?_
      (go_simp; refine tr hK (fun hHeld => ?_) trivial; clear hK K)
      refine wpAnyH_done (by kernel_rfl) ?_ _
      have hT := TW.put z7 y7 x7 ho7 htb
      have hT1 := hT.c1
      go_wp2_with fail
      go_ret
      exact ⟨rfl, _, hT.below (by exact bel_a), fun k h1 h2 => (Below.heap_setCell w7 ⟨tb, 1, none⟩ _ k h2).trans ((e7 k h1).trans (hE.block k (by omega))), m7.1.trans hE.os, m7.2.1.trans hE.tape, m7.2.2.1.trans hE.output, Nat.le_trans hE.size (Nat.le_trans m7.2.2.2 (by simp))⟩
    · (go_simp; refine tr hK (fun hHeld => ?_) trivial; clear hK K)
      refine tc 4 fun K hK => ?_
      (go_simp; refine tr hK (fun hHeld => ?_) trivial; clear hK K)
      refine tc 7 fun K hK => ?_
      (refine step_napp (by rfl) _ _ _ (by rfl) Try.underlying75 base v (fun q => if q < m * 8 then D q else V (q - m * 8)) m (by rfl) ((h9.below (by exact bel_a)).congr (fun q hq => (if_pos hq).symm)).nl w9.heap.size (by first | rfl | (simp [*]; done) | (go_simp; done)) (by rw [nd8_new]; intro i hi; rcases (show i = 0 ∨ i = 1 ∨ i = 2 ∨ i = 3 ∨ i = 4 ∨ i = 5 ∨ i = 6 ∨ i = 7 by omega) with rfl | rfl | rfl | rfl | rfl | rfl | rfl | rfl <;> go_simp) (by omega) (by first | omega | (simp; done) | (simp; omega)) ?_
       intro g7 c7 w7 ho7 hg7
       have e7 : ∀ k, k < base → w7.heap[k]? = w9.heap[k]? := fun k hk => (hg7.block k (by first | omega | (simp; done) | (simp; omega)) (fun e => by have := (h9.nl.lt k e.symm).1; omega)).trans ((bel_a : Below w9.heap.size w9 _).block k (by omega))
       have m7 : w7.os = w9.os ∧ w7.tape = w9.tape ∧ w7.output = w9.output ∧ w9.heap.size ≤ w7.heap.size := ⟨hg7.os, hg7.tape, hg7.output, Nat.le_trans (by first | omega | (simp; done) | (simp; omega)) hg7.size⟩
       have z7 := (World.cell?_of_block (a := ⟨tb, 0, none⟩) (e7 tb htb)).trans h9.c0
       have y7 := (World.cell?_of_block (a := ⟨tb, 1, none⟩) (e7 tb htb)).trans h9.c1
       have x7 := (World.frozen?_of_block (a := ⟨tb, 1, none⟩) (e7 tb htb)).trans h9.f1
       refine tr hK (fun hHeld => ?_) trivial
       clear hK K)
      refine tq 8 hHeld ?_
      refine tq 9 hHeld ?_
      refine tc 10 fun K hK => ?_
      (go_simp; refine tr hK (fun hHeld => ?_) trivial; clear hK K)
      refine wpAnyH_done (by kernel_rfl) ?_ _
      have hT := TW.put z7 y7 x7 ho7 htb
      have hT1 := hT.c1
      go_wp2_with fail
      go_ret
      exact ⟨rfl, _, hT.below (by exact bel_a), fun k h1 h2 => (Below.heap_setCell w7 ⟨tb, 1, none⟩ _ k h2).trans ((e7 k h1).trans (hE.block k (by omega))), m7.1.trans hE.os, m7.2.1.trans hE.tape, m7.2.2.1.trans hE.output, Nat.le_trans hE.size (Nat.le_trans m7.2.2.2 (by simp))⟩
end Go.Proofs.Ytbngdlbecdloiaa
