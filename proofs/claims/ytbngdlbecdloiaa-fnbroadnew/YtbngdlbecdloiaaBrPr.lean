/- All two that meet, told one by one. -/
import Derived.Test.YtbngdlbecdloiaaBrMt
import Derived.Test.YtbngdlbecdloiaaRfS
import Derived.Test.YtbngdlbecdloiaaB7
import Derived.Test.YtbngdlbecdloiaaB3
import Derived.LoopNIn
import Derived.LoopIn
import Derived.OwnWalkIn
import Derived.Shelf.Abstract
import Derived.Deep.DeepCutAuto
set_option maxHeartbeats 16000000
set_option maxRecDepth 20000
namespace Go.Proofs.Ytbngdlbecdloiaa
open Go.RowKit Go.Shelf
set_option linter.unusedVariables false
set_option linter.unusedSimpArgs false
def bpIn (N : Nat) (U : Nat → Int) (i : Nat) : List Nat := (List.range N).filter (Mt U (U (i * 5 + 1)) (U (i * 5 + 2)) (U (i * 5 + 3)) (U (i * 5 + 4)))
def bpOf (i : Nat) (l : List Nat) : List (Nat × Nat) := (l.filter (fun j => decide (i < j))).map (fun j => (i, j))
def bpL (N : Nat) (U : Nat → Int) : Nat → List (Nat × Nat)
  | 0 => []
  | i + 1 => bpL N U i ++ bpOf i (bpIn N U i)
theorem bpL_pre (N : Nat) (U : Nat → Int) {i : Nat} : ∀ {m : Nat}, i ≤ m → ∃ r, bpL N U m = bpL N U i ++ r
  | 0, h => ⟨[], by obtain rfl : i = 0 := (by omega); simp⟩
  | m + 1, h => by
    by_cases e : i = m + 1
    · subst e; exact ⟨[], by simp⟩
    · obtain ⟨r, hr⟩ := bpL_pre N U (m := m) (i := i) (by omega)
      exact ⟨r ++ bpOf m (bpIn N U m), by rw [bpL, hr, List.append_assoc]⟩
theorem bpOf_next {i p j : Nat} {l : List Nat} (h : l[p]? = some j) : bpOf i (l.take (p + 1)) = bpOf i (l.take p) ++ (if i < j then [(i, j)] else []) := by
  rw [List.take_add_one, h]
  unfold bpOf
  rw [List.filter_append, List.map_append]
  congr 1
  by_cases e : i < j <;> simp [List.filter, e]
theorem bpOf_at {N : Nat} {U : Nat → Int} {i p j : Nat} (hi : i < N) (h : (bpIn N U i)[p]? = some j) (hj : i < j) : (bpL N U N)[(bpL N U i ++ bpOf i ((bpIn N U i).take p)).length]? = some (i, j) := by
  obtain ⟨r, hr⟩ := bpL_pre N U (i := i + 1) (m := N) (by omega)
  have hl : p < (bpIn N U i).length := (List.getElem?_eq_some_iff.1 h).1
  have e : bpIn N U i = (bpIn N U i).take (p + 1) ++ (bpIn N U i).drop (p + 1) := (List.take_append_drop _ _).symm
  have e2 : bpOf i (bpIn N U i) = bpOf i ((bpIn N U i).take p) ++ ([(i, j)] ++ bpOf i ((bpIn N U i).drop (p + 1))) := by
    have : bpOf i (bpIn N U i) = bpOf i ((bpIn N U i).take (p + 1)) ++ bpOf i ((bpIn N U i).drop (p + 1)) := by
      unfold bpOf
      rw [← List.map_append, ← List.filter_append, List.take_append_drop]
    rw [this, bpOf_next h, if_pos hj, List.append_assoc]
  rw [hr, bpL, e2, ← List.append_assoc, List.append_assoc, List.getElem?_append_right (Nat.le_refl _), Nat.sub_self]
  rfl
/-- the tree and its boxes, while it is asked -/
def PrC (tb N ci base : Nat) (ai : Option Addr) (U : Nat → Int) (v : Value) (A : World) : Prop :=
  Flat A ai (N * 5) U ∧ A.cell? ⟨tb, 0, none⟩ = some (.slice ai N ci) ∧ A.cell? ⟨tb, 1, none⟩ = some v ∧ Tree A base N U v
def PrE (N : Nat) (U : Nat → Int) (H : Nat → Prop) (k : Nat) (args : Array Value) (A : World) : Prop :=
  (∃ i j, (bpL N U N)[k]? = some (i, j) ∧ args = #[.agg #[.int .i64 (U (i * 5)), .int .i64 (U (j * 5))]]) ∧ ∀ b, H b → b < A.heap.size
def PrR (A : World) (lo hi : Nat) (ar : Option Addr) (nr : Nat) (l : List Nat) : Prop :=
  ∀ (q j : Nat), l[q]? = some j → ∃ g, ar = some ⟨g, 0, none⟩ ∧ lo ≤ g ∧ g < hi ∧ A.cell? ⟨g, q, none⟩ = some (.int .i64 (j : Int))
theorem PrR.kcs {A A' : World} {B lo hi nr : Nat} {ar : Option Addr} {l : List Nat} (h : PrR A lo hi ar nr l) (k : Kcs B (fun b => lo ≤ b ∧ b < hi) A A') (hB : B ≤ lo) : PrR A' lo hi ar nr l := fun q j hq => by
  obtain ⟨g, e, h1, h2, hc⟩ := h q j hq
  exact ⟨g, e, h1, h2, k.cell hc (by show B ≤ g; omega) ⟨h1, h2⟩⟩
theorem PrR.of_li {A : World} {lo nr cr : Nat} {ar : Option Addr} {l : List Nat} (h : LI A lo (.slice ar nr cr) nr (l.map Int.ofNat)) : PrR A lo A.heap.size ar nr l := fun q j hq => by
  have hl : q < l.length := (List.getElem?_eq_some_iff.1 hq).1
  have hj := (List.getElem?_eq_some_iff.1 hq).2
  rcases h.is with ⟨e, -, -⟩ | ⟨g, c, e, -⟩
  · have : l.map Int.ofNat = [] := e
    rw [List.map_eq_nil_iff] at this
    subst this; simp at hl
  · cases e
    have hb := h.lt g rfl
    have hc := h.cell (q := q) (by simpa using hl)
    refine ⟨g, rfl, hb.1, hb.2, hc.trans ?_⟩
    rw [List.getElem_map, hj]
    rfl
theorem pairs_enters : ∀ args w, (callFunc 49 args).run Try.prog w = .ok (.enter 49 args) w := enters_of Try.func49 (by kernel_rfl) rfl
set_option maxRecDepth 20000 in
set_option maxHeartbeats 4000000 in
theorem pairs_it (tb N ci base : Nat) (ai : Option Addr) (U : Nat → Int) (v : Value) (w : World) (hN : N ≤ 24) :
    ItGs Try.prog 49 #[.pointer (some ⟨tb, 0, none⟩)] (PrC tb N ci base ai U v) (PrE N U) (bpL N U N).length w := by
  intro l J W hbW hJ hJc hJ0 hY
  have hset := cset_map
  refine callsIn_of_wp Try.func49 rfl trivial ?_ rfl
  simp only [Try.ntmps49, List.size_toArray, List.length_cons, List.length_nil, Nat.reduceAdd, Nat.reduceSub, Array.replicate_succ, Array.replicate_zero, List.push_toArray, List.append_toArray, List.nil_append, List.cons_append]
  have hJs := hJ0 (fun _ => False) W (Below.refl _ _) (fun _ h => h.elim)
  have c0 := (hJc _ _ _ hJs).2.1
  gi_wp2
  clear c0
  gi_loopw [4, 5, 7, 13] (fun _ _ _ i wr => ∃ (k : Nat) (S : Nat → Prop), k ≤ N ∧ i = .int .i64 (k : Int) ∧ J S (bpL N U k).length wr ∧ W.heap.size ≤ wr.heap.size) (fun _ _ _ i _ => N - (intOf i).toNat)
  case atStart => exact ⟨0, _, Nat.zero_le _, rfl, hJs, Nat.le_refl _⟩
  case round =>
    clear hJs
    obtain ⟨k, S, hk, rfl, hJk, hsz⟩ := hrel
    by_cases hlt : k < N
    · obtain ⟨hF, t0, t1, hT⟩ := hJc _ _ _ hJk
      obtain ⟨g, o, rfl, hg, hc⟩ := hF (by omega)
      have e0 := hc (k * 5) (by omega)
      have e1 := hc (k * 5 + 1) (by omega)
      have e2 := hc (k * 5 + 2) (by omega)
      have e3 := hc (k * 5 + 3) (by omega)
      have e4 := hc (k * 5 + 4) (by omega)
      gi_upto_region 2 with fail
      gi_cut [4, 5] from 14 (fun si sx wc => ∃ bx, si = .int .i64 (k : Int) ∧ sx = .pointer (some ⟨bx, 0, none⟩) ∧ wr.heap.size ≤ bx ∧ bx < wc.heap.size ∧ Below wr.heap.size wr wc ∧ wc.cell? ⟨bx, 0, none⟩ = some (.int .i64 (U (k * 5))) ∧ wc.cell? ⟨bx, 1, none⟩ = some (.int .i64 (U (k * 5 + 1))) ∧ wc.cell? ⟨bx, 2, none⟩ = some (.int .i64 (U (k * 5 + 2))) ∧ wc.cell? ⟨bx, 3, none⟩ = some (.int .i64 (U (k * 5 + 3))) ∧ wc.cell? ⟨bx, 4, none⟩ = some (.int .i64 (U (k * 5 + 4))))
      case first =>
        gi_wp2
        gi_meet
        exact ⟨wr.heap.size, rfl, rfl, Nat.le_refl _, by simp, bel_a, by go_simp, by go_simp, by go_simp, by go_simp, by go_simp⟩
      case rest =>
      obtain ⟨bx, rfl, rfl, hx1, hx2, hb1, x0, x1, x2, x3, x4⟩ := hcut
      clear e0 e1 e2 e3 e4 hc
      gi_upto_region 3 with fail
      gi_cut [22, 23, 24] from 14 (fun s22 s23 s24 wd => ∃ ar nr cr, s22 = .slice ar nr cr ∧ s23 = .int .i64 (nr : Int) ∧ s24 = .int .i64 0 ∧ nr = (bpIn N U k).length ∧ Below wr.heap.size wr wd ∧ wd.cell? ⟨bx, 0, none⟩ = some (.int .i64 (U (k * 5))) ∧ bx < wd.heap.size ∧ PrR wd wr.heap.size wd.heap.size ar nr (bpIn N U k))
      case first =>
        gi_wp2_with (first
          | (refine ⟨trivial, rfl, ?_⟩; gi_at_call 48; refine (callsIn_wide.2 (spanOf_any _ _ _ _ _)).mono ?_; rintro e w5 ⟨rfl, hb5⟩)
          | (refine ⟨trivial, rfl, ?_⟩; gi_at_call 47; refine (callsIn_wide.2 (meeting_any base tb _ N ci U v _ _ _ _ _ (hF.below (hb1.trans (hb5.mono hb1.size))) (keepc hb5 ((hb1.cell (p := ⟨tb, 0, none⟩) (cell_lt t0)).trans t0)) (keepc hb5 ((hb1.cell (p := ⟨tb, 1, none⟩) (cell_lt t1)).trans t1)) ((hT.below hb1).below hb5) hN)).mono ?_; rintro e w6 ⟨r, nr, zs, rfl, hL6, rfl, hb6⟩; obtain ⟨ar, cr, rfl⟩ := hL6.form))
        gi_meet
        have hb56 := hb1.trans ((hb5.trans (hb6.mono hb5.size)).mono hb1.size)
        have hs6 := hb56.size
        refine ⟨_, _, _, rfl, rfl, rfl, ?_, hb56, ?_, ?_, ?_⟩
        · exact hL6.1.symm.trans (by rw [List.length_map]; rfl)
        · exact (hb6.cell (p := ⟨bx, 0, none⟩) (Nat.lt_of_lt_of_le hx2 hb5.size)).trans ((hb5.cell (p := ⟨bx, 0, none⟩) hx2).trans x0)
        · exact Nat.lt_of_lt_of_le hx2 (Nat.le_trans hb5.size hb6.size)
        · exact fun q j hq => by
            obtain ⟨gq, eq, l1, l2, lc⟩ := PrR.of_li hL6 q j hq
            have := hb5.size
            have := hb1.size
            exact ⟨gq, eq, by omega, l2, lc⟩
      case rest =>
      clear hb1 x0 x1 x2 x3 x4 hx2
      obtain ⟨ar, nr, cr, rfl, rfl, rfl, hnr, hb1, x0, hx2, hR⟩ := hcut
      have hsd := hb1.size
      have hJ2 := hJ S (fun b => wr.heap.size ≤ b ∧ b < wc.heap.size) _ _ _ hJk (Kxs.of_below hb1 hsz) (fun b h => .inr h.1)
      have hJ3 : J (fun b => wr.heap.size ≤ b ∧ b < wc.heap.size) (bpL N U k ++ bpOf k ((bpIn N U k).take 0)).length wc := by
        have : bpOf k ((bpIn N U k).take 0) = [] := rfl
        rw [this, List.append_nil]; exact hJ2
      clear hJ2 hJk hF t0 t1 hT hb1 hg
      generalize hlo : wr.heap.size = lo at hR hJ3 hx1 hsz hsd
      generalize hhi : wc.heap.size = hi at hR hJ3 hx2 hsd
      gi_wp2
      gi_loopw [7, 24] (fun _ i wq => ∃ p : Nat, p ≤ nr ∧ i = .int .i64 (p : Int) ∧ J (fun b => lo ≤ b ∧ b < hi) (bpL N U k ++ bpOf k ((bpIn N U k).take p)).length wq ∧ PrR wq lo hi ar nr (bpIn N U k) ∧ wq.cell? ⟨bx, 0, none⟩ = some (.int .i64 (U (k * 5))) ∧ hi ≤ wq.heap.size) (fun _ i _ => nr - (intOf i).toNat)
      case atStart => exact ⟨0, Nat.zero_le _, rfl, hJ3, hR, x0, by omega⟩
      case round =>
        clear hJ3 hR x0
        obtain ⟨p, hp, rfl, hJp, hR, x0, hsq⟩ := hrel
        by_cases hpl : p < nr
        · have hpn : p < (bpIn N U k).length := by omega
          obtain ⟨j, hj⟩ : ∃ j, (bpIn N U k)[p]? = some j := ⟨_, List.getElem?_eq_getElem hpn⟩
          obtain ⟨gr, rfl, hg1, hg2, hrc⟩ := hR p j hj
          have hjN : j < N := by
            have := List.mem_of_getElem? hj
            unfold bpIn at this
            rw [List.mem_filter, List.mem_range] at this
            exact this.1
          obtain ⟨hF, t0, t1, hT⟩ := hJc _ _ _ hJp
          obtain ⟨g', o', e', hg', hc⟩ := hF (by omega)
          cases e'
          have y0 := hc (j * 5) (by omega)
          have hnx := bpOf_next (i := k) hj
          have hpN : p + 1 ≤ 24 := by have : (bpIn N U k).length ≤ (List.range N).length := List.length_filter_le _ _; rw [List.length_range] at this; omega
          by_cases hkj : k < j
          · have d1 : decide (k < j) = true := decide_eq_true hkj
            have d2 : decide ((k : Int) < (j : Int)) = true := decide_eq_true (by omega)
            have hat := bpOf_at hlt hj hkj
            rw [if_pos hkj] at hnx
            have hD : Below wr.heap.size wr wr.drew := Below.drew (Below.refl _ _)
            have hJd := hJ _ _ _ _ _ hJp (Kxs.of_below (B := W.heap.size) hD (by omega)) (Gr.refl _ _)
            have hyy := hY _ _ _ _ hJd (List.getElem?_eq_some_iff.1 hat).1 ⟨⟨k, j, hat, rfl⟩, fun b hb => by have := hb.2; show b < wr.heap.size; omega⟩
            gi_upto_region 6 with fail
            refine regionIn_held (fun w' => w'.cell? ⟨bx, 0, none⟩ = some (.int .i64 (U (k * 5))) ∧ w'.cell? ⟨tb, 0, none⟩ = some (.slice (some ⟨g, o, none⟩) N ci) ∧ w'.cell? ⟨g, o + j * 5, none⟩ = some (.int .i64 (U (j * 5)))) (by kernel_rfl) ⟨x0, t0, y0⟩ (fun hHeld => ?_)
            refine ti 0 hHeld ?_
            refine ti 1 hHeld ?_
            refine ti 2 hHeld ?_
            refine ti 3 hHeld ?_
            refine ti 4 hHeld ?_
            refine ti 5 hHeld ?_
            refine ti 6 hHeld ?_
            refine ti 7 hHeld ?_
            refine ti 8 hHeld ?_
            refine ti 9 hHeld ?_
            refine ti 10 hHeld ?_
            refine ti 11 hHeld ?_
            refine ti 12 hHeld ?_
            refine ti 13 hHeld ?_
            refine ti 14 hHeld ?_
            refine ti 15 hHeld ?_
            refine tci 16 (opIn_yields (v0 := .agg #[.int .i64 (U (k * 5)), .int .i64 (U (j * 5))]) rfl (by kernel_rfl) rfl rfl rfl rfl hyy rfl rfl ?_)
            rintro e X3 ⟨rfl, hJ3, hKc⟩
            obtain ⟨hF3, s0, s1, hT3⟩ := hJc _ _ _ hJ3
            obtain ⟨g3, o3, e3, hg3, hc3⟩ := hF3 (by omega)
            cases e3
            have r0 := hKc.cell (p := ⟨bx, 0, none⟩) x0 (by show W.heap.size ≤ bx; omega) ⟨hx1, hx2⟩
            have hHeld2 : X3.cell? ⟨bx, 0, none⟩ = some (.int .i64 (U (k * 5))) ∧ X3.cell? ⟨tb, 0, none⟩ = some (.slice (some ⟨g, o, none⟩) N ci) ∧ X3.cell? ⟨g, o + j * 5, none⟩ = some (.int .i64 (U (j * 5))) := ⟨r0, s0, hc3 _ (by omega)⟩
            refine ⟨_, rfl, hHeld2, ?_⟩
            refine ti 17 hHeld2 ?_
            refine ti 18 hHeld2 ?_
            refine anyIH_done ?_ (by kernel_rfl) _
            clear hHeld hHeld2
            gi_wp2
            go_roundw
            case rel => exact ⟨p + 1, by omega, by go_num, by rw [hnx, ← List.append_assoc, List.length_append]; exact hJ3, (show PrR wr.drew _ _ _ _ _ from hR).kcs hKc (by omega), r0, by have := hKc.others.size; simp at this; omega⟩
            case measure => simp [intOf]; omega
          · have d1 : decide (k < j) = false := decide_eq_false hkj
            have d2 : decide ((k : Int) < (j : Int)) = false := decide_eq_false (by omega)
            rw [if_neg hkj, List.append_nil] at hnx
            gi_upto_region 6 with fail
            refine regionIn_held (fun w' => w'.cell? ⟨bx, 0, none⟩ = some (.int .i64 (U (k * 5))) ∧ w'.cell? ⟨tb, 0, none⟩ = some (.slice (some ⟨g, o, none⟩) N ci) ∧ w'.cell? ⟨g, o + j * 5, none⟩ = some (.int .i64 (U (j * 5)))) (by kernel_rfl) ⟨x0, t0, y0⟩ (fun hHeld => ?_)
            refine ti 0 hHeld ?_
            refine ti 1 hHeld ?_
            refine ti 2 hHeld ?_
            refine ti 3 hHeld ?_
            refine tni 4 hHeld ?_
            refine tni 5 hHeld ?_
            refine tni 6 hHeld ?_
            refine tni 7 hHeld ?_
            refine tni 8 hHeld ?_
            refine tni 9 hHeld ?_
            refine tni 10 hHeld ?_
            refine tni 11 hHeld ?_
            refine tni 12 hHeld ?_
            refine tni 13 hHeld ?_
            refine tni 14 hHeld ?_
            refine tni 15 hHeld ?_
            refine tni 16 hHeld ?_
            refine tni 17 hHeld ?_
            refine ti 18 hHeld ?_
            refine anyIH_done ?_ (by kernel_rfl) _
            clear hHeld
            have hJd := hJ _ _ _ _ _ hJp (Kxs.of_below (B := W.heap.size) (Below.drew (Below.refl _ wr)) (by omega)) (Gr.refl _ _)
            gi_wp2
            go_roundw
            case rel => exact ⟨p + 1, by omega, by go_num, by rw [hnx]; exact hJd, hR, x0, hsq⟩
            case measure => simp [intOf]; omega
        · obtain rfl : p = nr := by omega
          gi_wp2
          go_roundw
          case rel =>
            refine ⟨k + 1, fun b => lo ≤ b ∧ b < hi, by omega, by go_num, ?_, by omega⟩
            rw [bpL]
            rwa [hnr, List.take_length] at hJp
          case measure => simp [intOf]; omega
    · obtain rfl : k = N := by omega
      gi_wp2
      go_end0
      exact ⟨⟨_, rfl⟩, S, hJk⟩
end Go.Proofs.Ytbngdlbecdloiaa
