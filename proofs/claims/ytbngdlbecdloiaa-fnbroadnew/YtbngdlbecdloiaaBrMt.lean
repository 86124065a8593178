/- What a tree finds. -/
import Derived.Test.YtbngdlbecdloiaaB32
import Derived.Test.YtbngdlbecdloiaaBrGo
import Derived.Deep.RegionHeld3
import Derived.Deep.DeepCutAuto
set_option maxHeartbeats 16000000
set_option maxRecDepth 20000
namespace Go.Proofs.Ytbngdlbecdloiaa
open Go.RowKit
set_option linter.unusedVariables false
set_option linter.unusedSimpArgs false
def Mt (U : Nat → Int) (a b c d : Int) (i : Nat) : Bool := leB (U (i * 5 + 1)) (U (i * 5 + 2)) c d && leB a b (U (i * 5 + 3)) (U (i * 5 + 4))
def stk (zs : List Int) : List Nat := zs.reverse.map Int.toNat
theorem stk_two (zs : List Int) (l r : Int) : stk (zs ++ [l, r]) = r.toNat :: l.toNat :: stk zs := by simp [stk]
theorem stk_last {zs : List Int} {n : Nat} (h : zs.length = n + 1) (hn : n < zs.length) : stk zs = zs[n].toNat :: stk (zs.take n) := by
  have e : zs = zs.take n ++ [zs[n]] := by
    have := List.take_append_getElem hn
    rw [this, List.take_of_length_le (by omega)]
  have : stk zs = stk (zs.take n ++ [zs[n]]) := by rw [← e]
  rw [this]
  simp only [stk, List.reverse_append, List.reverse_singleton, List.singleton_append, List.map_cons]
theorem Covs.len {T : Tab4} : ∀ {o : List Nat} {cs : List (List Nat)}, Covs T o cs → o.length ≤ todo cs
  | _, _, .nil => Nat.le_refl _
  | _, _, .cons hk ho => by
    have := hk.pos
    have := ho.len
    simp only [todo, List.length_cons]
    omega
theorem leB_t {x y u v : Int} (h : leB x y u v = true) : x ≤ u ∧ y ≤ v := of_decide_eq_true h
/-- what does not meet a node meets nothing under it -/
theorem Good.skip {N : Nat} {U : Nat → Int} {m : Nat} {D : Nat → Int} (h : Good N U m D) {a b c d : Int} {k : Nat} (hk : k < m) (hn : (leB (D (k * 8)) (D (k * 8 + 1)) c d && leB a b (D (k * 8 + 2)) (D (k * 8 + 3))) = false) :
    ∀ l, Cov (tab D) k l → ∀ i ∈ l, Mt U a b c d i = false := by
  intro l hl i hi
  obtain ⟨⟨q1, q2, q3, q4⟩, -⟩ := h.cov hl hk i hi
  cases hM : Mt U a b c d i with
  | false => rfl
  | true =>
    unfold Mt at hM
    rw [Bool.and_eq_true] at hM
    obtain ⟨m1, m2⟩ := leB_t hM.1
    obtain ⟨m3, m4⟩ := leB_t hM.2
    have : (leB (D (k * 8)) (D (k * 8 + 1)) c d && leB a b (D (k * 8 + 2)) (D (k * 8 + 3))) = true := by
      rw [Bool.and_eq_true]
      exact ⟨decide_eq_true ⟨by omega, by omega⟩, decide_eq_true ⟨by omega, by omega⟩⟩
    rw [this] at hn; cases hn
/-- found, and put in order -/
theorem sorted_eq {M : Nat → Bool} {N : Nat} {c : List Nat} {fs : List Int} (hc : c.Perm (List.range N)) (hf : (fs.map Int.toNat).Perm (c.filter M)) (h0 : ∀ z ∈ fs, 0 ≤ z) :
    (fs.mergeSort fun x y => decide (x ≤ y)) = ((List.range N).filter M).map Int.ofNat := by
  have hp := List.mergeSort_perm fs fun x y => decide (x ≤ y)
  have hs : (fs.mergeSort fun x y => decide (x ≤ y)).Pairwise (fun x y => x ≤ y) := by
    have := List.pairwise_mergeSort (le := fun (x y : Int) => decide (x ≤ y)) (fun a b c h1 h2 => by simp only [decide_eq_true_eq] at *; omega) (fun a b => by simp only [Bool.or_eq_true, decide_eq_true_eq]; omega) fs
    exact this.imp (fun h => of_decide_eq_true h)
  have h0' : ∀ z ∈ (fs.mergeSort fun x y => decide (x ≤ y)), 0 ≤ z := fun z hz => h0 z (hp.subset hz)
  have he := found_eq (M := M) (n := N) (c := c) (found := fs.map Int.toNat) (out := (fs.mergeSort fun x y => decide (x ≤ y)).map Int.toNat) hc hf (hp.map _) (by
    rw [List.pairwise_map]
    refine hs.imp_of_mem ?_
    intro x y hx hy hxy
    have := h0' x hx
    have := h0' y hy
    omega)
  rw [← he, List.map_map]
  conv => lhs; rw [← List.map_id (fs.mergeSort fun x y => decide (x ≤ y))]
  apply List.map_congr_left
  intro z hz
  have := h0' z hz
  simp only [id, Function.comp]
  exact (Int.toNat_of_nonneg this).symm
set_option maxRecDepth 20000 in
set_option maxHeartbeats 1000000 in
theorem meeting_nil (tb : Nat) (ai : Option Addr) (ci : Nat) (a b c d : Int) (w : World) (c1 : w.cell? ⟨tb, 1, none⟩ = some (.slice none 0 0)) :
    Calls Try.prog 47 #[.pointer (some ⟨tb, 0, none⟩), b4 a b c d] w fun e w' => e = .returned (.slice none 0 0) ∧ Below w.heap.size w w' := by
  have hset := cset_map
  have l1 := cell_lt c1
  simp only at l1
  go_enter Try.func47, Try.ntmps47
  go_wp2
  refine wp_loop_rounds 1 ?_
  rw [rounds_succ]
  go_wp2_with (go_at_call 65; refine (Any.slices_Sort_int_none lays189 none 0 _).mono ?_; rintro e w9 ⟨rfl, rfl⟩)
  go_ret
  exact ⟨rfl, bel_a⟩
theorem LI.base {w : World} {base n : Nat} {v : Value} {zs : List Int} {B : Nat} (h : LI w base v n zs) (hB : B ≤ base) : LI w B v n zs := by
  refine ⟨h.1, h.2.1, ?_⟩
  rcases h.2.2 with q | ⟨g, cap, cur, hv, hb, rest⟩
  · exact .inl q
  · exact .inr ⟨g, cap, cur, hv, by omega, rest⟩
theorem one_li {w : World} {b : Nat} {z : Int} (h : w.cell? ⟨b, 0, none⟩ = some (.int .i64 z)) : ∀ j u, [z][j]? = some u → w.cell? ⟨b, j, none⟩ = some (.int .i64 u)
  | 0, u, e => by simp only [List.getElem?_cons_zero, Option.some.injEq] at e; subst e; exact h
  | j + 1, u, e => by simp at e
theorem two_li {w : World} {b : Nat} {y z : Int} (h : w.cell? ⟨b, 0, none⟩ = some (.int .i64 y)) (k : w.cell? ⟨b, 1, none⟩ = some (.int .i64 z)) : ∀ j u, [y, z][j]? = some u → w.cell? ⟨b, j, none⟩ = some (.int .i64 u)
  | 0, u, e => by simp only [List.getElem?_cons_zero, Option.some.injEq] at e; subst e; exact h
  | 1, u, e => by simp only [List.getElem?_cons_succ, List.getElem?_cons_zero, Option.some.injEq] at e; subst e; exact k
  | j + 2, u, e => by simp at e
theorem LI.form {w : World} {base n : Nat} {v : Value} {zs : List Int} (h : LI w base v n zs) : ∃ a c, v = .slice a n c := by
  rcases h.is with ⟨_, rfl, rfl⟩ | ⟨g, c, rfl, _⟩ <;> exact ⟨_, _, rfl⟩
theorem two_own {w2 w3 : World} {B n g : Nat} {x y : Value} {zs : List Int} (lx : LI w2 B x n zs) (ne : x.ownBlock = none ∨ x.ownBlock ≠ y.ownBlock) (hg : w2.grownBy w3 y.ownBlock) (hgo : y.ownBlock = some g ∨ g = w2.heap.size) :
    LI w3 B x n zs ∧ (x.ownBlock = none ∨ x.ownBlock ≠ some g) := by
  refine ⟨lx.kept hg ne, ?_⟩
  rcases ne with q | q
  · exact .inl q
  · rcases hgo with e | e
    · exact .inr (e ▸ q)
    · refine .inr fun e2 => ?_
      have := (lx.lt _ e2).2
      omega
theorem ne_sym {x y : Option Nat} (h : x = none ∨ x ≠ y) : y = none ∨ y ≠ x := by
  rcases h with rfl | h
  · cases y with
    | none => exact .inl rfl
    | some k => exact .inr (by simp)
  · exact .inr (Ne.symm h)
set_option maxRecDepth 20000 in
set_option maxHeartbeats 1000000 in
/-- what the search keeps -/
structure Mee (w1 : World) (B : Nat) (T : Tab4) (M : Nat → Bool) (want : List Nat) (m g : Nat) (vf vo : Value) (nf : Nat) (fs : List Int) (no : Nat) (os : List Int) (cs : List (List Nat)) (wr : World) : Prop where
  lf : LI wr B vf nf fs
  lo : LI wr B vo no os
  ne : vf.ownBlock = none ∨ vf.ownBlock ≠ vo.ownBlock
  bel : Below w1.heap.size w1 wr
  f0 : ∀ z ∈ fs, 0 ≤ z
  o0 : ∀ z ∈ os, 0 ≤ z ∧ z < (m : Int)
  look : Look T M want (fs.map Int.toNat) (stk os) cs
  td : todo cs ≤ g
theorem Mee.nf {w1 : World} {B : Nat} {T : Tab4} {M : Nat → Bool} {want : List Nat} {m g nf no : Nat} {vf vo : Value} {fs os : List Int} {cs : List (List Nat)} {wr : World} (h : Mee w1 B T M want m g vf vo nf fs no os cs wr) : nf ≤ want.length := by
  have := h.look.perm.length_eq
  rw [List.length_append, List.length_map, h.lf.1] at this
  omega
theorem Mee.no {w1 : World} {B : Nat} {T : Tab4} {M : Nat → Bool} {want : List Nat} {m g nf no : Nat} {vf vo : Value} {fs os : List Int} {cs : List (List Nat)} {wr : World} (h : Mee w1 B T M want m g vf vo nf fs no os cs wr) : no ≤ g := by
  have := h.look.cov.len
  have h2 := h.lo.1
  have : (stk os).length = no := by simp [stk, h2]
  have := h.td
  omega
set_option maxRecDepth 20000 in
set_option maxHeartbeats 1000000 in
theorem meeting_any (base tb : Nat) (ai : Option Addr) (N ci : Nat) (U : Nat → Int) (v : Value) (a b c d : Int) (w : World) (hF : Flat w ai (N * 5) U) (c0 : w.cell? ⟨tb, 0, none⟩ = some (.slice ai N ci)) (c1 : w.cell? ⟨tb, 1, none⟩ = some v) (hT : Tree w base N U v) (hN : N ≤ 24) :
    Calls Try.prog 47 #[.pointer (some ⟨tb, 0, none⟩), b4 a b c d] w fun e w' => ∃ r n zs, e = .returned r ∧ LI w' w.heap.size r n zs ∧ zs = ((List.range N).filter (Mt U a b c d)).map Int.ofNat ∧ Below w.heap.size w w' := by
  rcases hT with ⟨rfl, rfl⟩ | ⟨hNp, m, D, hNL, hm, hGd, cc, hcov, hperm⟩
  · refine (meeting_nil tb ai ci a b c d w c1).mono ?_
    rintro e w' ⟨rfl, hb⟩
    exact ⟨_, 0, [], rfl, LI.nil _ _, rfl, hb⟩
  have hset := cset_map
  obtain ⟨q, -⟩ | ⟨g, cg, rfl⟩ := hNL.is
  · omega
  have hgl := (hNL.lt g rfl).2
  obtain ⟨b', o', rfl, hbl, hc⟩ := hF (by omega)
  have l1 := cell_lt c1
  simp only at l1
  have hwant : (cc.filter (Mt U a b c d)).length ≤ 24 := Nat.le_trans (List.length_filter_le _ _) (by have := hperm.length_eq; rw [List.length_range] at this; omega)
  have hccl : cc.length = N := by have := hperm.length_eq; rwa [List.length_range] at this
  have hw1 : IntKind.i64.wrap (((m + 1 : Nat) : Int) - 1) = (m : Int) := by rw [i64w (by omega)]; omega
  have hw2 : IntKind.i64.wrap ((m : Int) + 1 - 1) = (m : Int) := by rw [i64w (by omega)]; omega
  go_enter Try.func47, Try.ntmps47
  go_upto_region 1 with fail
  have hE : Below w.heap.size w (w.alloc (.cells #[.int .i64 a, .int .i64 b, .int .i64 c, .int .i64 d] 84)) := (Below.refl _ _).alloc (Nat.le_refl _) _
  have b0 : (w.alloc (.cells #[.int .i64 a, .int .i64 b, .int .i64 c, .int .i64 d] 84)).cell? ⟨w.heap.size, 0, none⟩ = some (.int .i64 a) := by go_simp
  have b1 : (w.alloc (.cells #[.int .i64 a, .int .i64 b, .int .i64 c, .int .i64 d] 84)).cell? ⟨w.heap.size, 1, none⟩ = some (.int .i64 b) := by go_simp
  have b2 : (w.alloc (.cells #[.int .i64 a, .int .i64 b, .int .i64 c, .int .i64 d] 84)).cell? ⟨w.heap.size, 2, none⟩ = some (.int .i64 c) := by go_simp
  have b3 : (w.alloc (.cells #[.int .i64 a, .int .i64 b, .int .i64 c, .int .i64 d] 84)).cell? ⟨w.heap.size, 3, none⟩ = some (.int .i64 d) := by go_simp
  have hz : (w.alloc (.cells #[.int .i64 a, .int .i64 b, .int .i64 c, .int .i64 d] 84)).heap.size = w.heap.size + 1 := by simp
  generalize w.alloc (.cells #[.int .i64 a, .int .i64 b, .int .i64 c, .int .i64 d] 84) = w1 at hE b0 b1 b2 b3 hz ⊢
  have k0 := keepc hE c0
  have k1 := keepc hE c1
  have hzz : w.heap.size < w1.heap.size := by omega
  have h1g : g < w1.heap.size := by omega
  have t1 : tb < w1.heap.size := by omega
  have hbb : b' < w1.heap.size := by omega
  go_upto_if 13 with fail
  go_cut [6] (fun s wc => ∃ cs, Mee w1 (w.heap.size + 1) (tab D) (Mt U a b c d) (cc.filter (Mt U a b c d)) (m + 1) 100 (.slice none 0 0) s 0 [] 1 [(m : Int)] cs wc)
  case first =>
    go_wp2_with (refine wpList_li rfl _ _ _ rfl Try.underlying40 (w.heap.size + 1) (.slice none 0 0) 0 [] rfl ((LI.nil w1 (w.heap.size + 1)).below bel_a) _ [(m : Int)] 1 _ rfl rfl (one_li (by go_simp)) (by omega) (by omega) (by first | omega | (simp only [World.size_alloc]; omega) | (simp; omega)) ?_; intro g7 c7 w7 ho7 hg7 hgo hlt7)
    go_meet
    have hbl7 : Below w1.heap.size w1 w7 := Below.grown (by exact bel_a) hg7 (by simp) (fun k e => by cases e)
    exact ⟨[cc], ⟨LI.nil _ _, ho7, .inl rfl, hbl7, (fun z hz => by cases hz), (fun z hz => by rw [List.mem_singleton] at hz; subst hz; omega), Look.start hcov, by simp only [todo]; omega⟩⟩
  case rest =>
  obtain ⟨cs0, hM0⟩ := hcut
  go_wp2
  go_loopg [5, 6] 100 (fun gg sf so wr => gg ≤ 100 ∧ ∃ nf fs no os cs, Mee w1 (w.heap.size + 1) (tab D) (Mt U a b c d) (cc.filter (Mt U a b c d)) (m + 1) gg sf so nf fs no os cs wr)
  case atStart => exact ⟨Nat.le_refl _, 0, [], 1, _, cs0, hM0⟩
  case round =>
    clear hM0
    obtain ⟨hgg, nf, fs, no, os, cs, hM⟩ := hrel
    have hnf := Nat.le_trans hM.nf hwant
    have hno := hM.no
    have hszr := hM.bel.size
    by_cases h0 : no = 0
    · obtain ⟨ao, co, rfl⟩ := hM.lo.form
      subst h0
      have hos : os = [] := List.length_eq_zero_iff.1 hM.lo.1
      subst hos
      go_wp2_with (go_at_call 65; refine (sortInts_any _ _ _ _ _ hM.lf (by omega)).mono ?_; rintro e w9 ⟨rfl, hL9, hg9⟩)
      go_ret
      obtain ⟨cs', hlk⟩ : ∃ cs', Look (tab D) (Mt U a b c d) (cc.filter (Mt U a b c d)) (fs.map Int.toNat) [] cs' := ⟨_, hM.look⟩
      exact ⟨_, _, _, rfl, ⟨hL9.1, (LI.base hL9 (by omega)).2⟩, sorted_eq hperm hlk.done hM.f0, hE.trans ((hM.bel.mono (by omega)).grown hg9 (by omega) (fun k e => by have := (hM.lf.lt k e).1; omega))⟩
    · obtain ⟨n, rfl⟩ : ∃ n, no = n + 1 := ⟨no - 1, by omega⟩
      obtain ⟨_, q, _⟩ | ⟨go, co, rfl, hco⟩ := hM.lo.is
      · omega
      have hol : n < os.length := by rw [hM.lo.1]; omega
      have htop := hM.lo.cell hol
      obtain ⟨hk0, hkm⟩ := hM.o0 _ (List.getElem_mem hol)
      have hstk := stk_last hM.lo.1 hol
      obtain ⟨k, hk⟩ : ∃ k : Nat, os[n] = (k : Int) := ⟨os[n].toNat, by omega⟩
      rw [hk] at htop hk0 hkm hstk
      rw [Int.toNat_natCast] at hstk
      have hkm2 : k < m + 1 := by omega
      have hgo := (hM.lo.lt go rfl)
      obtain ⟨e0, e1, e2, e3, e4, e5, e6, e7⟩ := hNL.cells (q := k) hkm2
      have hB1 : Below w.heap.size w wr := hE.trans (hM.bel.mono (by omega))
      have hki : (k : Int) < (m : Int) + 1 := by omega
      have hki2 : (k : Int) < ((m + 1 : Nat) : Int) := by omega
      have hv1 : IntKind.i64.wrap (((n + 1 : Nat) : Int) - 1) = (n : Int) := by rw [i64w (by omega)]; omega
      have hv2 : IntKind.i64.wrap ((n : Int) + 1 - 1) = (n : Int) := by rw [i64w (by omega)]; omega
      have hv3 : IntKind.i64.wrap (n : Int) = (n : Int) := i64w (by omega)
      have hni : (n : Int) < (n : Int) + 1 := by omega
      have hni2 : (n : Int) < ((n + 1 : Nat) : Int) := by omega
      have hpos : (0 : Int) < (n : Int) + 1 := by omega
      have hpos2 : (0 : Int) < ((n + 1 : Nat) : Int) := by omega
      have FF : ∀ w', Below wr.heap.size wr w' → w'.cell? ⟨tb, 1, none⟩ = some (.slice (some ⟨g, 0, none⟩) (m + 1) cg) ∧ w'.cell? ⟨go, n, none⟩ = some (.int .i64 (k : Int)) ∧ w'.cell? ⟨g, k * 8, none⟩ = some (.int .i64 (D (k * 8))) ∧ w'.cell? ⟨g, k * 8 + 1, none⟩ = some (.int .i64 (D (k * 8 + 1))) ∧ w'.cell? ⟨g, k * 8 + 2, none⟩ = some (.int .i64 (D (k * 8 + 2))) ∧ w'.cell? ⟨g, k * 8 + 3, none⟩ = some (.int .i64 (D (k * 8 + 3))) ∧ w'.cell? ⟨g, k * 8 + 4, none⟩ = some (.bool (decide (D (k * 8 + 4) = 1))) ∧ w'.cell? ⟨g, k * 8 + 5, none⟩ = some (.int .i64 (D (k * 8 + 5))) ∧ w'.cell? ⟨g, k * 8 + 6, none⟩ = some (.int .i64 (D (k * 8 + 6))) ∧ w'.cell? ⟨g, k * 8 + 7, none⟩ = some (.int .i64 (D (k * 8 + 7))) :=
        fun w' s => ⟨keepc s (keepc hB1 c1), keepc s htop, keepc s (keepc hB1 e0), keepc s (keepc hB1 e1), keepc s (keepc hB1 e2), keepc s (keepc hB1 e3), keepc s (keepc hB1 e4), keepc s (keepc hB1 e5), keepc s (keepc hB1 e6), keepc s (keepc hB1 e7)⟩
      go_upto_region 5 with fail
      go_cut [7] (fun v wc => ∃ x, v = .pointer (some ⟨x, 0, none⟩) ∧ Below wr.heap.size wr wc ∧ wc.cell? ⟨x, 0, none⟩ = some (.int .i64 (D (k * 8))) ∧ wc.cell? ⟨x, 1, none⟩ = some (.int .i64 (D (k * 8 + 1))) ∧ wc.cell? ⟨x, 2, none⟩ = some (.int .i64 (D (k * 8 + 2))) ∧ wc.cell? ⟨x, 3, none⟩ = some (.int .i64 (D (k * 8 + 3))) ∧ wc.cell? ⟨x, 4, none⟩ = some (.bool (decide (D (k * 8 + 4) = 1))) ∧ wc.cell? ⟨x, 5, none⟩ = some (.int .i64 (D (k * 8 + 5))) ∧ wc.cell? ⟨x, 6, none⟩ = some (.int .i64 (D (k * 8 + 6))) ∧ wc.cell? ⟨x, 7, none⟩ = some (.int .i64 (D (k * 8 + 7))))
      case first =>
        refine wp_region_held_drew (S := fun w' => Below wr.heap.size wr w') (by kernel_rfl) ((Below.refl _ _).drew) (fun hHeld => ?_)
        refine tq 0 hHeld ?_
        refine tq 1 hHeld ?_
        refine tq 2 hHeld ?_
        refine tq 3 hHeld ?_ (hv := by (intro w' s; obtain ⟨q1, q2, q3, q4, q5, q6, q7, q8, q9, q10⟩ := FF w' s; go_simp; (try with_reducible rfl)))
        refine tq 4 hHeld ?_
        refine tq 5 hHeld ?_
        refine wpAnyH_ready (rs := [6, 12]) (by kernel_rfl) (by simp) ?_
        refine AllReadyH.cons rfl (fun K hK => ?_) (AllReadyH.cons rfl (fun K hK => ?_) AllReadyH.nil)
        · (go_simp; refine tr hK (fun hHeld => ?_); clear hK K)
          refine tq 7 hHeld ?_
          refine tq 8 hHeld ?_
          refine tq 9 hHeld ?_ (hv := by (intro w' s; obtain ⟨q1, q2, q3, q4, q5, q6, q7, q8, q9, q10⟩ := FF w' s; go_simp; (try with_reducible rfl)))
          refine tq 10 hHeld ?_
          refine tq 11 hHeld ?_ (hv := by (intro w' s; obtain ⟨q1, q2, q3, q4, q5, q6, q7, q8, q9, q10⟩ := FF w' s; go_simp; (try with_reducible rfl)))
          refine tc 12 fun K hK => ?_
          (go_simp; refine tr hK (fun hHeld => ?_) (hHeld.alloc hHeld.size _); clear hK K)
          refine tc 13 fun K hK => ?_
          (go_simp; refine tr hK (fun hHeld => ?_) bel_a; clear hK K)
          refine wpAnyH_done (by kernel_rfl) ?_ _
          go_wp2_with fail
          go_meet
          exact ⟨_, rfl, by exact bel_a, by go_simp, by go_simp, by go_simp, by go_simp, by go_simp, by go_simp, by go_simp, by go_simp⟩
        · (go_simp; refine tr hK (fun hHeld => ?_) (hHeld.alloc hHeld.size _); clear hK K)
          refine tc 6 fun K hK => ?_
          (go_simp; refine tr hK (fun hHeld => ?_); clear hK K)
          refine tq 7 hHeld ?_
          refine tq 8 hHeld ?_
          refine tq 9 hHeld ?_ (hv := by (intro w' s; obtain ⟨q1, q2, q3, q4, q5, q6, q7, q8, q9, q10⟩ := FF w' s; go_simp; (try with_reducible rfl)))
          refine tq 10 hHeld ?_
          refine tq 11 hHeld ?_ (hv := by (intro w' s; obtain ⟨q1, q2, q3, q4, q5, q6, q7, q8, q9, q10⟩ := FF w' s; go_simp; (try with_reducible rfl)))
          refine tc 13 fun K hK => ?_
          (go_simp; refine tr hK (fun hHeld => ?_) bel_a; clear hK K)
          refine wpAnyH_done (by kernel_rfl) ?_ _
          go_wp2_with fail
          go_meet
          exact ⟨_, rfl, by exact bel_a, by go_simp, by go_simp, by go_simp, by go_simp, by go_simp, by go_simp, by go_simp, by go_simp⟩
      case rest =>
      obtain ⟨x, rfl, hB2, x0, x1, x2, x3, x4, x5, x6, x7⟩ := hcut
      obtain ⟨w5, rfl⟩ : ∃ x, x = wc := ⟨_, rfl⟩
      have y0 := keepc hB2 (keepc hM.bel b0)
      have y1 := keepc hB2 (keepc hM.bel b1)
      have y2 := keepc hB2 (keepc hM.bel b2)
      have y3 := keepc hB2 (keepc hM.bel b3)
      obtain ⟨mB, hmB⟩ : ∃ q, (leB (D (k * 8)) (D (k * 8 + 1)) c d && leB a b (D (k * 8 + 2)) (D (k * 8 + 3))) = q := ⟨_, rfl⟩
      have hlk := hM.look
      rw [hstk] at hlk
      have ho0 : ∀ z ∈ os.take n, 0 ≤ z ∧ z < ((m + 1 : Nat) : Int) := fun z hz => hM.o0 z (List.mem_of_mem_take hz)
      clear FF
      go_upto_region 7 with fail
      go_cut [43] (fun s wc => s = .bool (!mB) ∧ Below wr.heap.size wr wc ∧ wc.cell? ⟨x, 4, none⟩ = some (.bool (decide (D (k * 8 + 4) = 1))) ∧ wc.cell? ⟨x, 5, none⟩ = some (.int .i64 (D (k * 8 + 5))) ∧ wc.cell? ⟨x, 6, none⟩ = some (.int .i64 (D (k * 8 + 6))) ∧ wc.cell? ⟨x, 7, none⟩ = some (.int .i64 (D (k * 8 + 7))))
      case first =>
        go_wp2_with (go_at_call 51; refine (spanMeets_any _ _ _ _ _ _ _ _ _).mono ?_; rintro e w6 ⟨rfl, hb6⟩; rw [hmB])
        go_meet
        exact ⟨rfl, hB2.trans (hb6.mono hB2.size), keepc hb6 x4, keepc hb6 x5, keepc hb6 x6, keepc hb6 x7⟩
      case rest =>
      clear x0 x1 x2 x3 x4 x5 x6 x7 y0 y1 y2 y3 hB2
      obtain ⟨rfl, hB6, x4, x5, x6, x7⟩ := hcut
      obtain ⟨w6, rfl⟩ : ∃ x, x = wc := ⟨_, rfl⟩
      have hlf := hM.lf.below hB6
      have hlo := (hM.lo.pre (Nat.le_succ n)).below hB6
      have hbe := hM.bel.trans (hB6.mono hszr)
      have hs6 := hB6.size
      have htd := hM.td
      cases mB with
      | false =>
        obtain ⟨cs2, hl2, ht2⟩ := hlk.skip (hGd.skip hkm2 hmB)
        go_wp2_with fail
        go_roundg (gk - 1)
        case measure => omega
        case rel => exact ⟨by omega, nf, fs, n, os.take n, cs2, hlf, hlo, hM.ne, hbe, hM.f0, ho0, hl2, by omega⟩
      | true =>
        by_cases hleaf : D (k * 8 + 4) = 1
        · rw [decide_eq_true hleaf] at x4
          obtain ⟨g0, g1, -⟩ := hGd.leaf k hkm2 hleaf
          obtain ⟨i, hi⟩ := Int.eq_ofNat_of_zero_le g0
          rw [hi] at x5 g1
          have hiN : i < N := by omega
          have hii : (i : Int) < (N : Int) := by omega
          have htab : (tab D).leaf k = some i := by simp only [tab]; rw [if_pos hleaf, hi]; rfl
          obtain ⟨cs2, hl2, ht2⟩ := hlk.leaf htab
          obtain ⟨j0, j1, j2, j3, j4⟩ := box_cells hc hiN
          have hw6 : Below w.heap.size w w6 := hE.trans (hbe.mono (by omega))
          obtain ⟨mI, hmI⟩ : ∃ q, Mt U a b c d i = q := ⟨_, rfl⟩
          have hmI2 : (leB (U (i * 5 + 1)) (U (i * 5 + 2)) c d && leB a b (U (i * 5 + 3)) (U (i * 5 + 4))) = mI := hmI
          rw [hmI] at hl2
          have FF : ∀ w', Below w6.heap.size w6 w' → w'.cell? ⟨tb, 0, none⟩ = some (.slice (some ⟨b', o', none⟩) N ci) ∧ w'.cell? ⟨x, 5, none⟩ = some (.int .i64 (i : Int)) ∧ w'.cell? ⟨b', o' + i * 5 + 1, none⟩ = some (.int .i64 (U (i * 5 + 1))) ∧ w'.cell? ⟨b', o' + i * 5 + 1 + 1, none⟩ = some (.int .i64 (U (i * 5 + 2))) ∧ w'.cell? ⟨b', o' + i * 5 + 1 + 2, none⟩ = some (.int .i64 (U (i * 5 + 3))) ∧ w'.cell? ⟨b', o' + i * 5 + 1 + 3, none⟩ = some (.int .i64 (U (i * 5 + 4))) ∧ w'.cell? ⟨w.heap.size, 0, none⟩ = some (.int .i64 a) ∧ w'.cell? ⟨w.heap.size, 1, none⟩ = some (.int .i64 b) ∧ w'.cell? ⟨w.heap.size, 2, none⟩ = some (.int .i64 c) ∧ w'.cell? ⟨w.heap.size, 3, none⟩ = some (.int .i64 d) :=
            fun w' s => ⟨keepc s (keepc hw6 c0), keepc s x5, keepc s (keepc hw6 j1), keepc s (keepc hw6 j2), keepc s (keepc hw6 j3), keepc s (keepc hw6 j4), keepc s (keepc hbe b0), keepc s (keepc hbe b1), keepc s (keepc hbe b2), keepc s (keepc hbe b3)⟩
          go_upto_region 10 with fail
          go_cut [60] (fun s wc => s = .bool mI ∧ Below w6.heap.size w6 wc)
          case first =>
            refine wp_region_held_drew (S := fun w' => Below w6.heap.size w6 w') (by kernel_rfl) ((Below.refl _ _).drew) (fun hHeld => ?_)
            refine tq 0 hHeld ?_
            refine tq 1 hHeld ?_
            refine tq 2 hHeld ?_
            refine tq 3 hHeld ?_ (hv := by (intro w' s; obtain ⟨q1, q2, q3, q4, q5, q6, q7, q8, q9, q10⟩ := FF w' s; go_simp; (try with_reducible rfl)))
            refine tq 4 hHeld ?_
            refine tq 5 hHeld ?_ (hv := by (intro w' s; obtain ⟨q1, q2, q3, q4, q5, q6, q7, q8, q9, q10⟩ := FF w' s; go_simp; (try with_reducible rfl)))
            refine tq 6 hHeld ?_
            refine tq 7 hHeld ?_
            refine tq 8 hHeld ?_ (hv := by (intro w' s; obtain ⟨q1, q2, q3, q4, q5, q6, q7, q8, q9, q10⟩ := FF w' s; go_simp; (try with_reducible rfl)))
            refine tq 10 hHeld ?_ (hv := by (intro w' s; obtain ⟨q1, q2, q3, q4, q5, q6, q7, q8, q9, q10⟩ := FF w' s; go_simp; (try with_reducible rfl)))
            refine tc 9 fun K hK => ?_
            (go_simp; (go_at_call 48; refine (spanOf_any _ _ _ _ _).mono ?_; rintro e w9 ⟨rfl, hb9⟩); (try go_wp2_with fail); refine tr hK (fun hHeld => ?_) (hHeld.trans (hb9.mono hHeld.size)); clear hK K)
            refine tc 11 fun K hK => ?_
            (go_simp; (go_at_call 51; refine (spanMeets_any _ _ _ _ _ _ _ _ _).mono ?_; rintro e w10 ⟨rfl, hb10⟩; rw [hmI2]); (try go_wp2_with fail); refine tr hK (fun hHeld => ?_) (hHeld.trans (hb10.mono hHeld.size)); clear hK K)
            refine tq 12 hHeld ?_
            refine wpAnyH_done (by kernel_rfl) ?_ _
            go_wp2_with fail
            go_meet
            exact ⟨rfl, hHeld⟩
          case rest =>
          obtain ⟨rfl, hB7⟩ := hcut
          obtain ⟨w8, rfl⟩ : ∃ x, x = wc := ⟨_, rfl⟩
          have hlf8 := hlf.below hB7
          have hlo8 := hlo.below hB7
          have x58 := keepc hB7 x5
          have hs8 := hB7.size
          have hx8 := cell_lt x58
          simp only at hx8
          clear FF
          cases mI with
          | true =>
            go_wp2_with (refine wpList_li rfl _ _ _ rfl Try.underlying40 (w.heap.size + 1) _ nf fs rfl (hlf8.below bel_a) _ [(i : Int)] 1 _ rfl rfl (one_li (by go_simp)) (by omega) (by omega) (by first | omega | (simp only [World.size_alloc]; omega) | (simp; omega)) ?_; intro g7 c7 w7 ho7 hg7 hgo hlt7)
            obtain ⟨r1, r2⟩ := two_own (hlo8.below bel_a) (ne_sym hM.ne) hg7 hgo
            go_roundg (gk - 1)
            case measure => omega
            case rel => exact ⟨by omega, nf + 1, fs ++ [(i : Int)], n, os.take n, cs2, ho7, r1, ne_sym r2, Below.grown (hbe.trans ((hB7.mono (by omega)).trans bel_a)) hg7 (by simp; omega) (fun q e => by have := (hM.lf.lt q e).1; omega), fun z hz => (by rcases List.mem_append.1 hz with hz | hz; exact hM.f0 z hz; rw [List.mem_singleton] at hz; omega), ho0, (by simpa using hl2), by omega⟩
          | false =>
            go_wp2_with fail
            go_roundg (gk - 1)
            case measure => omega
            case rel => exact ⟨by omega, nf, fs, n, os.take n, cs2, hlf8, hlo8, hM.ne, hbe.trans (hB7.mono (by omega)), hM.f0, ho0, (by simpa using hl2), by omega⟩
        · rw [decide_eq_false hleaf] at x4
          obtain ⟨g0, g1, g2, g3, -⟩ := hGd.node k hkm2 hleaf
          have htab : (tab D).leaf k = none := by simp only [tab]; rw [if_neg hleaf]
          obtain ⟨cs2, hl2, ht2⟩ := hlk.node htab
          have hx6 := cell_lt x6
          simp only at hx6
          have hog := hlo
          go_wp2_with (refine wpList_li rfl _ _ _ rfl Try.underlying40 (w.heap.size + 1) (.slice (some ⟨go, 0, none⟩) n co) n (os.take n) rfl (hlo.below bel_a) _ [D (k * 8 + 6), D (k * 8 + 7)] 2 _ rfl rfl (two_li (by go_simp) (by go_simp)) (by omega) (by omega) (by first | omega | (simp only [World.size_alloc]; omega) | (simp; omega)) ?_; intro g7 c7 w7 ho7 hg7 hgo hlt7)
          obtain ⟨r1, r2⟩ := two_own (hlf.below bel_a) hM.ne hg7 hgo
          go_roundg (gk - 1)
          case measure => omega
          case rel => exact ⟨by omega, nf, fs, n + 2, os.take n ++ [D (k * 8 + 6), D (k * 8 + 7)], cs2, r1, ho7, r2, Below.grown (hbe.trans bel_a) hg7 (by simp; omega) (fun q e => by have := (hM.lo.lt q e).1; omega), hM.f0, fun z hz => (by rcases List.mem_append.1 hz with hz | hz; exact ho0 z hz; simp only [List.mem_cons, List.not_mem_nil, or_false] at hz; rcases hz with rfl | rfl <;> omega), (by rw [stk_two]; exact hl2), by omega⟩
end Go.Proofs.Ytbngdlbecdloiaa
