/- Texts of a proof. -/
import Derived.Test.YthijeiehcdoidaaGreatB16
import Derived.Test.YthijeiehcdoidaaGreatB5
import Derived.Test.YthijeiehcdoidaaGreatB1
import Derived.Deep.RegionHeld3
import Derived.Deep.DeepCutAuto
import Derived.Test.YthijeiehcdoidaaGreatB17
import Derived.Test.YthijeiehcdoidaaGreatB15
import Derived.Test.YthijeiehcdoidaaGreatB13
set_option maxHeartbeats 16000000
set_option maxRecDepth 20000
namespace Go.Proofs.YthijeiehcdoidaaGreat
open Go.RowKit
set_option linter.unusedVariables false
set_option linter.unusedSimpArgs false
def mxT (a b c d x y g : Int) : (Int × Int × Int) × Bool := if ptB a b c d x y = true then (((bsT (c - x) (x - a) (d - y) (y - b)).1, (bsT (c - x) (x - a) (d - y) (y - b)).2.1, (bsT (c - x) (x - a) (d - y) (y - b)).2.2 + g), true) else rdT (x - mn (mx x a) c) (y - mn (mx y b) d) g
theorem bsT_bd {s0 s1 s2 s3 B : Int} (h0 : -B ≤ s0 ∧ s0 ≤ B) (h1 : -B ≤ s1 ∧ s1 ≤ B) (h2 : -B ≤ s2 ∧ s2 ≤ B) (h3 : -B ≤ s3 ∧ s3 ≤ B) : -B ≤ (bsT s0 s1 s2 s3).2.2 ∧ (bsT s0 s1 s2 s3).2.2 ≤ B ∧ (-256 ≤ (bsT s0 s1 s2 s3).1 ∧ (bsT s0 s1 s2 s3).1 ≤ 256) ∧ (-256 ≤ (bsT s0 s1 s2 s3).2.1 ∧ (bsT s0 s1 s2 s3).2.1 ≤ 256) := by
 unfold bsT
 by_cases a : s1 < s0
 · simp only [if_pos a]
   by_cases b : s2 < s1
   · simp only [if_pos b]
     by_cases c : s3 < s2
     · simp only [if_pos c]; omega
     · simp only [if_neg c]; omega
   · simp only [if_neg b]
     by_cases c : s3 < s1
     · simp only [if_pos c]; omega
     · simp only [if_neg c]; omega
 · simp only [if_neg a]
   by_cases b : s2 < s0
   · simp only [if_pos b]
     by_cases c : s3 < s2
     · simp only [if_pos c]; omega
     · simp only [if_neg c]; omega
   · simp only [if_neg b]
     by_cases c : s3 < s0
     · simp only [if_pos c]; omega
     · simp only [if_neg c]; omega
theorem near_in {a c x B : Int} (ha : -B ≤ a ∧ a ≤ B) (hc : -B ≤ c ∧ c ≤ B) (hx : -B ≤ x ∧ x ≤ B) : -B ≤ mn (mx x a) c ∧ mn (mx x a) c ≤ B := by
 unfold mn mx; repeat' split <;> omega
theorem spoint_q (a b c d x y : Int) (z : Bool) (w : World) (e : ptB a b c d x y = z) :
 Calls Tryz.prog 113 #[b4 a b c d, vv x y] w fun e w' => e = .returned (.bool z) ∧ Below w.heap.size w w' := by
 subst e; exact l3Point_any a b c d x y w
theorem snear_q (a b c d x y X Y : Int) (w : World) (e1 : mn (mx x a) c = X) (e2 : mn (mx y b) d = Y) :
 Calls Tryz.prog 179 #[b4 a b c d, vv x y] w fun e w' => e = .returned (vv X Y) ∧ Below w.heap.size w w' := by
 subst e1; subst e2; exact l3Near_any a b c d x y w
theorem l5Mixed_q (a b c d x y g X Y D : Int) (K : Bool) (w : World) (qa : -3000000 ≤ a ∧ a ≤ 3000000) (qb : -3000000 ≤ b ∧ b ≤ 3000000) (qc : -3000000 ≤ c ∧ c ≤ 3000000) (qd : -3000000 ≤ d ∧ d ≤ 3000000) (qx : -3000000 ≤ x ∧ x ≤ 3000000) (qy : -3000000 ≤ y ∧ y ≤ 3000000) (g0 : 0 ≤ g ∧ g ≤ 100000) (e : mxT a b c d x y g = ((X, Y, D), K)) :
 Calls Tryz.prog 169 #[b4 a b c d, vv x y, .int .i64 g] w fun e w' => e = .returned (.tuple #[s3 X Y D, .bool K]) ∧ Below w.heap.size w w' := by
 have hset := cset_map
 unfold mxT at e
 cases eP : ptB a b c d x y with
 | true =>
  rw [if_pos eP] at e
  have hb := bsT_bd (s0 := c - x) (s1 := x - a) (s2 := d - y) (s3 := y - b) (B := 6000000) (by omega) (by omega) (by omega) (by omega)
  obtain ⟨⟨P, Q, E⟩, eQ⟩ : ∃ z, bsT (c - x) (x - a) (d - y) (y - b) = z := ⟨_, rfl⟩
  rw [eQ] at e hb
  dsimp only at hb
  simp only [Prod.mk.injEq] at e
  obtain ⟨⟨eX, eY, eD⟩, eK⟩ := e
  subst eX
  subst eY
  subst eD
  subst eK
  have eB : bxT a b c d x y x y = ((P, Q, E), true) := by
   have hm : (leB a b x y && leB x y c d) = true := by
    unfold ptB at eP; have := of_decide_eq_true eP; unfold leB; simp only [Bool.and_eq_true, decide_eq_true_eq]; omega
   unfold bxT; rw [if_pos hm, eQ]
  have w1 := i64w (n := E + g) (by have := hb.1; have := hb.2.1; omega)
  clear hb eQ
  go_enter Tryz.func169, Tryz.ntmps169
  go_wp2_with (first
  | (go_at_call 113; refine (spoint_q _ _ _ _ _ _ _ _ eP).mono ?_; rintro e w1 ⟨rfl, hb1⟩; have hz1 := hb1.size; (try simp only [zz] at hz1); have := kf3 hb1 w.heap.size)
  | (go_at_call 168; refine (l5Boxes_q _ _ _ _ _ _ _ _ P Q E true _ (by omega) (by omega) (by omega) (by omega) (by omega) (by omega) (by omega) (by omega) eB).mono ?_; rintro e w2 ⟨rfl, hb2⟩; have hz2 := hb2.size; (try simp only [zz] at hz2); have := kf3 hb2 w.heap.size))
  exact bodyPost_ret (v := .tuple #[s3 P Q (E + g), .bool true]) (by simp [results, Tryz.results169, go_sem, *]) rfl ⟨rfl, bel_a⟩
 | false =>
  rw [if_neg (by simp [eP])] at e
  have n1 := near_in (a := a) (c := c) (x := x) (B := 3000000) (by omega) (by omega) (by omega)
  have n2 := near_in (a := b) (c := d) (x := y) (B := 3000000) (by omega) (by omega) (by omega)
  obtain ⟨nx, eN1⟩ : ∃ z, mn (mx x a) c = z := ⟨_, rfl⟩
  obtain ⟨ny, eN2⟩ : ∃ z, mn (mx y b) d = z := ⟨_, rfl⟩
  rw [eN1] at e n1
  rw [eN2] at e n2
  go_enter Tryz.func169, Tryz.ntmps169
  go_upto_region 5 with (go_at_call 113; refine (spoint_q _ _ _ _ _ _ _ _ eP).mono ?_; rintro e w1 ⟨rfl, hb1⟩; have hz1 := hb1.size; (try simp only [zz] at hz1); have := kf3 hb1 w.heap.size)
  refine wp_region_held_drew (S := fun w' => w'.cell? ⟨w.heap.size, 0, none⟩ = some (.int .i64 a) ∧ w'.cell? ⟨w.heap.size, 1, none⟩ = some (.int .i64 b) ∧ w'.cell? ⟨w.heap.size, 2, none⟩ = some (.int .i64 c) ∧ w'.cell? ⟨w.heap.size, 3, none⟩ = some (.int .i64 d) ∧ w'.cell? ⟨w.heap.size + 1, 0, none⟩ = some (.int .i64 x) ∧ w'.cell? ⟨w.heap.size + 1, 1, none⟩ = some (.int .i64 y)) (by kernel_rfl) ?_ (fun hHeld => ?_)
  · (try dsimp only)
    (first | (go_simp; done) | (go_keep; done))
  refine tq 0 hHeld ?_
  refine tq 1 hHeld ?_
  refine tq 3 hHeld ?_
  refine tq 4 hHeld ?_
  (refine tc 2 fun K hK => ?_; go_simp; (go_at_call 179; refine (snear_q _ _ _ _ _ _ _ _ _ eN1 eN2).mono ?_; rintro e w3 ⟨rfl, hb3⟩; have hz3 := hb3.size; (try simp only [zz] at hz3); have := kf3 hb3 w.heap.size); (try go_wp2_with fail); refine tr hK (fun hHeld => ?_); clear hK K)
  (refine tc 5 fun K hK => ?_; go_simp; (go_at_call 167; refine (l5Rounds_q nx ny x y g X Y D _ _ (by omega) (by omega) (by omega) (by omega) (by omega) e).mono ?_; rintro e w4 ⟨rfl, hb4⟩; have hz4 := hb4.size; (try simp only [zz] at hz4); have := kf3 hb4 w.heap.size); (try go_wp2_with fail); refine tr hK (fun hHeld => ?_); clear hK K)
  refine tq 6 hHeld ?_
  refine tq 7 hHeld ?_
  (refine tc 8 fun K hK => ?_; go_simp; refine tr hK (fun hHeld => ?_); clear hK K)
  refine tq 9 hHeld ?_
  refine wpAnyH_done (by kernel_rfl) ?_ _
  go_wp2_with fail
  exact bodyPost_ret (v := .tuple #[s3 X Y D, .bool K]) (by simp [results, Tryz.results169, go_sem, *]) rfl ⟨rfl, bel_a⟩
theorem l5Turn_q (x y k : Int) (w : World) (hx : -2000000000 ≤ x ∧ x ≤ 2000000000) (hy : -2000000000 ≤ y ∧ y ≤ 2000000000) :
 Calls Tryz.prog 170 #[s3 x y k] w fun e w' => e = .returned (s3 (-x) (-y) k) ∧ Below w.heap.size w w' := by
 have hset := cset_map
 have w1 := i64w (n := -x) (by omega)
 have w2 := i64w (n := -y) (by omega)
 go_enter Tryz.func170, Tryz.ntmps170
 go_wp2_with fail
 exact bodyPost_ret (v := s3 (-x) (-y) k) (by simp [results, Tryz.results170, go_sem, *]) rfl ⟨rfl, bel_a⟩
def ascU (U : Nat → Int) (n : Nat) : Prop := ∀ q r, q < r → r < n → U (q * 12) < U (r * 12)
theorem allBB_get {U : Nat → Int} : ∀ {n k : Nat}, allBB U n = true → k < n → stepBB U k = true
 | 0, k, _, l => absurd l (Nat.not_lt_zero _)
 | n + 1, k, h, l => by
  unfold allBB at h
  rw [Bool.and_eq_true] at h
  rcases Nat.lt_succ_iff_lt_or_eq.1 l with l | rfl
  · exact allBB_get h.1 l
  · exact h.2
theorem bodsB_asc {U : Nat → Int} {n : Nat} (h : bodsB n U = true) : ascU U n := by
 unfold bodsB at h
 rw [Bool.and_eq_true] at h
 have one : ∀ r, r + 1 < n → U (r * 12) < U ((r + 1) * 12) := fun r hr => by
  have := allBB_get h.2 hr
  unfold stepBB at this
  rw [Bool.and_eq_true, Bool.or_eq_true, decide_eq_true_eq, decide_eq_true_eq] at this
  rcases this.2 with q | q
  · omega
  · simpa using q
 intro q r hqr hr
 induction r with
 | zero => omega
 | succ r ih =>
  by_cases e : q = r
  · subst e; exact one q hr
  · exact Int.lt_trans (ih (by omega) (by omega)) (one r hr)
structure idP (U : Nat → Int) (n : Nat) (id : Int) (p : Nat) : Prop where
 le : p ≤ n
 lo : ∀ q, q < p → U (q * 12) < id
 hi : p < n → id ≤ U (p * 12)
theorem idP_ex (U : Nat → Int) (id : Int) : ∀ n, ∃ p, idP U n id p
 | 0 => ⟨0, Nat.le_refl _, fun q h => absurd h (Nat.not_lt_zero _), fun h => absurd h (Nat.lt_irrefl _)⟩
 | n + 1 => by
  obtain ⟨p, h1, h2, h3⟩ := idP_ex U id n
  by_cases e : p < n
  · exact ⟨p, by omega, h2, fun _ => h3 e⟩
  · by_cases l : U (n * 12) < id
    · exact ⟨n + 1, Nat.le_refl _, fun q hq => by
       by_cases e2 : q = n
       · subst e2; exact l
       · exact h2 q (by omega), fun h => absurd h (Nat.lt_irrefl _)⟩
    · exact ⟨n, by omega, fun q hq => h2 q (by omega), fun _ => by omega⟩
def hasF (U : Nat → Int) (n : Nat) (id : Int) : Bool := (List.range n).any fun k => decide (U (k * 12) = id)
theorem hasF_at {U : Nat → Int} {n p : Nat} {id : Int} (ha : ascU U n) (h : idP U n id p) : hasF U n id = decide (p < n ∧ U (p * 12) = id) := by
 unfold hasF
 by_cases e : p < n ∧ U (p * 12) = id
 · rw [decide_eq_true e, List.any_eq_true]
   exact ⟨p, List.mem_range.2 e.1, decide_eq_true e.2⟩
 · rw [decide_eq_false e, ← Bool.not_eq_true, List.any_eq_true]
   rintro ⟨k, hk, hd⟩
   rw [List.mem_range] at hk
   rw [decide_eq_true_eq] at hd
   rcases Nat.lt_trichotomy k p with l | l | l
   · have := h.lo k l; omega
   · subst l; exact e ⟨hk, hd⟩
   · have h1 := h.hi (by omega)
     have h2 := ha p k l hk
     omega
def aheadB (a b c d : Int) : Bool := decide (a < c ∨ a = c ∧ b < d)
def stepPB (U : Nat → Int) (n : Nat) (Q : Nat → Int) (i : Nat) : Bool :=
 decide (Q (i * 2) < Q (i * 2 + 1)) && (hasF U n (Q (i * 2)) && (hasF U n (Q (i * 2 + 1)) && (decide (i = 0) || aheadB (Q ((i - 1) * 2)) (Q ((i - 1) * 2 + 1)) (Q (i * 2)) (Q (i * 2 + 1)))))
def allPB (U : Nat → Int) (n : Nat) (Q : Nat → Int) : Nat → Bool
 | 0 => true
 | i + 1 => allPB U n Q i && stepPB U n Q i
theorem allPB_no {U : Nat → Int} {n : Nat} {Q : Nat → Int} {k : Nat} (h : stepPB U n Q k = false) : ∀ m, k < m → allPB U n Q m = false
 | 0, l => absurd l (Nat.not_lt_zero _)
 | m + 1, l => by
  unfold allPB
  rcases Nat.lt_succ_iff_lt_or_eq.1 l with l | rfl
  · rw [allPB_no h m l]; rfl
  · rw [h, Bool.and_false]
def worldB (T P : Int) (n : Nat) (U : Nat → Int) (m : Nat) (Q : Nat → Int) : Bool := decide (0 ≤ T ∧ T ≤ 100000) && (decide (0 ≤ P ∧ P ≤ 2560) && (bodsB n U && allPB U n Q m))
def cmpI (x y : Int) : Int := if x < y then -1 else if y < x then 1 else 0
def Blk (w : World) (b : Nat) (cs : Array Value) (t : TypeId) : Prop := w.heap[b]? = some (.cells cs t (0, 0))
theorem Blk.lt {w : World} {b : Nat} {cs : Array Value} {t : TypeId} (h : Blk w b cs t) : b < w.heap.size := by
 rcases Nat.lt_or_ge b w.heap.size with q | q
 · exact q
 · unfold Blk at h; rw [Array.getElem?_eq_none q] at h; cases h
theorem Blk.cell {w : World} {b : Nat} {cs : Array Value} {t : TypeId} (h : Blk w b cs t) (i : Nat) {v : Value} (hv : cs[i]? = some v) : w.cell? ⟨b, i, none⟩ = some v := by unfold Blk at h; simp [World.cell?, h, hv]
theorem Blk.f {w : World} {b : Nat} {cs : Array Value} {t : TypeId} (h : Blk w b cs t) : ∀ o, w.frozen? ⟨b, o, none⟩ = false := by unfold Blk at h; intro o; simp [World.frozen?, h]
theorem Blk.on {w w' : World} {b : Nat} {cs : Array Value} {t : TypeId} (h : Blk w b cs t) (hb : Below w.heap.size w w') : Blk w' b cs t := (hb.block b h.lt).trans h
theorem Blk.but {w w' : World} {b rb : Nat} {cs : Array Value} {t : TypeId} (h : Blk w b cs t) (hb : But rb w w') (hn : b ≠ rb) : Blk w' b cs t := (hb.block b h.lt hn).trans h
theorem Blk.new (w : World) (cs : Array Value) (t : TypeId) : Blk (w.alloc (.cells cs t)) w.heap.size cs t := by show (w.heap.push _)[w.heap.size]? = _; simp
theorem Blk.al {w : World} {b : Nat} {cs : Array Value} {t : TypeId} (h : Blk w b cs t) (o : Obj) : Blk (w.alloc o) b cs t := h.on ((Below.refl _ _).alloc (Nat.le_refl _) o)
theorem Blk.dr {w : World} {b : Nat} {cs : Array Value} {t : TypeId} (h : Blk w b cs t) : Blk w.drew b cs t := h
theorem Blk.far {w : World} {b b' o : Nat} {cs : Array Value} {t : TypeId} (h : Blk w b cs t) (hn : b ≠ b') (v : Value) : Blk (w.setCell ⟨b', o, none⟩ v) b cs t := (Below.heap_setCell w ⟨b', o, none⟩ v b hn).trans h
theorem Blk.put {w : World} {b : Nat} {cs : Array Value} {t : TypeId} (h : Blk w b cs t) (i : Nat) (v : Value) : Blk (w.setCell ⟨b, i, none⟩ v) b (cs.setIfInBounds i v) t := by
 show (w.heap.modify b _)[b]? = _
 unfold Blk at h
 rw [Array.getElem?_modify, if_pos rfl, h]
 rfl
theorem Blk.ne {w : World} {b base t t' k n : Nat} {cs : Array Value} {v : Value} {U : Nat → Int} (h : Blk w b cs t') (ho : OwnL w base t k v n U) (ht : t ≠ t') : v.ownBlock ≠ some b := by
 intro e
 rcases ho.2 with ⟨hv, _⟩ | ⟨g', cap, cur, hv, hb, hg, _⟩
 · subst hv; simp [Value.ownBlock] at e
 · subst hv
   simp [Value.ownBlock] at e
   subst e
   unfold Blk at h
   rw [h] at hg
   simp only [Option.some.injEq, Obj.cells.injEq] at hg
   exact ht hg.2.1.symm
theorem OwnL.dr {w : World} {base t k n : Nat} {v : Value} {U : Nat → Int} (h : OwnL w base t k v n U) : OwnL w.drew base t k v n U := World.ownsRow.drew h
theorem OwnL.al {w : World} {base t k n : Nat} {v : Value} {U : Nat → Int} (h : OwnL w base t k v n U) (o : Obj) : OwnL (w.alloc o) base t k v n U := h.below ((Below.refl _ _).alloc (Nat.le_refl _) o)
theorem OwnL.btb {w w' : World} {rb base t k n : Nat} {v : Value} {U : Nat → Int} (h : OwnL w base t k v n U) (hb : But rb w w') (hr : rb < base) : OwnL w' base t k v n U := by
 have hg : w.grownBy w' (Option.some rb) := ⟨hb.os, hb.tape, hb.output, hb.size, fun j hj hne => hb.block j hj (fun e => hne (by rw [e]))⟩
 cases e : v.ownBlock with
 | none => exact World.ownsRow.kept h hg (.inl e)
 | some b => exact World.ownsRow.kept h hg (.inr (by rw [e]; intro q; have := (h.lt b e).1; simp at q; omega))
theorem OwnL.stb {w : World} {base b o t k n : Nat} {v : Value} {U : Nat → Int} (h : OwnL w base t k v n U) (hn : v.ownBlock ≠ Option.some b) (x : Value) : OwnL (w.setCell ⟨b, o, none⟩ x) base t k v n U :=
 h.kept (row := Option.some b) ⟨rfl, rfl, rfl, by simp, fun j hj hne => Below.heap_setCell _ _ _ _ (fun e => hne (by rw [e]))⟩ (.inr hn)
theorem RB.al {w0 w : World} {rb p : Nat} (h : RB w0 w rb p) (o : Obj) : RB w0 (w.alloc o) rb p := h.alloc o
theorem RB.rs {w0 w : World} {rb p : Nat} (h : RB w0 w rb p) : RS w rb p := RS.of h
end Go.Proofs.YthijeiehcdoidaaGreat
