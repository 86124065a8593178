/- Whether a pair is among some. Boxes with their numbers: marked, and held against the marks. -/
import Derived.Test.YtcbgcochpflblaaB6
import Derived.Test.YtcbgcochpflblaaB19
import Derived.Test.YtcbgcochpflblaaB1
import Derived.Deep.RegionHeld3
import Derived.Deep.DeepCutAuto
namespace Go.Proofs.Ytcbgcochpflblaa
open Go.RowKit
set_option linter.unusedVariables false
set_option linter.unusedSimpArgs false
theorem run_eq_pair (n d : Nat) (hn : n = d + 1) (a b x y : Int) (w : World) : (Op.equalIn (n + 1) 48 (.agg #[.int .i64 a, .int .i64 b]) (.agg #[.int .i64 x, .int .i64 y])).run Try.prog w = .ok (a == x && b == y) w := by
  have hi : Try.prog.underlying 3 = some (.int .i64) := by kernel_rfl
  have hs : Try.prog.stoodInHeld 48 = false := by kernel_rfl
  have hp : ∀ w, (program).run Try.prog w = .ok Try.prog w := fun w => by rfl
  have p0 : ∀ (a b : Int) w, (part 3 #[.int .i64 a, .int .i64 b] 0).run Try.prog w = .ok (.int .i64 a) w := fun a b w => by kernel_rfl
  have p1 : ∀ (a b : Int) w, (part 3 #[.int .i64 a, .int .i64 b] 1).run Try.prog w = .ok (.int .i64 b) w := fun a b w => by kernel_rfl
  simp only [Op.equalIn, Sem.run_bind, run_underlying Try.underlying48, Result.andThen_ok, hp, hs, Bool.false_eq_true, if_false, Sem.run_pure]
  subst hn
  have h0 : ∀ w, (Op.equalIn (d + 1) 3 (.int .i64 a) (.int .i64 x)).run Try.prog w = .ok (a == x) w := fun w => run_equalIn_int w d 3 .i64 .i64 a x hi
  have h1 : ∀ w, (Op.equalIn (d + 1) 3 (.int .i64 b) (.int .i64 y)).run Try.prog w = .ok (b == y) w := fun w => run_equalIn_int w d 3 .i64 .i64 b y hi
  simp only [List.forIn_toArray, List.forIn_cons, List.forIn_nil, Sem.run_bind, p0, h0, Result.andThen_ok, Sem.run_ite, Sem.run_pure]
  cases hx : (a == x) <;> cases hy : (b == y) <;> simp [Sem.run_bind, p0, p1, h0, h1, Sem.run_ite, hx, hy]
theorem eq_pair0 (a b x y : Int) (w : World) : (Op.equalIn 10000 48 (.agg #[.int .i64 a, .int .i64 b]) (.agg #[.int .i64 x, .int .i64 y])).run Try.prog w = .ok (a == x && b == y) w := run_eq_pair 9999 9998 rfl a b x y w
theorem beq_sw (a b : Int) : (a == b) = (b == a) := by rw [Bool.eq_iff_iff, beq_iff_eq, beq_iff_eq]; exact eq_comm
/-- whether the pair p, q is among the first m -/
def inP (V : Nat → Int) (p q : Int) (m : Nat) : Bool := (List.range m).any fun j => p == V (j * 2) && q == V (j * 2 + 1)
theorem inP_next (V : Nat → Int) (p q : Int) (m : Nat) : inP V p q (m + 1) = (inP V p q m || (p == V (m * 2) && q == V (m * 2 + 1))) := by
  unfold inP; rw [List.range_succ, List.any_append]; simp
theorem inP_up (V : Nat → Int) (p q : Int) {k : Nat} (h : inP V p q k = true) : ∀ m, k ≤ m → inP V p q m = true
  | 0, hm => by rw [show k = 0 by omega] at h; exact h
  | m + 1, hm => by
    by_cases e : k = m + 1
    · rw [← e]; exact h
    · rw [inP_next, inP_up V p q h m (by omega)]; rfl
set_option maxRecDepth 20000 in
set_option maxHeartbeats 8000000 in
theorem index_pr {a : Option Addr} {m c : Nat} {V : Nat → Int} (p q : Int) (w : World) (h : Flat w a (m * 2) V) (hm : m ≤ 1048576) :
    Calls Try.prog 37 #[.slice a m c, .agg #[.int .i64 p, .int .i64 q]] w fun e w' => (∃ r : Int, e = .returned (.int .i64 r) ∧ decide (0 ≤ r) = inP V p q m) ∧ Below w.heap.size w w' := by
  have hset := cset_map
  have hE : Below w.heap.size w (w.alloc (.cells #[.int .i64 p, .int .i64 q] 48)) := (Below.refl _ _).alloc (Nat.le_refl _) _
  have v0 : (w.alloc (.cells #[.int .i64 p, .int .i64 q] 48)).cell? ⟨w.heap.size, 0, none⟩ = some (.int .i64 p) := by go_simp
  have v1 : (w.alloc (.cells #[.int .i64 p, .int .i64 q] 48)).cell? ⟨w.heap.size, 1, none⟩ = some (.int .i64 q) := by go_simp
  have hz : (w.alloc (.cells #[.int .i64 p, .int .i64 q] 48)).heap.size = w.heap.size + 1 := by simp
  have h1 := h.below hE
  go_enter Try.func37, Try.ntmps37
  go_upto_region 2 with fail
  generalize (w.alloc (.cells #[.int .i64 p, .int .i64 q] 48)) = w1 at hE v0 v1 hz h1 ⊢
  go_loopw [8] (fun s wr => ∃ k : Nat, k ≤ m ∧ s = .int .i64 (k : Int) ∧ inP V p q k = false ∧ Below w1.heap.size w1 wr) (fun s _ => m - (intOf s).toNat)
  case atStart => exact ⟨0, Nat.zero_le _, rfl, rfl, Below.refl _ _⟩
  case round =>
    obtain ⟨k, hk, rfl, hno, hB⟩ := hrel
    have b0 := (hB.cell (p := ⟨w.heap.size, 0, none⟩) (by show w.heap.size < w1.heap.size; omega)).trans v0
    have b1 := (hB.cell (p := ⟨w.heap.size, 1, none⟩) (by show w.heap.size < w1.heap.size; omega)).trans v1
    by_cases hlt : k < m
    · obtain ⟨b, o, rfl, hbl, hc⟩ := h1.below hB (by omega)
      have c0 := hc (k * 2) (by omega)
      have c1 := hc (k * 2 + 1) (by omega)
      rw [← Nat.add_assoc] at c1
      clear hc
      have hkm : (k : Int) < (m : Int) := by omega
      have hnx := inP_next V p q k
      rw [hno, Bool.false_or] at hnx
      have hev := eq_pair0 p q (V (k * 2)) (V (k * 2 + 1))
      cases he : (p == V (k * 2) && q == V (k * 2 + 1)) with
      | true =>
        rw [he] at hnx hev
        have hin := inP_up V p q hnx m (by omega)
        clear he hnx
        go_upto_region 4 with fail
        refine wp_region_held_drew (S := fun w' => w'.cell? ⟨w.heap.size, 0, none⟩ = some (.int .i64 p) ∧ w'.cell? ⟨w.heap.size, 1, none⟩ = some (.int .i64 q) ∧ w'.cell? ⟨b, o + k * 2, none⟩ = some (.int .i64 (V (k * 2))) ∧ w'.cell? ⟨b, o + k * 2 + 1, none⟩ = some (.int .i64 (V (k * 2 + 1)))) (by kernel_rfl) ?_ (fun hHeld => ?_)
        · (try dsimp only)
          (first | (go_simp; done) | (go_keep; done))
        refine tq 0 hHeld ?_
        refine tq 1 hHeld ?_
        refine tq 2 hHeld ?_
        refine tq 3 hHeld ?_
        refine tq 4 hHeld ?_
        refine tq 5 hHeld ?_
        refine wpAnyH_done (by kernel_rfl) ?_ _
        go_wp2_with fail
        go_ret
        exact ⟨⟨_, rfl, by rw [hin, decide_eq_true (by omega)]⟩, hE.trans ((hB.mono (by omega)).drew)⟩
      | false =>
        rw [he] at hnx hev
        clear he
        go_upto_region 4 with fail
        refine wp_region_held_drew (S := fun w' => w'.cell? ⟨w.heap.size, 0, none⟩ = some (.int .i64 p) ∧ w'.cell? ⟨w.heap.size, 1, none⟩ = some (.int .i64 q) ∧ w'.cell? ⟨b, o + k * 2, none⟩ = some (.int .i64 (V (k * 2))) ∧ w'.cell? ⟨b, o + k * 2 + 1, none⟩ = some (.int .i64 (V (k * 2 + 1)))) (by kernel_rfl) ?_ (fun hHeld => ?_)
        · (try dsimp only)
          (first | (go_simp; done) | (go_keep; done))
        refine tq 0 hHeld ?_
        refine tq 1 hHeld ?_
        refine tq 2 hHeld ?_
        refine tq 3 hHeld ?_
        refine tq 4 hHeld ?_
        refine tq 5 hHeld ?_
        refine wpAnyH_done (by kernel_rfl) ?_ _
        go_wp2_with fail
        go_roundw
        case rel => exact ⟨k + 1, by omega, by go_num, hnx, hB.drew⟩
        case measure => simp [intOf]; omega
    · obtain rfl : k = m := by omega
      go_wp2_with fail
      go_ret
      exact ⟨⟨_, rfl, by rw [hno]; rfl⟩, hE.trans (hB.mono (by omega))⟩
theorem contains_pr {a : Option Addr} {m c : Nat} {V : Nat → Int} (p q : Int) (w : World) (h : Flat w a (m * 2) V) (hm : m ≤ 1048576) (bo : Bool) (hb : inP V p q m = bo) :
    Calls Try.prog 27 #[.slice a m c, .agg #[.int .i64 p, .int .i64 q]] w fun e w' => e = .returned (.bool bo) ∧ Below w.heap.size w w' := by
  have hset := cset_map
  go_enter Try.func27, Try.ntmps27
  go_wp2_with (go_at_call 37; refine (index_pr p q _ (h.below ((Below.refl _ _).alloc (Nat.le_refl _) _)) hm).mono ?_; rintro e w1 ⟨⟨r, rfl, hr⟩, hb1⟩; rw [hb] at hr)
  go_ret
  have k1 := ((Below.refl w.heap.size w).alloc (Nat.le_refl _) (.cells #[.int .i64 p, .int .i64 q] 48)).trans (hb1.mono (by simp))
  exact ⟨by rw [← hr]; simp, k1⟩
set_option maxRecDepth 20000 in
set_option maxHeartbeats 8000000 in
theorem l4In_any {a : Option Addr} {m c : Nat} {V : Nat → Int} (p q : Int) (w : World) (h : Flat w a (m * 2) V) (hm : m ≤ 1048576) (bo : Bool) (hbo : inP V p q m = bo) :
    Calls Try.prog 26 #[.slice a m c, .agg #[.int .i64 p, .int .i64 q]] w fun e w' => e = .returned (.bool bo) ∧ Below w.heap.size w w' := by
  have hset := cset_map
  have hE : Below w.heap.size w (w.alloc (.cells #[.int .i64 p, .int .i64 q] 48)) := (Below.refl _ _).alloc (Nat.le_refl _) _
  have v0 : (w.alloc (.cells #[.int .i64 p, .int .i64 q] 48)).cell? ⟨w.heap.size, 0, none⟩ = some (.int .i64 p) := by go_simp
  have v1 : (w.alloc (.cells #[.int .i64 p, .int .i64 q] 48)).cell? ⟨w.heap.size, 1, none⟩ = some (.int .i64 q) := by go_simp
  have hz : (w.alloc (.cells #[.int .i64 p, .int .i64 q] 48)).heap.size = w.heap.size + 1 := by simp
  have h1 := h.below hE
  go_enter Try.func26, Try.ntmps26
  go_upto_region 1 with fail
  generalize (w.alloc (.cells #[.int .i64 p, .int .i64 q] 48)) = w1 at hE v0 v1 hz h1 ⊢
  go_wp2
  go_loopw [5] (fun s wr => ∃ k : Nat, k ≤ m ∧ s = .int .i64 (k : Int) ∧ inP V p q k = false ∧ Below w1.heap.size w1 wr) (fun s _ => m - (intOf s).toNat)
  case atStart => exact ⟨0, Nat.zero_le _, rfl, rfl, Below.refl _ _⟩
  case round =>
    obtain ⟨k, hk, rfl, hno, hB⟩ := hrel
    have b0 := (hB.cell (p := ⟨w.heap.size, 0, none⟩) (by show w.heap.size < w1.heap.size; omega)).trans v0
    have b1 := (hB.cell (p := ⟨w.heap.size, 1, none⟩) (by show w.heap.size < w1.heap.size; omega)).trans v1
    by_cases hlt : k < m
    · obtain ⟨b, o, rfl, hbl, hc⟩ := h1.below hB (by omega)
      have c0 := hc (k * 2) (by omega)
      have c1 := hc (k * 2 + 1) (by omega)
      rw [← Nat.add_assoc] at c1
      clear hc
      have hkm : (k : Int) < (m : Int) := by omega
      have hnx := inP_next V p q k
      rw [hno, Bool.false_or] at hnx
      have hev := eq_pair0 (V (k * 2)) (V (k * 2 + 1)) p q
      have hcm : (V (k * 2) == p && V (k * 2 + 1) == q) = (p == V (k * 2) && q == V (k * 2 + 1)) := by rw [beq_sw (V (k * 2)), beq_sw (V (k * 2 + 1))]
      rw [hcm] at hev
      clear hcm
      cases he : (p == V (k * 2) && q == V (k * 2 + 1)) with
      | true =>
        rw [he] at hnx hev
        have hin := inP_up V p q hnx m (by omega)
        rw [hbo] at hin
        subst hin
        clear he hnx
        go_upto_region 4 with fail
        refine wp_region_held_drew (S := fun w' => w'.cell? ⟨w.heap.size, 0, none⟩ = some (.int .i64 p) ∧ w'.cell? ⟨w.heap.size, 1, none⟩ = some (.int .i64 q) ∧ w'.cell? ⟨b, o + k * 2, none⟩ = some (.int .i64 (V (k * 2))) ∧ w'.cell? ⟨b, o + k * 2 + 1, none⟩ = some (.int .i64 (V (k * 2 + 1)))) (by kernel_rfl) ?_ (fun hHeld => ?_)
        · (try dsimp only)
          (first | (go_simp; done) | (go_keep; done))
        refine tq 0 hHeld ?_
        refine tq 1 hHeld ?_
        refine tq 2 hHeld ?_
        refine tq 3 hHeld ?_
        refine tq 4 hHeld ?_
        refine tq 5 hHeld ?_
        refine wpAnyH_done (by kernel_rfl) ?_ _
        go_wp2_with fail
        go_ret
        exact ⟨rfl, hE.trans ((hB.mono (by omega)).drew)⟩
      | false =>
        rw [he] at hnx hev
        clear he
        go_upto_region 4 with fail
        refine wp_region_held_drew (S := fun w' => w'.cell? ⟨w.heap.size, 0, none⟩ = some (.int .i64 p) ∧ w'.cell? ⟨w.heap.size, 1, none⟩ = some (.int .i64 q) ∧ w'.cell? ⟨b, o + k * 2, none⟩ = some (.int .i64 (V (k * 2))) ∧ w'.cell? ⟨b, o + k * 2 + 1, none⟩ = some (.int .i64 (V (k * 2 + 1)))) (by kernel_rfl) ?_ (fun hHeld => ?_)
        · (try dsimp only)
          (first | (go_simp; done) | (go_keep; done))
        refine tq 0 hHeld ?_
        refine tq 1 hHeld ?_
        refine tq 2 hHeld ?_
        refine tq 3 hHeld ?_
        refine tq 4 hHeld ?_
        refine tq 5 hHeld ?_
        refine wpAnyH_done (by kernel_rfl) ?_ _
        go_wp2_with fail
        go_roundw
        case rel => exact ⟨k + 1, by omega, by go_num, hnx, hB.drew⟩
        case measure => simp [intOf]; omega
    · obtain rfl : k = m := by omega
      rw [hno] at hbo
      subst hbo
      go_wp2_with fail
      go_ret
      exact ⟨rfl, hE.trans (hB.mono (by omega))⟩
end Go.Proofs.Ytcbgcochpflblaa
namespace Go.Proofs.Ytcbgcochpflblaa
open Go.RowKit
set_option linter.unusedVariables false
set_option linter.unusedSimpArgs false
theorem OwnL.set {w : World} {base t k n g c : Nat} {U : Nat → Int} (h : OwnL w base t k (.slice (Option.some ⟨g, 0, none⟩) n c) n U) (q : Nat) (hq : q < n * k) (x : Int) : OwnL (w.setCell ⟨g, q, none⟩ (.int .i64 x)) base t k (.slice (Option.some ⟨g, 0, none⟩) n c) n (fun r => if r = q then x else U r) := by
  rcases h.2 with ⟨hv, hn⟩ | ⟨g', cap, cur, hv, hb, hg, hle, hm, hs, ht⟩
  · simp at hv
  · simp only [Value.slice.injEq, Option.some.injEq, Addr.mk.injEq, and_true, true_and] at hv
    obtain ⟨rfl, rfl⟩ := hv
    refine ⟨by rw [numL_len], .inr ⟨g, c, cur.setIfInBounds q (.int .i64 x), rfl, hb, ?_, hle, hm, by simpa using hs, ?_⟩⟩
    · simp [World.setCell, Array.getElem?_modify, hg]
    · apply List.ext_getElem?
      intro r
      by_cases hr : r < n * k
      · have h1 : cur.toList[r]? = Option.some (.int .i64 (U r)) := by
          have := congrArg (fun l => l[r]?) ht
          simpa [List.getElem?_take, hr, numL_get hr] using this
        rw [List.getElem?_take, if_pos hr, numL_get hr, Array.toList_setIfInBounds, List.getElem?_set]
        by_cases e : q = r
        · subst e
          have : q < cur.toList.length := (List.getElem?_eq_some_iff.1 h1).1
          rw [if_pos rfl, if_pos (by simpa using this)]; simp
        · rw [if_neg e, h1, if_neg (fun z => e z.symm)]
      · rw [List.getElem?_eq_none (by simp; omega), List.getElem?_eq_none (by rw [numL_len]; omega)]
theorem OwnL.at {w : World} {base t k n c : Nat} {a : Option Addr} {U : Nat → Int} (h : OwnL w base t k (.slice a n c) n U) (h0 : 0 < n) : ∃ g, a = Option.some ⟨g, 0, none⟩ ∧ base ≤ g ∧ g < w.heap.size := by
  rcases h.2 with ⟨hv, hn⟩ | ⟨g, cap, cur, hv, hb, hg, _⟩
  · omega
  · simp only [Value.slice.injEq, true_and] at hv
    exact ⟨g, hv.1, hb, (Array.getElem?_eq_some_iff.1 hg).1⟩
theorem OwnL.cell {w : World} {base t k n g c : Nat} {U : Nat → Int} (h : OwnL w base t k (.slice (Option.some ⟨g, 0, none⟩) n c) n U) {q : Nat} (hq : q < n * k) : w.cell? ⟨g, q, none⟩ = Option.some (.int .i64 (U q)) := by
  obtain ⟨b, o, e, _, cc⟩ := h.flat (by omega)
  simp only [Option.some.injEq, Addr.mk.injEq, and_true] at e
  obtain ⟨rfl, rfl⟩ := e
  have := cc q hq
  rwa [Nat.zero_add] at this
theorem mark5 {w wr : World} {base g n c j : Nat} {U : Nat → Int} (hlt : j < n) (ho : OwnL wr base 59 5 (.slice (some ⟨g, 0, none⟩) n c) n (mixU (j * 5) U)) (hg : w.grownBy wr (Value.slice (some ⟨g, 0, none⟩) n c).ownBlock) :
    OwnL (((((wr.setCell ⟨g, j * 5, none⟩ (.int .i64 (1 + (j : Int) * 5))).setCell ⟨g, j * 5 + 1, none⟩ (.int .i64 (1 + (j : Int) * 5 + 1))).setCell ⟨g, j * 5 + 2, none⟩ (.int .i64 (1 + (j : Int) * 5 + 1 + 1))).setCell ⟨g, j * 5 + 3, none⟩ (.int .i64 (1 + (j : Int) * 5 + 1 + 1 + 1))).setCell ⟨g, j * 5 + 4, none⟩ (.int .i64 (1 + (j : Int) * 5 + 1 + 1 + 1 + 1))) base 59 5 (.slice (some ⟨g, 0, none⟩) n c) n (mixU ((j + 1) * 5) U) ∧
    w.grownBy (((((wr.setCell ⟨g, j * 5, none⟩ (.int .i64 (1 + (j : Int) * 5))).setCell ⟨g, j * 5 + 1, none⟩ (.int .i64 (1 + (j : Int) * 5 + 1))).setCell ⟨g, j * 5 + 2, none⟩ (.int .i64 (1 + (j : Int) * 5 + 1 + 1))).setCell ⟨g, j * 5 + 3, none⟩ (.int .i64 (1 + (j : Int) * 5 + 1 + 1 + 1))).setCell ⟨g, j * 5 + 4, none⟩ (.int .i64 (1 + (j : Int) * 5 + 1 + 1 + 1 + 1))) (Value.slice (some ⟨g, 0, none⟩) n c).ownBlock := by
  have q1 := ho.mark (by omega) (x := 1 + (j : Int) * 5) (by omega)
  have q2 := q1.mark (by omega) (x := 1 + (j : Int) * 5 + 1) (by omega)
  have q3 := q2.mark (by omega) (x := 1 + (j : Int) * 5 + 1 + 1) (by omega)
  have q4 := q3.mark (by omega) (x := 1 + (j : Int) * 5 + 1 + 1 + 1) (by omega)
  have q5 := q4.mark (by omega) (x := 1 + (j : Int) * 5 + 1 + 1 + 1 + 1) (by omega)
  refine ⟨?_, ?_⟩
  · rw [show (j + 1) * 5 = j * 5 + 1 + 1 + 1 + 1 + 1 by omega]
    exact q5
  · have h0 : w.grownBy wr (some g) := hg
    exact grown_trans (grown_trans (grown_trans (grown_trans (grown_trans h0 (grown_setG _ _ _ _)) (grown_setG _ _ _ _)) (grown_setG _ _ _ _)) (grown_setG _ _ _ _)) (grown_setG _ _ _ _)
set_option maxHeartbeats 1000000 in
theorem markItemS_any (base : Nat) (a : Option Addr) (n c : Nat) (U : Nat → Int) (w : World) (h : OwnL w base 59 5 (.slice a n c) n U) (hn : n ≤ 2097152) :
    Calls Try.prog 25 #[.slice a n c, .int .i64 1] w fun e w' => e = .returned (.int .i64 (1 + (n : Int) * 5)) ∧ OwnL w' base 59 5 (.slice a n c) n (fun q => 1 + (q : Int)) ∧ w.grownBy w' (Value.slice a n c).ownBlock := by
  have hset := cset_map
  go_enter Try.func25, Try.ntmps25
  go_wp2
  go_loopw [1, 5] (fun s i wr => ∃ j : Nat, j ≤ n ∧ i = .int .i64 (j : Int) ∧ s = .int .i64 (1 + (j : Int) * 5) ∧ OwnL wr base 59 5 (.slice a n c) n (mixU (j * 5) U) ∧ w.grownBy wr (Value.slice a n c).ownBlock) (fun _ i _ => n - (intOf i).toNat)
  case atStart => exact ⟨0, Nat.zero_le _, rfl, rfl, h.congr (fun q _ => by simp [mixU]), grown_refl _ _⟩
  case round =>
    obtain ⟨j, hj, rfl, rfl, ho, hg⟩ := hrel
    by_cases hlt : j < n
    · have hjn : (j : Int) < (n : Int) := by omega
      obtain ⟨g, rfl, hgb, hgl⟩ := ho.at (by omega)
      have c0 := ho.cell (q := j * 5) (by omega)
      have c1 := ho.cell (q := j * 5 + 1) (by omega)
      have c2 := ho.cell (q := j * 5 + 2) (by omega)
      have c3 := ho.cell (q := j * 5 + 3) (by omega)
      have c4 := ho.cell (q := j * 5 + 4) (by omega)
      have f0 := ho.fro
      go_wp2
      go_roundw
      case rel =>
        obtain ⟨r1, r2⟩ := mark5 hlt ho hg
        exact ⟨j + 1, by omega, by go_num, congrArg (Value.int .i64) (by omega), r1, r2⟩
      case measure => simp [intOf]; omega
    · obtain rfl : j = n := by omega
      go_wp2
      go_ret
      exact ⟨rfl, ho.congr (fun q hq => by simp [mixU, hq]), hg⟩
theorem markBroad_any (base : Nat) (a : Option Addr) (n c : Nat) (U : Nat → Int) (w : World) (h : OwnL w base 59 5 (.slice a n c) n U) (hn : n ≤ 2097152) :
    Calls Try.prog 11 #[.agg #[.slice a n c], .int .i64 1] w fun e w' => e = .returned (.int .i64 (1 + (n : Int) * 5)) ∧ OwnL w' base 59 5 (.slice a n c) n (fun q => 1 + (q : Int)) ∧ w.grownBy w' (Value.slice a n c).ownBlock := by
  have hset := cset_map
  have h3 := h.below ((Below.refl _ w).alloc (Nat.le_refl _) (.cells #[.slice a n c] 30))
  go_enter Try.func11, Try.ntmps11
  go_wp2_with (go_at_call 25; refine (markItemS_any base _ _ _ U _ h3 hn).mono ?_; rintro e w1 ⟨rfl, ho1, hg1⟩)
  go_ret
  exact ⟨rfl, ho1, grown_trans (World.grownBy_alloc w _ _) hg1⟩
end Go.Proofs.Ytcbgcochpflblaa
