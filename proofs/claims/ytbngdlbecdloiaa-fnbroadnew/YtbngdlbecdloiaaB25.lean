/- The contract of the draw of any box. Whether a pair is among some. -/
import Derived.Test.YtbngdlbecdloiaaDrawBw
import Derived.Test.YtbngdlbecdloiaaB10
import Derived.Test.YtbngdlbecdloiaaB21
import Derived.Test.YtbngdlbecdloiaaB4
import Derived.Deep.RegionHeld3
import Derived.Deep.DeepCutAuto
set_option maxHeartbeats 16000000
set_option maxRecDepth 20000
namespace Go.Proofs.Ytbngdlbecdloiaa
open Go.RowKit
set_option linter.unusedVariables false
set_option linter.unusedSimpArgs false

set_option maxHeartbeats 2000000 in
theorem l11AnyBox_s (rb p : Nat) (w : World) (hs0 : RS w rb p) (hp : p ≤ 988000) :
    Calls Try.prog 37 #[.pointer (some ⟨rb, 0, none⟩)] w fun e w' => ∃ a b c d : Int, e = .returned (b4 a b c d) ∧ ((Bn a ∧ Bn b) ∧ Bn c ∧ Bn d) ∧ RB w w' rb (p + 6000) := by
  have hlt := hs0.lt
  have hne : (w.heap.size = rb) = False := eq_false (by omega)
  have hset := cset_map
  go_enter Try.func37, Try.ntmps37
  go_wp2_with (first
    | (have _ := hr1; go_at_call 36; refine (pick_s rb (p + 2000) _ _ (by repeat (first | (with_reducible apply RS.setNew; rotate_left; (first | omega | (simp only [World.size_drew, World.size_alloc, World.size_setCell]; omega))) | with_reducible apply RS.alloc | (with_reducible apply RS.up hr1; omega) | (with_reducible apply RS.mono hs0; omega) | with_reducible apply RS.drew | with_reducible apply RS.drewN)) (by omega) (by omega) (by omega)).mono ?_; rintro e w2 ⟨v2, rfl, va2, vb2, hr2⟩; obtain ⟨hc2, hf2⟩ := RB.cells hr2; have hz2 := RB.size hr2; (try simp only [World.size_drew, World.size_alloc, World.size_setCell] at hc2 hf2 hz2); have hq2x0 : w.heap.size < w2.heap.size := (by omega); have ha2x0 : (w2.heap.size = w.heap.size) = False := eq_false (by omega); have hb2x0 : (w.heap.size = w2.heap.size) = False := eq_false (by omega); have he2x0 : (w.heap.size = rb) = False := eq_false (by omega); have hk2x0 := fun o => hc2 (w.heap.size) o (by omega) (by omega); have hj2x0 := fun o => hf2 (w.heap.size) o (by omega) (by omega); have hq2x1 : w1.heap.size < w2.heap.size := (by omega); have ha2x1 : (w2.heap.size = w1.heap.size) = False := eq_false (by omega); have hb2x1 : (w1.heap.size = w2.heap.size) = False := eq_false (by omega); have he2x1 : (w1.heap.size = rb) = False := eq_false (by omega); have hk2x1 := fun o => hc2 (w1.heap.size) o (by omega) (by omega); have hj2x1 := fun o => hf2 (w1.heap.size) o (by omega) (by omega))
    | (have _ := hr2; go_at_call 35; refine (one_s (-1000000001) 1 rb (p + 3000) _ _ _ _ _ (by repeat (first | (with_reducible apply RS.setNew; rotate_left; (first | omega | (simp only [World.size_drew, World.size_alloc, World.size_setCell]; omega))) | with_reducible apply RS.alloc | (with_reducible apply RS.up hr2; omega) | (with_reducible apply RS.mono hs0; omega) | with_reducible apply RS.drew | with_reducible apply RS.drewN)) (by omega) (by repeat (first | exact AllBd.nil | refine AllBd.cons (by omega) (by omega) ?_)) (by rfl) (by omega) (by omega)).mono ?_; rintro e w3 ⟨v3, rfl, va3, vb3, hr3⟩; obtain ⟨hc3, hf3⟩ := RB.cells hr3; have hz3 := RB.size hr3; (try simp only [World.size_drew, World.size_alloc, World.size_setCell] at hc3 hf3 hz3); have hq3x0 : w.heap.size < w3.heap.size := (by omega); have ha3x0 : (w3.heap.size = w.heap.size) = False := eq_false (by omega); have hb3x0 : (w.heap.size = w3.heap.size) = False := eq_false (by omega); have he3x0 : (w.heap.size = rb) = False := eq_false (by omega); have hk3x0 := fun o => hc3 (w.heap.size) o (by omega) (by omega); have hj3x0 := fun o => hf3 (w.heap.size) o (by omega) (by omega); have hq3x1 : w1.heap.size < w3.heap.size := (by omega); have ha3x1 : (w3.heap.size = w1.heap.size) = False := eq_false (by omega); have hb3x1 : (w1.heap.size = w3.heap.size) = False := eq_false (by omega); have he3x1 : (w1.heap.size = rb) = False := eq_false (by omega); have hk3x1 := fun o => hc3 (w1.heap.size) o (by omega) (by omega); have hj3x1 := fun o => hf3 (w1.heap.size) o (by omega) (by omega))
    | (go_at_call 56; refine (l11Box_s rb (p + 1000) _ (by repeat (first | (with_reducible apply RS.setNew; rotate_left; (first | omega | (simp only [World.size_drew, World.size_alloc, World.size_setCell]; omega))) | with_reducible apply RS.alloc | (with_reducible apply RS.mono hs0; omega) | with_reducible apply RS.drew | with_reducible apply RS.drewN)) (by omega)).mono ?_; rintro e w1 ⟨a1, b1, c1, d1, rfl, hd1, hr1⟩; obtain ⟨hc1, hf1⟩ := RB.cells hr1; have hz1 := RB.size hr1; (try simp only [World.size_drew, World.size_alloc, World.size_setCell] at hc1 hf1 hz1); have hq1x0 : w.heap.size < w1.heap.size := (by omega); have ha1x0 : (w1.heap.size = w.heap.size) = False := eq_false (by omega); have hb1x0 : (w.heap.size = w1.heap.size) = False := eq_false (by omega); have he1x0 : (w.heap.size = rb) = False := eq_false (by omega); have hk1x0 := fun o => hc1 (w.heap.size) o (by omega) (by omega); have hj1x0 := fun o => hf1 (w.heap.size) o (by omega) (by omega); obtain ⟨⟨⟨a1a, a1b⟩, ⟨b1a, b1b⟩⟩, ⟨c1a, c1b⟩, ⟨d1a, d1b⟩⟩ := hd1))
  · exact bodyPost_ret (v := b4 a1 b1 (a1 - 1) d1) (by simp [results, Try.results37, go_sem, *]) rfl ⟨_, _, _, _, rfl, ⟨⟨Bn.mk ⟨by omega, by omega⟩, Bn.mk ⟨by omega, by omega⟩⟩, Bn.mk ⟨by omega, by omega⟩, Bn.mk ⟨by omega, by omega⟩⟩, RB.mk (by repeat (first | (with_reducible apply But.setNew; rotate_left; (first | omega | (simp only [World.size_drew, World.size_alloc, World.size_setCell]; omega))) | with_reducible apply But.alloc | with_reducible apply But.trans (k := RB.but hr2) | with_reducible apply But.trans (k := RB.but hr1) | with_reducible apply But.refl | with_reducible apply But.drewN | with_reducible apply But.drew)) (by repeat (first | (with_reducible apply RS.setNew; rotate_left; (first | omega | (simp only [World.size_drew, World.size_alloc, World.size_setCell]; omega))) | with_reducible apply RS.alloc | (with_reducible apply RS.up hr2; omega) | (with_reducible apply RS.up hr1; omega) | (with_reducible apply RS.mono hs0; omega) | with_reducible apply RS.drew | with_reducible apply RS.drewN))⟩
  · exact bodyPost_ret (v := b4 a1 v3 c1 d1) (by simp [results, Try.results37, go_sem, *]) rfl ⟨_, _, _, _, rfl, ⟨⟨Bn.mk ⟨by omega, by omega⟩, Bn.mk ⟨by omega, by omega⟩⟩, Bn.mk ⟨by omega, by omega⟩, Bn.mk ⟨by omega, by omega⟩⟩, RB.mk (by repeat (first | (with_reducible apply But.setNew; rotate_left; (first | omega | (simp only [World.size_drew, World.size_alloc, World.size_setCell]; omega))) | with_reducible apply But.alloc | with_reducible apply But.trans (k := RB.but hr3) | with_reducible apply But.trans (k := RB.but hr2) | with_reducible apply But.trans (k := RB.but hr1) | with_reducible apply But.refl | with_reducible apply But.drewN | with_reducible apply But.drew)) (by repeat (first | (with_reducible apply RS.setNew; rotate_left; (first | omega | (simp only [World.size_drew, World.size_alloc, World.size_setCell]; omega))) | with_reducible apply RS.alloc | (with_reducible apply RS.up hr3; omega) | (with_reducible apply RS.up hr2; omega) | (with_reducible apply RS.up hr1; omega) | (with_reducible apply RS.mono hs0; omega) | with_reducible apply RS.drew | with_reducible apply RS.drewN))⟩
  · exact bodyPost_ret (v := b4 a1 b1 1000000000 1000000000) (by simp [results, Try.results37, go_sem, *]) rfl ⟨_, _, _, _, rfl, ⟨⟨Bn.mk ⟨by omega, by omega⟩, Bn.mk ⟨by omega, by omega⟩⟩, Bn.mk ⟨by omega, by omega⟩, Bn.mk ⟨by omega, by omega⟩⟩, RB.mk (by repeat (first | (with_reducible apply But.setNew; rotate_left; (first | omega | (simp only [World.size_drew, World.size_alloc, World.size_setCell]; omega))) | with_reducible apply But.alloc | with_reducible apply But.trans (k := RB.but hr2) | with_reducible apply But.trans (k := RB.but hr1) | with_reducible apply But.refl | with_reducible apply But.drewN | with_reducible apply But.drew)) (by repeat (first | (with_reducible apply RS.setNew; rotate_left; (first | omega | (simp only [World.size_drew, World.size_alloc, World.size_setCell]; omega))) | with_reducible apply RS.alloc | (with_reducible apply RS.up hr2; omega) | (with_reducible apply RS.up hr1; omega) | (with_reducible apply RS.mono hs0; omega) | with_reducible apply RS.drew | with_reducible apply RS.drewN))⟩
  · exact bodyPost_ret (v := b4 a1 b1 c1 d1) (by simp [results, Try.results37, go_sem, *]) rfl ⟨_, _, _, _, rfl, ⟨⟨Bn.mk ⟨by omega, by omega⟩, Bn.mk ⟨by omega, by omega⟩⟩, Bn.mk ⟨by omega, by omega⟩, Bn.mk ⟨by omega, by omega⟩⟩, RB.mk (by repeat (first | (with_reducible apply But.setNew; rotate_left; (first | omega | (simp only [World.size_drew, World.size_alloc, World.size_setCell]; omega))) | with_reducible apply But.alloc | with_reducible apply But.trans (k := RB.but hr2) | with_reducible apply But.trans (k := RB.but hr1) | with_reducible apply But.refl | with_reducible apply But.drewN | with_reducible apply But.drew)) (by repeat (first | (with_reducible apply RS.setNew; rotate_left; (first | omega | (simp only [World.size_drew, World.size_alloc, World.size_setCell]; omega))) | with_reducible apply RS.alloc | (with_reducible apply RS.up hr2; omega) | (with_reducible apply RS.up hr1; omega) | (with_reducible apply RS.mono hs0; omega) | with_reducible apply RS.drew | with_reducible apply RS.drewN))⟩
end Go.Proofs.Ytbngdlbecdloiaa
namespace Go.Proofs.Ytbngdlbecdloiaa
open Go.RowKit
set_option linter.unusedVariables false
set_option linter.unusedSimpArgs false
theorem run_eq_pair (n d : Nat) (hn : n = d + 1) (a b x y : Int) (w : World) : (Op.equalIn (n + 1) 48 (.agg #[.int .i64 a, .int .i64 b]) (.agg #[.int .i64 x, .int .i64 y])).run Try.prog w = .ok (a == x && b == y) w := by
  have hi : Try.prog.underlying 3 = some (.int .i64) := by kernel_rfl
  have hs : Try.prog.stoodInHeld 48 = false := by kernel_rfl
  have hp : ∀ w, (program).run Try.prog w = .ok Try.prog w := fun w => by rfl
  have p0 : ∀ (a b : Int) w, (part 3 #[.int .i64 a, .int .i64 b] 0).run Try.prog w = .ok (.int .i64 a) w := fun a b w => by kernel_rfl
  have p1 : ∀ (a b : Int) w, (part 3 #[.int .i64 a, .int .i64 b] 1).run Try.prog w = .ok (.int .i64 b) w := fun a b w => by kernel_rfl
  simp only [Op.equalIn, Sem.run_bind, run_underlying Try.underlying48, Result.andThen_ok, hp, hs, Bool.false_eq_true, if_false, Sem.run_pure]
  subst hn
  have h0 : ∀ w, (Op.equalIn (d + 1) 3 (.int .i64 a) (.int .i64 x)).run Try.prog w = .ok (a == x) w := fun w => run_equalIn_int w d 3 .i64 .i64 a x hi
  have h1 : ∀ w, (Op.equalIn (d + 1) 3 (.int .i64 b) (.int .i64 y)).run Try.prog w = .ok (b == y) w := fun w => run_equalIn_int w d 3 .i64 .i64 b y hi
  simp only [List.forIn_toArray, List.forIn_cons, List.forIn_nil, Sem.run_bind, p0, h0, Result.andThen_ok, Sem.run_ite, Sem.run_pure]
  cases hx : (a == x) <;> cases hy : (b == y) <;> simp [Sem.run_bind, p0, p1, h0, h1, Sem.run_ite, hx, hy]
theorem eq_pair0 (a b x y : Int) (w : World) : (Op.equalIn 10000 48 (.agg #[.int .i64 a, .int .i64 b]) (.agg #[.int .i64 x, .int .i64 y])).run Try.prog w = .ok (a == x && b == y) w := run_eq_pair 9999 9998 rfl a b x y w
theorem beq_sw (a b : Int) : (a == b) = (b == a) := by rw [Bool.eq_iff_iff, beq_iff_eq, beq_iff_eq]; exact eq_comm
/-- whether the pair p, q is among the first m -/
def inP (V : Nat → Int) (p q : Int) (m : Nat) : Bool := (List.range m).any fun j => p == V (j * 2) && q == V (j * 2 + 1)
theorem inP_next (V : Nat → Int) (p q : Int) (m : Nat) : inP V p q (m + 1) = (inP V p q m || (p == V (m * 2) && q == V (m * 2 + 1))) := by
  unfold inP; rw [List.range_succ, List.any_append]; simp
theorem inP_up (V : Nat → Int) (p q : Int) {k : Nat} (h : inP V p q k = true) : ∀ m, k ≤ m → inP V p q m = true
  | 0, hm => by rw [show k = 0 by omega] at h; exact h
  | m + 1, hm => by
    by_cases e : k = m + 1
    · rw [← e]; exact h
    · rw [inP_next, inP_up V p q h m (by omega)]; rfl
set_option maxRecDepth 20000 in
set_option maxHeartbeats 8000000 in
theorem index_pr {a : Option Addr} {m c : Nat} {V : Nat → Int} (p q : Int) (w : World) (h : Flat w a (m * 2) V) (hm : m ≤ 1048576) :
    Calls Try.prog 70 #[.slice a m c, .agg #[.int .i64 p, .int .i64 q]] w fun e w' => (∃ r : Int, e = .returned (.int .i64 r) ∧ decide (0 ≤ r) = inP V p q m) ∧ Below w.heap.size w w' := by
  have hset := cset_map
  have hE : Below w.heap.size w (w.alloc (.cells #[.int .i64 p, .int .i64 q] 48)) := (Below.refl _ _).alloc (Nat.le_refl _) _
  have v0 : (w.alloc (.cells #[.int .i64 p, .int .i64 q] 48)).cell? ⟨w.heap.size, 0, none⟩ = some (.int .i64 p) := by go_simp
  have v1 : (w.alloc (.cells #[.int .i64 p, .int .i64 q] 48)).cell? ⟨w.heap.size, 1, none⟩ = some (.int .i64 q) := by go_simp
  have hz : (w.alloc (.cells #[.int .i64 p, .int .i64 q] 48)).heap.size = w.heap.size + 1 := by simp
  have h1 := h.below hE
  go_enter Try.func70, Try.ntmps70
  go_upto_region 2 with fail
  generalize (w.alloc (.cells #[.int .i64 p, .int .i64 q] 48)) = w1 at hE v0 v1 hz h1 ⊢
  go_loopw [8] (fun s wr => ∃ k : Nat, k ≤ m ∧ s = .int .i64 (k : Int) ∧ inP V p q k = false ∧ Below w1.heap.size w1 wr) (fun s _ => m - (intOf s).toNat)
  case atStart => exact ⟨0, Nat.zero_le _, rfl, rfl, Below.refl _ _⟩
  case round =>
    obtain ⟨k, hk, rfl, hno, hB⟩ := hrel
    have b0 := (hB.cell (p := ⟨w.heap.size, 0, none⟩) (by show w.heap.size < w1.heap.size; omega)).trans v0
    have b1 := (hB.cell (p := ⟨w.heap.size, 1, none⟩) (by show w.heap.size < w1.heap.size; omega)).trans v1
    by_cases hlt : k < m
    · obtain ⟨b, o, rfl, hbl, hc⟩ := h1.below hB (by omega)
      have c0 := hc (k * 2) (by omega)
      have c1 := hc (k * 2 + 1) (by omega)
      rw [← Nat.add_assoc] at c1
      clear hc
      have hkm : (k : Int) < (m : Int) := by omega
      have hnx := inP_next V p q k
      rw [hno, Bool.false_or] at hnx
      have hev := eq_pair0 p q (V (k * 2)) (V (k * 2 + 1))
      cases he : (p == V (k * 2) && q == V (k * 2 + 1)) with
      | true =>
        rw [he] at hnx hev
        have hin := inP_up V p q hnx m (by omega)
        clear he hnx
        go_upto_region 4 with fail
        refine wp_region_held_drew (S := fun w' => w'.cell? ⟨w.heap.size, 0, none⟩ = some (.int .i64 p) ∧ w'.cell? ⟨w.heap.size, 1, none⟩ = some (.int .i64 q) ∧ w'.cell? ⟨b, o + k * 2, none⟩ = some (.int .i64 (V (k * 2))) ∧ w'.cell? ⟨b, o + k * 2 + 1, none⟩ = some (.int .i64 (V (k * 2 + 1)))) (by kernel_rfl) ?_ (fun hHeld => ?_)
        · (try dsimp only)
          (first | (go_simp; done) | (go_keep; done))
        refine tq 0 hHeld ?_
        refine tq 1 hHeld ?_
        refine tq 2 hHeld ?_
        refine tq 3 hHeld ?_
        refine tq 4 hHeld ?_
        refine tq 5 hHeld ?_
        refine wpAnyH_done (by kernel_rfl) ?_ _
        go_wp2_with fail
        go_ret
        exact ⟨⟨_, rfl, by rw [hin, decide_eq_true (by omega)]⟩, hE.trans ((hB.mono (by omega)).drew)⟩
      | false =>
        rw [he] at hnx hev
        clear he
        go_upto_region 4 with fail
        refine wp_region_held_drew (S := fun w' => w'.cell? ⟨w.heap.size, 0, none⟩ = some (.int .i64 p) ∧ w'.cell? ⟨w.heap.size, 1, none⟩ = some (.int .i64 q) ∧ w'.cell? ⟨b, o + k * 2, none⟩ = some (.int .i64 (V (k * 2))) ∧ w'.cell? ⟨b, o + k * 2 + 1, none⟩ = some (.int .i64 (V (k * 2 + 1)))) (by kernel_rfl) ?_ (fun hHeld => ?_)
        · (try dsimp only)
          (first | (go_simp; done) | (go_keep; done))
        refine tq 0 hHeld ?_
        refine tq 1 hHeld ?_
        refine tq 2 hHeld ?_
        refine tq 3 hHeld ?_
        refine tq 4 hHeld ?_
        refine tq 5 hHeld ?_
        refine wpAnyH_done (by kernel_rfl) ?_ _
        go_wp2_with fail
        go_roundw
        case rel => exact ⟨k + 1, by omega, by go_num, hnx, hB.drew⟩
        case measure => simp [intOf]; omega
    · obtain rfl : k = m := by omega
      go_wp2_with fail
      go_ret
      exact ⟨⟨_, rfl, by rw [hno]; rfl⟩, hE.trans (hB.mono (by omega))⟩
theorem contains_pr {a : Option Addr} {m c : Nat} {V : Nat → Int} (p q : Int) (w : World) (h : Flat w a (m * 2) V) (hm : m ≤ 1048576) (bo : Bool) (hb : inP V p q m = bo) :
    Calls Try.prog 57 #[.slice a m c, .agg #[.int .i64 p, .int .i64 q]] w fun e w' => e = .returned (.bool bo) ∧ Below w.heap.size w w' := by
  have hset := cset_map
  go_enter Try.func57, Try.ntmps57
  go_wp2_with (go_at_call 70; refine (index_pr p q _ (h.below ((Below.refl _ _).alloc (Nat.le_refl _) _)) hm).mono ?_; rintro e w1 ⟨⟨r, rfl, hr⟩, hb1⟩; rw [hb] at hr)
  go_ret
  have k1 := ((Below.refl w.heap.size w).alloc (Nat.le_refl _) (.cells #[.int .i64 p, .int .i64 q] 48)).trans (hb1.mono (by simp))
  exact ⟨by rw [← hr]; simp, k1⟩
set_option maxRecDepth 20000 in
set_option maxHeartbeats 8000000 in
theorem l4In_any {a : Option Addr} {m c : Nat} {V : Nat → Int} (p q : Int) (w : World) (h : Flat w a (m * 2) V) (hm : m ≤ 1048576) (bo : Bool) (hbo : inP V p q m = bo) :
    Calls Try.prog 58 #[.slice a m c, .agg #[.int .i64 p, .int .i64 q]] w fun e w' => e = .returned (.bool bo) ∧ Below w.heap.size w w' := by
  have hset := cset_map
  have hE : Below w.heap.size w (w.alloc (.cells #[.int .i64 p, .int .i64 q] 48)) := (Below.refl _ _).alloc (Nat.le_refl _) _
  have v0 : (w.alloc (.cells #[.int .i64 p, .int .i64 q] 48)).cell? ⟨w.heap.size, 0, none⟩ = some (.int .i64 p) := by go_simp
  have v1 : (w.alloc (.cells #[.int .i64 p, .int .i64 q] 48)).cell? ⟨w.heap.size, 1, none⟩ = some (.int .i64 q) := by go_simp
  have hz : (w.alloc (.cells #[.int .i64 p, .int .i64 q] 48)).heap.size = w.heap.size + 1 := by simp
  have h1 := h.below hE
  go_enter Try.func58, Try.ntmps58
  go_upto_region 1 with fail
  generalize (w.alloc (.cells #[.int .i64 p, .int .i64 q] 48)) = w1 at hE v0 v1 hz h1 ⊢
  go_wp2
  go_loopw [5] (fun s wr => ∃ k : Nat, k ≤ m ∧ s = .int .i64 (k : Int) ∧ inP V p q k = false ∧ Below w1.heap.size w1 wr) (fun s _ => m - (intOf s).toNat)
  case atStart => exact ⟨0, Nat.zero_le _, rfl, rfl, Below.refl _ _⟩
  case round =>
    obtain ⟨k, hk, rfl, hno, hB⟩ := hrel
    have b0 := (hB.cell (p := ⟨w.heap.size, 0, none⟩) (by show w.heap.size < w1.heap.size; omega)).trans v0
    have b1 := (hB.cell (p := ⟨w.heap.size, 1, none⟩) (by show w.heap.size < w1.heap.size; omega)).trans v1
    by_cases hlt : k < m
    · obtain ⟨b, o, rfl, hbl, hc⟩ := h1.below hB (by omega)
      have c0 := hc (k * 2) (by omega)
      have c1 := hc (k * 2 + 1) (by omega)
      rw [← Nat.add_assoc] at c1
      clear hc
      have hkm : (k : Int) < (m : Int) := by omega
      have hnx := inP_next V p q k
      rw [hno, Bool.false_or] at hnx
      have hev := eq_pair0 (V (k * 2)) (V (k * 2 + 1)) p q
      have hcm : (V (k * 2) == p && V (k * 2 + 1) == q) = (p == V (k * 2) && q == V (k * 2 + 1)) := by rw [beq_sw (V (k * 2)), beq_sw (V (k * 2 + 1))]
      rw [hcm] at hev
      clear hcm
      cases he : (p == V (k * 2) && q == V (k * 2 + 1)) with
      | true =>
        rw [he] at hnx hev
        have hin := inP_up V p q hnx m (by omega)
        rw [hbo] at hin
        subst hin
        clear he hnx
        go_upto_region 4 with fail
        refine wp_region_held_drew (S := fun w' => w'.cell? ⟨w.heap.size, 0, none⟩ = some (.int .i64 p) ∧ w'.cell? ⟨w.heap.size, 1, none⟩ = some (.int .i64 q) ∧ w'.cell? ⟨b, o + k * 2, none⟩ = some (.int .i64 (V (k * 2))) ∧ w'.cell? ⟨b, o + k * 2 + 1, none⟩ = some (.int .i64 (V (k * 2 + 1)))) (by kernel_rfl) ?_ (fun hHeld => ?_)
        · (try dsimp only)
          (first | (go_simp; done) | (go_keep; done))
        refine tq 0 hHeld ?_
        refine tq 1 hHeld ?_
        refine tq 2 hHeld ?_
        refine tq 3 hHeld ?_
        refine tq 4 hHeld ?_
        refine tq 5 hHeld ?_
        refine wpAnyH_done (by kernel_rfl) ?_ _
        go_wp2_with fail
        go_ret
        exact ⟨rfl, hE.trans ((hB.mono (by omega)).drew)⟩
      | false =>
        rw [he] at hnx hev
        clear he
        go_upto_region 4 with fail
        refine wp_region_held_drew (S := fun w' => w'.cell? ⟨w.heap.size, 0, none⟩ = some (.int .i64 p) ∧ w'.cell? ⟨w.heap.size, 1, none⟩ = some (.int .i64 q) ∧ w'.cell? ⟨b, o + k * 2, none⟩ = some (.int .i64 (V (k * 2))) ∧ w'.cell? ⟨b, o + k * 2 + 1, none⟩ = some (.int .i64 (V (k * 2 + 1)))) (by kernel_rfl) ?_ (fun hHeld => ?_)
        · (try dsimp only)
          (first | (go_simp; done) | (go_keep; done))
        refine tq 0 hHeld ?_
        refine tq 1 hHeld ?_
        refine tq 2 hHeld ?_
        refine tq 3 hHeld ?_
        refine tq 4 hHeld ?_
        refine tq 5 hHeld ?_
        refine wpAnyH_done (by kernel_rfl) ?_ _
        go_wp2_with fail
        go_roundw
        case rel => exact ⟨k + 1, by omega, by go_num, hnx, hB.drew⟩
        case measure => simp [intOf]; omega
    · obtain rfl : k = m := by omega
      rw [hno] at hbo
      subst hbo
      go_wp2_with fail
      go_ret
      exact ⟨rfl, hE.trans (hB.mono (by omega))⟩
end Go.Proofs.Ytbngdlbecdloiaa
