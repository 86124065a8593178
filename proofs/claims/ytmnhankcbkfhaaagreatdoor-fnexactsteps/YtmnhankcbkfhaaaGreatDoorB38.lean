/- Texts of a proof. -/
import Derived.Test.YtmnhankcbkfhaaaGreatDoorB1
import Derived.Test.YtmnhankcbkfhaaaGreatDoorB31
import Derived.Test.YtmnhankcbkfhaaaGreatDoorB12
import Derived.Deep.RegionHeld3
import Derived.Deep.DeepCutAuto
import Derived.Test.YtmnhankcbkfhaaaGreatDoorB33
import Derived.Test.YtmnhankcbkfhaaaGreatDoorB37
import Derived.Test.YtmnhankcbkfhaaaGreatDoorB34
import Derived.Test.YtmnhankcbkfhaaaGreatDoorB10
import Derived.Test.YtmnhankcbkfhaaaGreatDoorB26
import Derived.Test.YtmnhankcbkfhaaaGreatDoorB14
import Derived.Test.YtmnhankcbkfhaaaGreatDoorB4
import Derived.Test.YtmnhankcbkfhaaaGreatDoorB19
set_option maxHeartbeats 16000000
set_option maxRecDepth 20000
namespace Go.Proofs.YtmnhankcbkfhaaaGreatDoor
open Go.RowKit
set_option linter.unusedVariables false
set_option linter.unusedSimpArgs false
theorem run_eq_vec (n d : Nat) (hn : n = d + 1) (a b x y : Int) (w : World) : (Op.equalIn (n + 1) 37 (.agg #[.int .i64 a, .int .i64 b]) (.agg #[.int .i64 x, .int .i64 y])).run Tryz.prog w = .ok (a == x && b == y) w := by
 have hi : Tryz.prog.underlying 3 = some (.int .i64) := by kernel_rfl
 have hs : Tryz.prog.stoodInHeld 37 = false := by kernel_rfl
 have hp : ∀ w, (program).run Tryz.prog w = .ok Tryz.prog w := fun w => by rfl
 have p0 : ∀ (a b : Int) w, (part 3 #[.int .i64 a, .int .i64 b] 0).run Tryz.prog w = .ok (.int .i64 a) w := fun a b w => by kernel_rfl
 have p1 : ∀ (a b : Int) w, (part 3 #[.int .i64 a, .int .i64 b] 1).run Tryz.prog w = .ok (.int .i64 b) w := fun a b w => by kernel_rfl
 simp only [Op.equalIn, Sem.run_bind, run_underlying Tryz.underlying37, Result.andThen_ok, hp, hs, Bool.false_eq_true, if_false, Sem.run_pure]
 subst hn
 have h0 : ∀ w, (Op.equalIn (d + 1) 3 (.int .i64 a) (.int .i64 x)).run Tryz.prog w = .ok (a == x) w := fun w => run_equalIn_int w d 3 .i64 .i64 a x hi
 have h1 : ∀ w, (Op.equalIn (d + 1) 3 (.int .i64 b) (.int .i64 y)).run Tryz.prog w = .ok (b == y) w := fun w => run_equalIn_int w d 3 .i64 .i64 b y hi
 simp only [List.forIn_toArray, List.forIn_cons, List.forIn_nil, Sem.run_bind, p0, h0, Result.andThen_ok, Sem.run_ite, Sem.run_pure]
 cases hx : (a == x) <;> cases hy : (b == y) <;> simp [Sem.run_bind, p0, p1, h0, h1, Sem.run_ite, hx, hy]
theorem eq_vec0 (a b x y : Int) (w : World) : (Op.equalIn 10000 37 (.agg #[.int .i64 a, .int .i64 b]) (.agg #[.int .i64 x, .int .i64 y])).run Tryz.prog w = .ok (a == x && b == y) w := run_eq_vec 9999 9998 rfl a b x y w
def atOf (F : List Int) (x : Int) : Nat → Int
 | 0 => -1
 | k + 1 => if ofL F k = x then (k : Int) else atOf F x k
theorem atOf_bd (F : List Int) (x : Int) : ∀ k, -1 ≤ atOf F x k ∧ atOf F x k < (k : Int) ∨ k = 0 ∧ atOf F x k = -1
 | 0 => .inr ⟨rfl, rfl⟩
 | k + 1 => by
  left
  rw [atOf]
  split
  · omega
  · rcases atOf_bd F x k with h | h <;> omega
def numS (U G : Nat → Int) : Nat → List Int × List Int
 | 0 => ([], [])
 | i + 1 =>
  bif decide (U (i * 12 + 8) = 0) then ((numS U G i).1 ++ [-1], (numS U G i).2)
  else bif decide (atOf (numS U G i).2 (G i) (numS U G i).2.length < 0) then ((numS U G i).1 ++ [((numS U G i).2.length : Int)], (numS U G i).2 ++ [G i])
  else ((numS U G i).1 ++ [atOf (numS U G i).2 (G i) (numS U G i).2.length], (numS U G i).2)
theorem numS_z {U G : Nat → Int} {i : Nat} (h : U (i * 12 + 8) = 0) : numS U G (i + 1) = ((numS U G i).1 ++ [-1], (numS U G i).2) := by rw [numS, decide_eq_true h]; rfl
theorem numS_n {U G : Nat → Int} {i : Nat} (h : ¬ U (i * 12 + 8) = 0) (h2 : atOf (numS U G i).2 (G i) (numS U G i).2.length < 0) : numS U G (i + 1) = ((numS U G i).1 ++ [((numS U G i).2.length : Int)], (numS U G i).2 ++ [G i]) := by rw [numS, decide_eq_false h, decide_eq_true h2]; rfl
theorem numS_o {U G : Nat → Int} {i : Nat} (h : ¬ U (i * 12 + 8) = 0) (h2 : ¬ atOf (numS U G i).2 (G i) (numS U G i).2.length < 0) : numS U G (i + 1) = ((numS U G i).1 ++ [atOf (numS U G i).2 (G i) (numS U G i).2.length], (numS U G i).2) := by rw [numS, decide_eq_false h, decide_eq_false h2]; rfl
theorem numS_len (U G : Nat → Int) : ∀ i, (numS U G i).1.length = i ∧ (numS U G i).2.length ≤ i
 | 0 => ⟨rfl, Nat.le_refl _⟩
 | i + 1 => by
  obtain ⟨h1, h2⟩ := numS_len U G i
  by_cases h : U (i * 12 + 8) = 0
  · rw [numS_z h]; exact ⟨by rw [List.length_append, h1]; rfl, by show (numS U G i).2.length ≤ _; omega⟩
  · by_cases k : atOf (numS U G i).2 (G i) (numS U G i).2.length < 0
    · rw [numS_n h k]; exact ⟨by rw [List.length_append, h1]; rfl, by rw [List.length_append]; simp; omega⟩
    · rw [numS_o h k]; exact ⟨by rw [List.length_append, h1]; rfl, by show (numS U G i).2.length ≤ _; omega⟩
theorem l7Number_any (a : Option Addr) (n c : Nat) (U : Nat → Int) (ag : Option Addr) (cg : Nat) (G : Nat → Int) (w : World) (h : Flat w a (n * 12) U) (hn : n ≤ 1000) (hG2 : Flat w ag (n * 1) G) :
 Calls Tryz.prog 48 #[.slice a n c, .slice ag n cg] w fun e w' => ∃ g1 c1, e = .returned (.slice (some ⟨g1, 0, none⟩) n c1) ∧ LV w w' 3 g1 c1 n (IV (numS U G n).1) := by
 have hset := cset_map
 have ha : Below w.heap.size w (w.alloc (.cells #[] 3)) := (Below.refl _ _).alloc (Nat.le_refl _) _
 have L1 := LV.new (w := w) 3 (Below.refl _ w) rfl
 have L2 := LV.new (w := w) 3 ha (s := w.heap.size + 1) (by simp)
 have L1' := L1.on ((Below.refl _ _).alloc (Nat.le_refl _) (.cells #[] 3))
 go_enter Tryz.func48, Tryz.ntmps48
 go_upto_region 4 with fail
 go_loopw [5, 6, 7, 8, 9] (fun s5 s6 s7 _ _ wr => ∃ (i g1 c1 g2 c2 : Nat), i ≤ n ∧ s7 = .int .i64 (i : Int) ∧ s5 = .slice (some ⟨g1, 0, none⟩) i c1 ∧ s6 = .slice (some ⟨g2, 0, none⟩) (numS U G i).2.length c2 ∧ LV w wr 3 g1 c1 i (IV (numS U G i).1) ∧ LV w wr 3 g2 c2 (numS U G i).2.length (IV (numS U G i).2) ∧ g1 ≠ g2) (fun _ _ s7 _ _ _ => n - (intOf s7).toNat)
 case atStart => exact ⟨0, _, _, _, _, Nat.zero_le _, rfl, rfl, rfl, L1', L2, by omega⟩
 case round =>
  clear L1 L2 L1' ha
  obtain ⟨i, g1, c1, g2, c2, hi, rfl, rfl, rfl, H1, H2, hne⟩ := hrel
  obtain ⟨_, hfl⟩ := numS_len U G i
  by_cases hlt : i < n
  · have hin : (i : Int) < (n : Int) := by omega
    obtain ⟨b0, o0, e0, hbl0, hc0⟩ := (h.below H1.bel) (by omega)
    have r8 := hc0 (i * 12 + 8) (by omega)
    simp only [← Nat.add_assoc] at r8
    obtain ⟨b2, o2, e2, hbl2, hc2⟩ := (hG2.below H1.bel) (by omega)
    have rG := hc2 i (by omega)
    subst e0 e2
    by_cases hm : U (i * 12 + 8) = 0
    · have HZ : Shut (numS U G (i + 1) = ((numS U G i).1 ++ [-1], (numS U G i).2)) := numS_z hm
      have em : (U (i * 12 + 8) == 0) = true := by simp [hm]
      clear hm
      have hE : Below wr.heap.size wr (wr.alloc (Obj.cells #[.int .i64 (-1)] 3)) := (Below.refl _ _).alloc (Nat.le_refl _) _
      have hcE : (wr.alloc (Obj.cells #[.int .i64 (-1)] 3)).cell? ⟨wr.heap.size, 0, none⟩ = some (.int .i64 (-1)) := by go_simp
      have H2E := H2.on hE
      go_wp2_with (refine wpList_push rfl _ _ _ rfl 3 8 zcInt Tryz.underlying55 infoInt rfl (by decide) g1 c1 i (IV (numS U G i).1) rfl H1 hE wr.heap.size rfl (.int .i64 (-1)) hcE rfl (by omega) ?_; intro g5 c5 w5 hp5 hg5 hl5)
      have K2 := H2E.kept hg5 H1.lt.1 hne
      go_roundw
      case rel =>
       refine ⟨i + 1, g5, c5, g2, c2, by omega, by go_num, rfl, by rw [HZ.out], ?_⟩
       rw [HZ.out]
       exact ⟨by rw [← IV_app]; exact hp5, K2, by have := H2.lt; have := H1.lt; simp at hl5; omega⟩
      case measure => simp [intOf]; omega
    · have em : (U (i * 12 + 8) == 0) = false := by simp [hm]
      obtain ⟨F, hF⟩ : ∃ F, (numS U G i).2 = F := ⟨_, rfl⟩
      obtain ⟨O, hOO⟩ : ∃ O, (numS U G i).1 = O := ⟨_, rfl⟩
      obtain ⟨nf, hnf⟩ : ∃ nf, F.length = nf := ⟨_, rfl⟩
      have HN := @numS_n U G i hm
      have HO := @numS_o U G i hm
      rw [hF, hOO, hnf] at HN HO
      rw [hF, hnf] at hfl
      rw [hOO] at H1
      rw [hF, hnf] at H2 ⊢
      have HN := HN
      have HO := HO
      clear hm
      go_upto_region 10 with fail
      go_loopw [8, 9] (fun s8 s9 wq => ∃ k : Nat, k ≤ nf ∧ s9 = .int .i64 (k : Int) ∧ s8 = .int .i64 (atOf F (G i) k) ∧ LV w wq 3 g1 c1 i (IV O) ∧ LV w wq 3 g2 c2 nf (IV F)) (fun _ s9 _ => nf - (intOf s9).toNat)
      case atStart => exact ⟨0, Nat.zero_le _, rfl, rfl, H1, H2⟩
      case round =>
       clear H1 H2 r8 rG hc0 hc2
       obtain ⟨k, hk, rfl, rfl, H1, H2⟩ := hrel
       obtain ⟨b2', o2', e2', hbl2', hc2'⟩ := (hG2.below H1.bel) (by omega)
       have rG := hc2' i (by omega)
       cases e2'
       by_cases hkl : k < nf
       · have hkn : (k : Int) < (nf : Int) := by omega
         have rF := H2.ic hkl
         have HAT : Shut (atOf F (G i) (k + 1) = if ofL F k = G i then (k : Int) else atOf F (G i) k) := by show _ = _; rw [atOf]
         by_cases e : ofL F k = G i
         · have e5 : (ofL F k == G i) = true := by simp [e]
           rw [if_pos e] at HAT
           clear e
           go_upto_region 12 with fail
           refine wp_region_held_drew (S := fun w' => w'.cell? ⟨g2, k, none⟩ = some (.int .i64 (ofL F k)) ∧ w'.cell? ⟨b2, o2 + i, none⟩ = some (.int .i64 (G i))) (by kernel_rfl) ?_ (fun hHeld => ?_)
           · (try dsimp only)
             (first | (go_simp; done) | (go_keep; done))
           refine tq 0 hHeld ?_
           refine tq 1 hHeld ?_
           refine tq 2 hHeld ?_
           refine tq 3 hHeld ?_
           refine tq 4 hHeld ?_
           refine tq 5 hHeld ?_
           refine tq 6 hHeld ?_
           refine tq 7 hHeld ?_
           refine tq 8 hHeld ?_
           refine wpAnyH_done (by kernel_rfl) ?_ _
           go_wp2_with fail
           go_roundw
           case rel => exact ⟨k + 1, by omega, by go_num, by rw [HAT.out], H1.dr, H2.dr⟩
           case measure => simp [intOf]; omega
         · have e5 : (ofL F k == G i) = false := by simp [e]
           rw [if_neg e] at HAT
           clear e
           go_upto_region 12 with fail
           refine wp_region_held_drew (S := fun w' => w'.cell? ⟨g2, k, none⟩ = some (.int .i64 (ofL F k)) ∧ w'.cell? ⟨b2, o2 + i, none⟩ = some (.int .i64 (G i))) (by kernel_rfl) ?_ (fun hHeld => ?_)
           · (try dsimp only)
             (first | (go_simp; done) | (go_keep; done))
           refine tq 0 hHeld ?_
           refine tq 1 hHeld ?_
           refine tq 2 hHeld ?_
           refine tq 3 hHeld ?_
           refine tq 4 hHeld ?_
           refine tq 5 hHeld ?_
           refine tq 6 hHeld ?_
           refine tq 7 hHeld ?_
           refine tq 8 hHeld ?_
           refine wpAnyH_done (by kernel_rfl) ?_ _
           go_wp2_with fail
           go_roundw
           case rel => exact ⟨k + 1, by omega, by go_num, by rw [HAT.out], H1.dr, H2.dr⟩
           case measure => simp [intOf]; omega
       · obtain rfl : k = nf := by omega
         obtain ⟨z, hz⟩ : ∃ z, atOf F (G i) k = z := ⟨_, rfl⟩
         rw [hz] at HN HO
         rw [hz]
         by_cases hzn : z < 0
         · have HN' : Shut (numS U G (i + 1) = (O ++ [(k : Int)], F ++ [G i])) := HN hzn
           have hE : Below wr.heap.size wr (wr.alloc (Obj.cells #[.int .i64 (G i)] 3)) := (Below.refl _ _).alloc (Nat.le_refl _) _
           have hcE : (wr.alloc (Obj.cells #[.int .i64 (G i)] 3)).cell? ⟨wr.heap.size, 0, none⟩ = some (.int .i64 (G i)) := by go_simp
           have H1E := H1.on hE
           have hlt1 := H1.lt
           have hlt2 := H2.lt
           go_upto_region 17 with (refine wpList_push rfl _ _ _ rfl 3 8 zcInt Tryz.underlying55 infoInt rfl (by decide) g2 c2 k (IV F) rfl H2 hE wr.heap.size rfl (.int .i64 (G i)) hcE rfl (by omega) ?_; intro g5 c5 w5 hp5 hg5 hl5)
           have K1 := H1E.kept hg5 H2.lt.1 (fun e => hne e.symm)
           have hE6 : Below w5.heap.size w5 (w5.alloc (Obj.cells #[.int .i64 (k : Int)] 3)) := (Below.refl _ _).alloc (Nat.le_refl _) _
           have hcE6 : (w5.alloc (Obj.cells #[.int .i64 (k : Int)] 3)).cell? ⟨w5.heap.size, 0, none⟩ = some (.int .i64 (k : Int)) := by go_simp
           have hne5 : g1 ≠ g5 := by simp at hl5; omega
           have hlt5 := hp5.lt
           have H5E := hp5.on hE6
           clear hE hcE H1E hg5 hl5
           go_wp2_with (refine wpList_push rfl _ _ _ rfl 3 8 zcInt Tryz.underlying55 infoInt rfl (by decide) g1 c1 i (IV O) rfl K1 hE6 w5.heap.size rfl (.int .i64 (k : Int)) hcE6 rfl (by omega) ?_; intro g6 c6 w6 hp6 hg6 hl6)
           have K5 := H5E.kept hg6 K1.lt.1 hne5
           go_roundw
           case rel =>
            refine ⟨i + 1, g6, c6, g5, c5, by omega, by go_num, rfl, by rw [HN'.out]; simp [hnf], ?_⟩
            rw [HN'.out]
            exact ⟨by rw [← IV_app]; exact hp6, by rw [← IV_app, List.length_append, hnf]; exact K5, by have := K5.lt; have := K1.lt; simp at hl6; omega⟩
           case measure => simp [intOf]; omega
         · have HO' : Shut (numS U G (i + 1) = (O ++ [z], F)) := HO (by omega)
           have hE6 : Below wr.heap.size wr (wr.alloc (Obj.cells #[.int .i64 z] 3)) := (Below.refl _ _).alloc (Nat.le_refl _) _
           have hcE6 : (wr.alloc (Obj.cells #[.int .i64 z] 3)).cell? ⟨wr.heap.size, 0, none⟩ = some (.int .i64 z) := by go_simp
           have H2E := H2.on hE6
           go_wp2_with (refine wpList_push rfl _ _ _ rfl 3 8 zcInt Tryz.underlying55 infoInt rfl (by decide) g1 c1 i (IV O) rfl H1 hE6 wr.heap.size rfl (.int .i64 z) hcE6 rfl (by omega) ?_; intro g6 c6 w6 hp6 hg6 hl6)
           have K2 := H2E.kept hg6 H1.lt.1 hne
           go_roundw
           case rel =>
            refine ⟨i + 1, g6, c6, g2, c2, by omega, by go_num, rfl, by rw [HO'.out]; simp [hnf], ?_⟩
            rw [HO'.out]
            exact ⟨by rw [← IV_app]; exact hp6, by rw [hnf]; exact K2, by have := H2.lt; have := H1.lt; simp at hl6; omega⟩
           case measure => simp [intOf]; omega
  · obtain rfl : i = n := by omega
    go_wp2_with fail
    go_ret
    exact ⟨_, _, rfl, H1⟩
theorem markBody12 {w wr : World} {base g n c j : Nat} {U : Nat → Int} (hlt : j < n) (ho : OwnL wr base 39 12 (.slice (some ⟨g, 0, none⟩) n c) n (mixU (j * 12) U)) (hg : w.grownBy wr (Value.slice (some ⟨g, 0, none⟩) n c).ownBlock) :
 OwnL ((((((((((((wr.setCell ⟨g, j * 12, none⟩ (.int .i64 (1 + (j : Int) * 12))).setCell ⟨g, j * 12 + 1, none⟩ (.int .i64 (1 + (j : Int) * 12 + 1))).setCell ⟨g, j * 12 + 2, none⟩ (.int .i64 (1 + (j : Int) * 12 + 1 + 1))).setCell ⟨g, j * 12 + 3, none⟩ (.int .i64 (1 + (j : Int) * 12 + 1 + 1 + 1))).setCell ⟨g, j * 12 + 4, none⟩ (.int .i64 (1 + (j : Int) * 12 + 1 + 1 + 1 + 1))).setCell ⟨g, j * 12 + 5, none⟩ (.int .i64 (1 + (j : Int) * 12 + 1 + 1 + 1 + 1 + 1))).setCell ⟨g, j * 12 + 6, none⟩ (.int .i64 (1 + (j : Int) * 12 + 1 + 1 + 1 + 1 + 1 + 1))).setCell ⟨g, j * 12 + 7, none⟩ (.int .i64 (1 + (j : Int) * 12 + 1 + 1 + 1 + 1 + 1 + 1 + 1))).setCell ⟨g, j * 12 + 8, none⟩ (.int .i64 (1 + (j : Int) * 12 + 1 + 1 + 1 + 1 + 1 + 1 + 1 + 1))).setCell ⟨g, j * 12 + 9, none⟩ (.int .i64 (1 + (j : Int) * 12 + 1 + 1 + 1 + 1 + 1 + 1 + 1 + 1 + 1))).setCell ⟨g, j * 12 + 10, none⟩ (.int .i64 (1 + (j : Int) * 12 + 1 + 1 + 1 + 1 + 1 + 1 + 1 + 1 + 1 + 1))).setCell ⟨g, j * 12 + 11, none⟩ (.int .i64 (1 + (j : Int) * 12 + 1 + 1 + 1 + 1 + 1 + 1 + 1 + 1 + 1 + 1 + 1))) base 39 12 (.slice (some ⟨g, 0, none⟩) n c) n (mixU ((j + 1) * 12) U) ∧
 w.grownBy ((((((((((((wr.setCell ⟨g, j * 12, none⟩ (.int .i64 (1 + (j : Int) * 12))).setCell ⟨g, j * 12 + 1, none⟩ (.int .i64 (1 + (j : Int) * 12 + 1))).setCell ⟨g, j * 12 + 2, none⟩ (.int .i64 (1 + (j : Int) * 12 + 1 + 1))).setCell ⟨g, j * 12 + 3, none⟩ (.int .i64 (1 + (j : Int) * 12 + 1 + 1 + 1))).setCell ⟨g, j * 12 + 4, none⟩ (.int .i64 (1 + (j : Int) * 12 + 1 + 1 + 1 + 1))).setCell ⟨g, j * 12 + 5, none⟩ (.int .i64 (1 + (j : Int) * 12 + 1 + 1 + 1 + 1 + 1))).setCell ⟨g, j * 12 + 6, none⟩ (.int .i64 (1 + (j : Int) * 12 + 1 + 1 + 1 + 1 + 1 + 1))).setCell ⟨g, j * 12 + 7, none⟩ (.int .i64 (1 + (j : Int) * 12 + 1 + 1 + 1 + 1 + 1 + 1 + 1))).setCell ⟨g, j * 12 + 8, none⟩ (.int .i64 (1 + (j : Int) * 12 + 1 + 1 + 1 + 1 + 1 + 1 + 1 + 1))).setCell ⟨g, j * 12 + 9, none⟩ (.int .i64 (1 + (j : Int) * 12 + 1 + 1 + 1 + 1 + 1 + 1 + 1 + 1 + 1))).setCell ⟨g, j * 12 + 10, none⟩ (.int .i64 (1 + (j : Int) * 12 + 1 + 1 + 1 + 1 + 1 + 1 + 1 + 1 + 1 + 1))).setCell ⟨g, j * 12 + 11, none⟩ (.int .i64 (1 + (j : Int) * 12 + 1 + 1 + 1 + 1 + 1 + 1 + 1 + 1 + 1 + 1 + 1))) (Value.slice (some ⟨g, 0, none⟩) n c).ownBlock := by
 have q1 := ho.mark (by omega) (x := 1 + (j : Int) * 12) (by omega)
 have q2 := q1.mark (by omega) (x := 1 + (j : Int) * 12 + 1) (by omega)
 have q3 := q2.mark (by omega) (x := 1 + (j : Int) * 12 + 1 + 1) (by omega)
 have q4 := q3.mark (by omega) (x := 1 + (j : Int) * 12 + 1 + 1 + 1) (by omega)
 have q5 := q4.mark (by omega) (x := 1 + (j : Int) * 12 + 1 + 1 + 1 + 1) (by omega)
 have q6 := q5.mark (by omega) (x := 1 + (j : Int) * 12 + 1 + 1 + 1 + 1 + 1) (by omega)
 have q7 := q6.mark (by omega) (x := 1 + (j : Int) * 12 + 1 + 1 + 1 + 1 + 1 + 1) (by omega)
 have q8 := q7.mark (by omega) (x := 1 + (j : Int) * 12 + 1 + 1 + 1 + 1 + 1 + 1 + 1) (by omega)
 have q9 := q8.mark (by omega) (x := 1 + (j : Int) * 12 + 1 + 1 + 1 + 1 + 1 + 1 + 1 + 1) (by omega)
 have q10 := q9.mark (by omega) (x := 1 + (j : Int) * 12 + 1 + 1 + 1 + 1 + 1 + 1 + 1 + 1 + 1) (by omega)
 have q11 := q10.mark (by omega) (x := 1 + (j : Int) * 12 + 1 + 1 + 1 + 1 + 1 + 1 + 1 + 1 + 1 + 1) (by omega)
 have q12 := q11.mark (by omega) (x := 1 + (j : Int) * 12 + 1 + 1 + 1 + 1 + 1 + 1 + 1 + 1 + 1 + 1 + 1) (by omega)
 refine ⟨?_, ?_⟩
 · exact q12.congr fun q _ => by rw [show j * 12 + 1 + 1 + 1 + 1 + 1 + 1 + 1 + 1 + 1 + 1 + 1 + 1 = ((j + 1) * 12) from by omega]
 · have h0 : w.grownBy wr (some g) := hg
   exact (grown_trans (grown_trans (grown_trans (grown_trans (grown_trans (grown_trans (grown_trans (grown_trans (grown_trans (grown_trans (grown_trans (grown_trans h0 (grown_setG _ _ _ _)) (grown_setG _ _ _ _)) (grown_setG _ _ _ _)) (grown_setG _ _ _ _)) (grown_setG _ _ _ _)) (grown_setG _ _ _ _)) (grown_setG _ _ _ _)) (grown_setG _ _ _ _)) (grown_setG _ _ _ _)) (grown_setG _ _ _ _)) (grown_setG _ _ _ _)) (grown_setG _ _ _ _))
theorem markBodyS_any (base : Nat) (a : Option Addr) (n c : Nat) (U : Nat → Int) (w : World) (h : OwnL w base 39 12 (.slice a n c) n U) (hn : n ≤ 2097152) :
 Calls Tryz.prog 10 #[.slice a n c, .int .i64 1] w fun e w' => e = .returned (.int .i64 (1 + (n : Int) * 12)) ∧ OwnL w' base 39 12 (.slice a n c) n (fun q => 1 + (q : Int)) ∧ w.grownBy w' (Value.slice a n c).ownBlock := by
 have hset := cset_map
 go_enter Tryz.func10, Tryz.ntmps10
 go_wp2
 go_loopw [1, 5] (fun s i wr => ∃ j : Nat, j ≤ n ∧ i = .int .i64 (j : Int) ∧ s = .int .i64 (1 + (j : Int) * 12) ∧ OwnL wr base 39 12 (.slice a n c) n (mixU (j * 12) U) ∧ w.grownBy wr (Value.slice a n c).ownBlock) (fun _ i _ => n - (intOf i).toNat)
 case atStart => exact ⟨0, Nat.zero_le _, rfl, rfl, h.congr (fun q _ => by simp [mixU]), grown_refl _ _⟩
 case round =>
  obtain ⟨j, hj, rfl, rfl, ho, hg⟩ := hrel
  by_cases hlt : j < n
  · have hjn : (j : Int) < (n : Int) := by omega
    obtain ⟨g, rfl, hgb, hgl⟩ := ho.loc (by omega)
    have c0 := ho.cellq (q := j * 12) (by omega)
    have c1 := ho.cellq (q := j * 12 + 1) (by omega)
    have c2 := ho.cellq (q := j * 12 + 2) (by omega)
    have c3 := ho.cellq (q := j * 12 + 3) (by omega)
    have c4 := ho.cellq (q := j * 12 + 4) (by omega)
    have c5 := ho.cellq (q := j * 12 + 5) (by omega)
    have c6 := ho.cellq (q := j * 12 + 6) (by omega)
    have c7 := ho.cellq (q := j * 12 + 7) (by omega)
    have c8 := ho.cellq (q := j * 12 + 8) (by omega)
    have c9 := ho.cellq (q := j * 12 + 9) (by omega)
    have c10 := ho.cellq (q := j * 12 + 10) (by omega)
    have c11 := ho.cellq (q := j * 12 + 11) (by omega)
    have f0 := ho.fro
    go_wp2
    go_roundw
    case rel =>
     obtain ⟨r1, r2⟩ := markBody12 hlt ho hg
     exact ⟨j + 1, by omega, by go_num, congrArg (Value.int .i64) (by omega), r1, r2⟩
    case measure => simp [intOf]; omega
  · obtain rfl : j = n := by omega
    go_wp2
    go_ret
    exact ⟨rfl, ho.congr (fun q hq => by simp only [mixU]; rw [if_pos (by omega)]), hg⟩
abbrev conW (V : Nat → Int) : Value := .agg #[.int .i64 (V 0), .int .i64 (V 1), .int .i64 (V 2), .int .i64 (V 3), .int .i64 (V 4)]
def conR (n : Nat) (U : Nat → Int) : List Int := bif bodsB n U then conL (colOf U) n else []
theorem OutL.nil {w : World} {t k : Nat} {R : Nat → Int} : OutL w w t k none 0 0 R := ⟨Below.refl _ _, OwnL.nil _ _ _ _ _⟩
def bcB (n m : Nat) (U Ct : Nat → Int) : Bool := bodsB n U && decide (m ≤ 144) && ctsB n Ct m
def lsB (U : Nat → Int) (k : Nat) : Bool := decide (0 < U (k * 12 + 8)) && !decide (8 ≤ U (k * 12 + 11))
def noLs (U : Nat → Int) : Nat → Bool
 | 0 => true
 | k + 1 => noLs U k && !lsB U k
def stB (n : Nat) (U : Nat → Int) : Bool := noLs U n && bodsB n U
theorem bodiesOf_t (a : Option Addr) (n c : Nat) (U : Nat → Int) (w : World) (h : Flat w a (n * 12) U) (hn : n ≤ 1048576) (hB : bodsB n U = true) :
 Calls Tryz.prog 38 #[.slice a n c] w fun e w' => ∃ cb S, e = .returned (.tuple #[.pointer (some ⟨cb, 0, none⟩), Value.nilIface]) ∧ w.heap.size ≤ cb ∧ Cs w' cb n (colOf U) S ∧ Below w.heap.size w w' := by
 have hset := cset_map
 go_enter Tryz.func38, Tryz.ntmps38
 go_wp2_with (go_at_call 55; refine (columnsOf_any a n c U _ h hn).mono ?_; rintro e w1 ⟨hb1, (⟨_, cb, S, rfl, hcb, hCs⟩ | ⟨hF, rfl⟩)⟩)
 all_goals (try (exfalso; rw [hB] at hF; cases hF))
 exact bodyPost_ret (v := .tuple #[.pointer (some ⟨cb, 0, none⟩), Value.nilIface]) (by simp [results, Tryz.results38, go_sem]) rfl ⟨cb, S, rfl, hcb, hCs, hb1⟩
theorem bodiesOf_f (a : Option Addr) (n c : Nat) (U : Nat → Int) (w : World) (h : Flat w a (n * 12) U) (hn : n ≤ 1048576) (hB : bodsB n U = false) :
 Calls Tryz.prog 38 #[.slice a n c] w fun e w' => ∃ x : Addr, e = .returned (.tuple #[.pointer none, .iface 75 (.pointer (some x))]) ∧ Below w.heap.size w w' := by
 have hset := cset_map
 go_enter Tryz.func38, Tryz.ntmps38
 go_wp2_with (go_at_call 55; refine (columnsOf_any a n c U _ h hn).mono ?_; rintro e w1 ⟨hb1, (⟨hT, cb, S, rfl, hcb, hCs⟩ | ⟨_, rfl⟩)⟩)
 all_goals (try (exfalso; rw [hB] at hT; cases hT))
 exact bodyPost_ret (v := .tuple #[.pointer none, .iface 75 (.pointer (some ⟨w1.heap.size, 0, none⟩))]) (by simp [results, Tryz.results38, go_sem]) rfl ⟨_, rfl, hb1.alloc hb1.size _⟩
end Go.Proofs.YtmnhankcbkfhaaaGreatDoor
