/- Texts of a proof. -/
import Derived.Test.YtlbpmmjckoaleaaGreatCsAdd
import Derived.Deep.RegionHeld3
import Derived.Deep.DeepCutAuto
import Derived.Test.YtlbpmmjckoaleaaGreatB1
import Derived.Test.YtlbpmmjckoaleaaGreatVec
import Derived.LoopNIn
import Derived.LoopIn
import Derived.OwnWalkIn
import Derived.RangeFuncBound
import Derived.Shelf.Abstract
import Derived.Deep.QuietTactic
import Derived.BigQuiet
import Derived.Deep.RegionWith
set_option maxHeartbeats 16000000
set_option maxRecDepth 20000
namespace Go.Proofs.YtlbpmmjckoaleaaGreat
open Go.RowKit
set_option linter.unusedVariables false
set_option linter.unusedSimpArgs false
def colOf (U : Nat → Int) : Nat → Nat → Int := fun i k => U (k * 12 + i)
theorem snoc_col (U : Nat → Int) (n : Nat) {i k : Nat} (hk : k < n + 1) : snocC n (colOf U) (fun j => U (n * 12 + j)) i k = colOf U i k := by
  unfold snocC snoc colOf
  by_cases e : k = n
  · rw [if_pos e, e]
  · rw [if_neg e]
theorem rowsOf_any (a : Option Addr) (n c : Nat) (U : Nat → Int) (w : World) (h : Flat w a (n * 12) U) (hn : n ≤ 1048575) :
    Calls Tryz.prog 41 #[.slice a n c] w fun e w' => e = .returned (.pointer (some ⟨w.heap.size, 0, none⟩)) ∧ Below w.heap.size w w' ∧ ∃ S, Cs w' w.heap.size n (colOf U) S := by
  have hset := cset_map
  go_enter Tryz.func41, Tryz.ntmps41
  go_wp2
  go_loopw [5, 10] (fun _ i wr => ∃ k : Nat, k ≤ n ∧ i = .int .i64 (k : Int) ∧ Below w.heap.size w wr ∧ ∃ S, Cs wr w.heap.size k (colOf U) S) (fun _ i _ => n - (intOf i).toNat)
  case atStart =>
    refine ⟨0, Nat.zero_le _, rfl, (Below.refl _ _).alloc (Nat.le_refl _) _, fun _ => .slice none 0 0, fun i hi => ?_, fun i hi => ?_, fun i hi => OwnL.nil _ _ _ _ _, (fun _ _ _ e => by cases e), (fun _ _ _ _ _ _ e => by cases e)⟩
    · rcases (show i = 0 ∨ i = 1 ∨ i = 2 ∨ i = 3 ∨ i = 4 ∨ i = 5 ∨ i = 6 ∨ i = 7 ∨ i = 8 ∨ i = 9 ∨ i = 10 ∨ i = 11 by omega) with rfl | rfl | rfl | rfl | rfl | rfl | rfl | rfl | rfl | rfl | rfl | rfl <;> go_simp
    · go_simp
  case round =>
    obtain ⟨k, hk, rfl, hB, S, hC⟩ := hrel
    by_cases hlt : k < n
    · obtain ⟨b, o, rfl, hbl, hc⟩ := h (by omega)
      have hc' : ∀ q, q < n * 12 → wr.cell? ⟨b, o + q, none⟩ = some (.int .i64 (U q)) := fun q hq => (hB.cell (p := ⟨b, o + q, none⟩) hbl).trans (hc q hq)
      clear hc
      have c0 := hc' (k * 12) (by omega)
      have c1 := hc' (k * 12 + 1) (by omega)
      have c2 := hc' (k * 12 + 2) (by omega)
      have c3 := hc' (k * 12 + 3) (by omega)
      have c4 := hc' (k * 12 + 4) (by omega)
      have c5 := hc' (k * 12 + 5) (by omega)
      have c6 := hc' (k * 12 + 6) (by omega)
      have c7 := hc' (k * 12 + 7) (by omega)
      have c8 := hc' (k * 12 + 8) (by omega)
      have c9 := hc' (k * 12 + 9) (by omega)
      have c10 := hc' (k * 12 + 10) (by omega)
      have c11 := hc' (k * 12 + 11) (by omega)
      simp only [← Nat.add_assoc] at c0 c1 c2 c3 c4 c5 c6 c7 c8 c9 c10 c11
      clear hc'
      go_upto_region 5 with fail
      have hE : Below wr.heap.size wr (wr.alloc (Obj.cells #[.int .i64 (U (k * 12)), .int .i64 (U (k * 12 + 1)), .int .i64 (U (k * 12 + 2)), .int .i64 (U (k * 12 + 3)), .int .i64 (U (k * 12 + 4)), .int .i64 (U (k * 12 + 5)), .int .i64 (U (k * 12 + 6)), .int .i64 (U (k * 12 + 7)), .int .i64 (U (k * 12 + 8)), .int .i64 (U (k * 12 + 9)), .int .i64 (U (k * 12 + 10)), .int .i64 (U (k * 12 + 11))] 48)) := (Below.refl _ _).alloc (Nat.le_refl _) _
      have hB2 := hB.trans (hE.mono hB.size)
      have hC2 := hC.below hE
      have x0 : (wr.alloc (Obj.cells #[.int .i64 (U (k * 12)), .int .i64 (U (k * 12 + 1)), .int .i64 (U (k * 12 + 2)), .int .i64 (U (k * 12 + 3)), .int .i64 (U (k * 12 + 4)), .int .i64 (U (k * 12 + 5)), .int .i64 (U (k * 12 + 6)), .int .i64 (U (k * 12 + 7)), .int .i64 (U (k * 12 + 8)), .int .i64 (U (k * 12 + 9)), .int .i64 (U (k * 12 + 10)), .int .i64 (U (k * 12 + 11))] 48)).cell? ⟨wr.heap.size, 0, none⟩ = some (.int .i64 (U (k * 12))) := by go_simp
      have x1 : (wr.alloc (Obj.cells #[.int .i64 (U (k * 12)), .int .i64 (U (k * 12 + 1)), .int .i64 (U (k * 12 + 2)), .int .i64 (U (k * 12 + 3)), .int .i64 (U (k * 12 + 4)), .int .i64 (U (k * 12 + 5)), .int .i64 (U (k * 12 + 6)), .int .i64 (U (k * 12 + 7)), .int .i64 (U (k * 12 + 8)), .int .i64 (U (k * 12 + 9)), .int .i64 (U (k * 12 + 10)), .int .i64 (U (k * 12 + 11))] 48)).cell? ⟨wr.heap.size, 1, none⟩ = some (.int .i64 (U (k * 12 + 1))) := by go_simp
      have x2 : (wr.alloc (Obj.cells #[.int .i64 (U (k * 12)), .int .i64 (U (k * 12 + 1)), .int .i64 (U (k * 12 + 2)), .int .i64 (U (k * 12 + 3)), .int .i64 (U (k * 12 + 4)), .int .i64 (U (k * 12 + 5)), .int .i64 (U (k * 12 + 6)), .int .i64 (U (k * 12 + 7)), .int .i64 (U (k * 12 + 8)), .int .i64 (U (k * 12 + 9)), .int .i64 (U (k * 12 + 10)), .int .i64 (U (k * 12 + 11))] 48)).cell? ⟨wr.heap.size, 2, none⟩ = some (.int .i64 (U (k * 12 + 2))) := by go_simp
      have x3 : (wr.alloc (Obj.cells #[.int .i64 (U (k * 12)), .int .i64 (U (k * 12 + 1)), .int .i64 (U (k * 12 + 2)), .int .i64 (U (k * 12 + 3)), .int .i64 (U (k * 12 + 4)), .int .i64 (U (k * 12 + 5)), .int .i64 (U (k * 12 + 6)), .int .i64 (U (k * 12 + 7)), .int .i64 (U (k * 12 + 8)), .int .i64 (U (k * 12 + 9)), .int .i64 (U (k * 12 + 10)), .int .i64 (U (k * 12 + 11))] 48)).cell? ⟨wr.heap.size, 3, none⟩ = some (.int .i64 (U (k * 12 + 3))) := by go_simp
      have x4 : (wr.alloc (Obj.cells #[.int .i64 (U (k * 12)), .int .i64 (U (k * 12 + 1)), .int .i64 (U (k * 12 + 2)), .int .i64 (U (k * 12 + 3)), .int .i64 (U (k * 12 + 4)), .int .i64 (U (k * 12 + 5)), .int .i64 (U (k * 12 + 6)), .int .i64 (U (k * 12 + 7)), .int .i64 (U (k * 12 + 8)), .int .i64 (U (k * 12 + 9)), .int .i64 (U (k * 12 + 10)), .int .i64 (U (k * 12 + 11))] 48)).cell? ⟨wr.heap.size, 4, none⟩ = some (.int .i64 (U (k * 12 + 4))) := by go_simp
      have x5 : (wr.alloc (Obj.cells #[.int .i64 (U (k * 12)), .int .i64 (U (k * 12 + 1)), .int .i64 (U (k * 12 + 2)), .int .i64 (U (k * 12 + 3)), .int .i64 (U (k * 12 + 4)), .int .i64 (U (k * 12 + 5)), .int .i64 (U (k * 12 + 6)), .int .i64 (U (k * 12 + 7)), .int .i64 (U (k * 12 + 8)), .int .i64 (U (k * 12 + 9)), .int .i64 (U (k * 12 + 10)), .int .i64 (U (k * 12 + 11))] 48)).cell? ⟨wr.heap.size, 5, none⟩ = some (.int .i64 (U (k * 12 + 5))) := by go_simp
      have x6 : (wr.alloc (Obj.cells #[.int .i64 (U (k * 12)), .int .i64 (U (k * 12 + 1)), .int .i64 (U (k * 12 + 2)), .int .i64 (U (k * 12 + 3)), .int .i64 (U (k * 12 + 4)), .int .i64 (U (k * 12 + 5)), .int .i64 (U (k * 12 + 6)), .int .i64 (U (k * 12 + 7)), .int .i64 (U (k * 12 + 8)), .int .i64 (U (k * 12 + 9)), .int .i64 (U (k * 12 + 10)), .int .i64 (U (k * 12 + 11))] 48)).cell? ⟨wr.heap.size, 6, none⟩ = some (.int .i64 (U (k * 12 + 6))) := by go_simp
      have x7 : (wr.alloc (Obj.cells #[.int .i64 (U (k * 12)), .int .i64 (U (k * 12 + 1)), .int .i64 (U (k * 12 + 2)), .int .i64 (U (k * 12 + 3)), .int .i64 (U (k * 12 + 4)), .int .i64 (U (k * 12 + 5)), .int .i64 (U (k * 12 + 6)), .int .i64 (U (k * 12 + 7)), .int .i64 (U (k * 12 + 8)), .int .i64 (U (k * 12 + 9)), .int .i64 (U (k * 12 + 10)), .int .i64 (U (k * 12 + 11))] 48)).cell? ⟨wr.heap.size, 7, none⟩ = some (.int .i64 (U (k * 12 + 7))) := by go_simp
      have x8 : (wr.alloc (Obj.cells #[.int .i64 (U (k * 12)), .int .i64 (U (k * 12 + 1)), .int .i64 (U (k * 12 + 2)), .int .i64 (U (k * 12 + 3)), .int .i64 (U (k * 12 + 4)), .int .i64 (U (k * 12 + 5)), .int .i64 (U (k * 12 + 6)), .int .i64 (U (k * 12 + 7)), .int .i64 (U (k * 12 + 8)), .int .i64 (U (k * 12 + 9)), .int .i64 (U (k * 12 + 10)), .int .i64 (U (k * 12 + 11))] 48)).cell? ⟨wr.heap.size, 8, none⟩ = some (.int .i64 (U (k * 12 + 8))) := by go_simp
      have x9 : (wr.alloc (Obj.cells #[.int .i64 (U (k * 12)), .int .i64 (U (k * 12 + 1)), .int .i64 (U (k * 12 + 2)), .int .i64 (U (k * 12 + 3)), .int .i64 (U (k * 12 + 4)), .int .i64 (U (k * 12 + 5)), .int .i64 (U (k * 12 + 6)), .int .i64 (U (k * 12 + 7)), .int .i64 (U (k * 12 + 8)), .int .i64 (U (k * 12 + 9)), .int .i64 (U (k * 12 + 10)), .int .i64 (U (k * 12 + 11))] 48)).cell? ⟨wr.heap.size, 9, none⟩ = some (.int .i64 (U (k * 12 + 9))) := by go_simp
      have x10 : (wr.alloc (Obj.cells #[.int .i64 (U (k * 12)), .int .i64 (U (k * 12 + 1)), .int .i64 (U (k * 12 + 2)), .int .i64 (U (k * 12 + 3)), .int .i64 (U (k * 12 + 4)), .int .i64 (U (k * 12 + 5)), .int .i64 (U (k * 12 + 6)), .int .i64 (U (k * 12 + 7)), .int .i64 (U (k * 12 + 8)), .int .i64 (U (k * 12 + 9)), .int .i64 (U (k * 12 + 10)), .int .i64 (U (k * 12 + 11))] 48)).cell? ⟨wr.heap.size, 10, none⟩ = some (.int .i64 (U (k * 12 + 10))) := by go_simp
      have x11 : (wr.alloc (Obj.cells #[.int .i64 (U (k * 12)), .int .i64 (U (k * 12 + 1)), .int .i64 (U (k * 12 + 2)), .int .i64 (U (k * 12 + 3)), .int .i64 (U (k * 12 + 4)), .int .i64 (U (k * 12 + 5)), .int .i64 (U (k * 12 + 6)), .int .i64 (U (k * 12 + 7)), .int .i64 (U (k * 12 + 8)), .int .i64 (U (k * 12 + 9)), .int .i64 (U (k * 12 + 10)), .int .i64 (U (k * 12 + 11))] 48)).cell? ⟨wr.heap.size, 11, none⟩ = some (.int .i64 (U (k * 12 + 11))) := by go_simp
      generalize (wr.alloc (Obj.cells #[.int .i64 (U (k * 12)), .int .i64 (U (k * 12 + 1)), .int .i64 (U (k * 12 + 2)), .int .i64 (U (k * 12 + 3)), .int .i64 (U (k * 12 + 4)), .int .i64 (U (k * 12 + 5)), .int .i64 (U (k * 12 + 6)), .int .i64 (U (k * 12 + 7)), .int .i64 (U (k * 12 + 8)), .int .i64 (U (k * 12 + 9)), .int .i64 (U (k * 12 + 10)), .int .i64 (U (k * 12 + 11))] 48)) = wx at hE hB2 hC2 x0 x1 x2 x3 x4 x5 x6 x7 x8 x9 x10 x11 ⊢
      clear c0 c1 c2 c3 c4 c5 c6 c7 c8 c9 c10 c11 hE hC hB
      go_wp2_with (go_at_call 52; refine (add_any w.heap.size k (colOf U) (fun j => U (k * 12 + j)) S _ hC2 (by omega)).mono ?_; rintro e w1 ⟨rfl, S1, hC1, hF1⟩)
      go_roundw
      case rel => exact ⟨k + 1, by omega, by go_num, hB2.trans (hF1.below hB2.size (fun x q => q.elim (fun q => Nat.le_of_eq q.symm) (fun q => Nat.le_of_lt (hC2.xlt q).1))), S1, hC1.congr fun i q _ hq => snoc_col U k hq⟩
      case measure => simp [intOf]; omega
    · go_wp2
      go_ret
      obtain rfl : k = n := by omega
      exact ⟨rfl, hB, S, hC⟩
end Go.Proofs.YtlbpmmjckoaleaaGreat
namespace Go.Proofs.YtlbpmmjckoaleaaGreat
open Go.RowKit Go.Shelf
set_option linter.unusedVariables false
set_option linter.unusedSimpArgs false
abbrev hdk (cb k : Nat) : Value := .agg #[.int .i64 (k : Int), .pointer (some ⟨cb, 0, none⟩)]
theorem handle_any (cb k : Nat) (w : World) :
    Calls Tryz.prog 63 #[.pointer (some ⟨cb, 0, none⟩), .int .i64 (k : Int)] w fun e w' => e = .returned (hdk cb k) ∧ Below w.heap.size w w' := by
  go_enter Tryz.func63, Tryz.ntmps63
  go_wp2
  exact bodyPost_ret (v := hdk cb k) (by simp [results, Tryz.results63, go_sem, *]) rfl ⟨rfl, by repeat (first | with_reducible apply Below.refl | (with_reducible apply Below.setCell; rotate_left; focus (first | omega | (simp; done) | (simp; omega))) | (with_reducible apply Below.alloc; rotate_left; focus (first | omega | (simp; done) | (simp; omega))))⟩
theorem each_enters : ∀ args w, (callFunc 42 args).run Tryz.prog w = .ok (.enter 42 args) w := enters_of Tryz.func42 (by kernel_rfl) rfl
theorem each_it (cb nn cc : Nat) (ad : Option Addr) (w : World) (hcb : cb < w.heap.size) (hc : w.cell? ⟨cb, 0, none⟩ = some (.slice ad nn cc)) (hn : nn ≤ 1048576) :
    ItC Tryz.prog 42 #[.pointer (some ⟨cb, 0, none⟩)] (fun k => #[hdk cb k]) nn w := by
  intro l J Jx W hbW hJb hJx hY h0
  have hc' : W.cell? ⟨cb, 0, none⟩ = some (.slice ad nn cc) := (hbW.cell (p := ⟨cb, 0, none⟩) hcb).trans hc
  refine callsIn_of_wp Tryz.func42 rfl trivial ?_ rfl
  simp only [Tryz.ntmps42, List.size_toArray, List.length_cons, List.length_nil, Nat.reduceAdd, Nat.reduceSub, Array.replicate_succ, Array.replicate_zero, List.push_toArray, List.append_toArray, List.nil_append, List.cons_append]
  gi_wp2
  gi_loopw [4, 10] (fun _ i wr => ∃ k : Nat, k ≤ nn ∧ i = .int .i64 (k : Int) ∧ J k wr) (fun _ i _ => nn - (intOf i).toNat)
  case atStart => exact ⟨0, Nat.zero_le _, rfl, h0⟩
  case round =>
    obtain ⟨k, hk, rfl, hJ⟩ := hrel
    by_cases hlt : k < nn
    · gi_wp2_with (refine ⟨trivial, rfl, ?_⟩; gi_at_call 63; refine (callsIn_wide.2 (handle_any cb k _)).mono ?_; rintro e w1 ⟨rfl, hb1⟩; have hJ1 := hJb _ _ _ hJ hb1; obtain ⟨fn, tmps, assign, body, hy, hR⟩ := hY k w1 hJ1 hlt)
      refine ⟨rfl, hR.mono ?_⟩
      rintro e w2 (⟨rfl, hJ2⟩ | ⟨rfl, hJx2⟩)
      · gi_wp2
        go_roundw
        case rel => exact ⟨k + 1, by omega, by go_num, hJ2⟩
        case measure => simp [intOf]; omega
      · gi_wp2
        refine bodyPost_ret (results_none rfl _ _ _) rfl ?_
        exact ⟨⟨_, rfl⟩, .inr hJx2⟩
    · gi_wp2
      go_end0
      obtain rfl : k = nn := by omega
      exact ⟨⟨_, rfl⟩, .inl hJ⟩
end Go.Proofs.YtlbpmmjckoaleaaGreat
namespace Go.Proofs.YtlbpmmjckoaleaaGreat
open Go.RowKit
set_option linter.unusedVariables false
set_option linter.unusedSimpArgs false
theorem l2Clamp_any (x y : Int) (w : World) :
    Calls Tryz.prog 90 #[vv x y] w fun e w' => e = .returned (vv (fc x) (fc y)) ∧ Below w.heap.size w w' := by
  have hset := cset_map
  go_enter Tryz.func90, Tryz.ntmps90
  go_wp2
  go_region_with (go_at_call 91; refine (sFixClamp_any _ _).mono ?_; rintro e w' ⟨rfl, rfl⟩)
  all_goals
    go_wp2
    exact bodyPost_ret (v := vv (fc x) (fc y)) (by simp [results, Tryz.results90, go_sem, *]) rfl ⟨rfl, bel_a⟩
theorem l1In_any (n l h : Int) (w : World) :
    Calls Tryz.prog 54 #[.int .i64 n, .int .i64 l, .int .i64 h] w fun e w' => e = .returned (.bool (decide (l ≤ n ∧ n ≤ h))) ∧ w' = w := by
  go_enter Tryz.func54, Tryz.ntmps54
  go_wp2
  all_goals
    go_ret
    refine ⟨ret_bool ?_, rfl⟩
    first | (simp; omega) | (simp; done)
abbrev b4 (a b c d : Int) : Value := .agg #[.int .i64 a, .int .i64 b, .int .i64 c, .int .i64 d]
def leB (x y u v : Int) : Bool := decide (x ≤ u ∧ y ≤ v)
def bokB (a b c d : Int) : Bool := vokB a b && (vokB c d && leB a b c d)
theorem noneGreater_any (x y u v : Int) (w : World) :
    Calls Tryz.prog 119 #[vv x y, vv u v] w fun e w' => e = .returned (.bool (leB x y u v)) ∧ Below w.heap.size w w' := by
  have hset := cset_map
  go_enter Tryz.func119, Tryz.ntmps119
  go_wp2
  all_goals
    go_ret
    refine ⟨ret_bool ?_, bel_a⟩
    unfold leB
    first | (simp; done) | (simp; omega) | (simp at *; omega)
def mn (x y : Int) : Int := if y < x then y else x
def mx (x y : Int) : Int := if x < y then y else x
theorem spanMeets_any (a b c d r s t u : Int) (w : World) :
    Calls Tryz.prog 113 #[b4 a b c d, b4 r s t u] w fun e w' => e = .returned (.bool (leB a b t u && leB r s c d)) ∧ Below w.heap.size w w' := by
  have hset := cset_map
  go_enter Tryz.func113, Tryz.ntmps113
  go_wp2_with (go_at_call 119; refine (noneGreater_any _ _ _ _ _).mono ?_; rintro e w1 ⟨rfl, hb1⟩; obtain ⟨hc1, hf1⟩ := bcell hb1; have hl1 := blt hb1; have hz1 := hb1.size; (try simp only [World.size_drew, World.size_alloc, World.size_setCell] at hc1 hf1 hl1 hz1); (try have hq1x0 : w.heap.size < w1.heap.size := (by omega)); (try have hq1x1 : w.heap.size + 1 < w1.heap.size := (by omega)))
  all_goals
    go_ret
    refine ⟨ret_bool ?_, bel_a⟩
    first | (simp [*]; done) | (simp at *; simp [*]; done) | (simp at *; omega)
theorem spanHas_any (a b c d r s t u : Int) (w : World) :
    Calls Tryz.prog 110 #[b4 a b c d, b4 r s t u] w fun e w' => e = .returned (.bool (leB a b r s && leB t u c d)) ∧ Below w.heap.size w w' := by
  have hset := cset_map
  go_enter Tryz.func110, Tryz.ntmps110
  go_wp2_with (go_at_call 119; refine (noneGreater_any _ _ _ _ _).mono ?_; rintro e w1 ⟨rfl, hb1⟩; obtain ⟨hc1, hf1⟩ := bcell hb1; have hl1 := blt hb1; have hz1 := hb1.size; (try simp only [World.size_drew, World.size_alloc, World.size_setCell] at hc1 hf1 hl1 hz1); (try have hq1x0 : w.heap.size < w1.heap.size := (by omega)); (try have hq1x1 : w.heap.size + 1 < w1.heap.size := (by omega)))
  all_goals
    go_ret
    refine ⟨ret_bool ?_, bel_a⟩
    first | (simp [*]; done) | (simp at *; simp [*]; done) | (simp at *; omega)
theorem least_any (x y u v : Int) (w : World) :
    Calls Tryz.prog 121 #[vv x y, vv u v] w fun e w' => e = .returned (vv (mn x u) (mn y v)) ∧ Below w.heap.size w w' := by
  have hset := cset_map
  go_enter Tryz.func121, Tryz.ntmps121
  go_wp2
  all_goals
    refine bodyPost_ret (v := vv (mn x u) (mn y v)) ?_ rfl ⟨rfl, bel_a⟩
    simp [results, Tryz.results121, go_sem, *]
    try (constructor <;> (unfold mn; split <;> omega))
theorem greatest_any (x y u v : Int) (w : World) :
    Calls Tryz.prog 120 #[vv x y, vv u v] w fun e w' => e = .returned (vv (mx x u) (mx y v)) ∧ Below w.heap.size w w' := by
  have hset := cset_map
  go_enter Tryz.func120, Tryz.ntmps120
  go_wp2
  all_goals
    refine bodyPost_ret (v := vv (mx x u) (mx y v)) ?_ rfl ⟨rfl, bel_a⟩
    simp [results, Tryz.results120, go_sem, *]
    try (constructor <;> (unfold mx; split <;> omega))
def szB (n : Int) : Bool := decide (1 ≤ n ∧ n ≤ 25600)
theorem isSize_any (n : Int) (w : World) :
    Calls Tryz.prog 94 #[.int .i64 n] w fun e w' => e = .returned (.bool (szB n)) ∧ w' = w := by
  go_enter Tryz.func94, Tryz.ntmps94
  go_wp2
  all_goals
    go_ret
    refine ⟨ret_bool ?_, rfl⟩
    unfold szB
    first | (simp; omega) | (simp; done)
def rdB (k wd h : Int) : Bool := decide (k = 1 ∧ (1 ≤ wd ∧ wd ≤ 25600) ∧ h = 0)
def bxB (k wd h : Int) : Bool := decide (k = 2 ∧ (1 ≤ wd ∧ wd ≤ 25600) ∧ (1 ≤ h ∧ h ≤ 25600))
def shB (k wd h : Int) : Bool := rdB k wd h || bxB k wd h
abbrev s3 (k wd h : Int) : Value := .agg #[.int .i64 k, .int .i64 wd, .int .i64 h]
theorem figureOf_round (wd : Int) (w : World) (h1 : 1 ≤ wd) (h2 : wd ≤ 25600) :
    Calls Tryz.prog 86 #[s3 1 wd 0] w fun e w' => e = .returned (.tuple #[.iface 135 (.agg #[.int .i64 wd]), .bool true]) ∧ Below w.heap.size w w' := by
  have hs : szB wd = true := by unfold szB; simp; omega
  go_enter Tryz.func86, Tryz.ntmps86
  go_wp2_with (go_at_call 94; refine (isSize_any _ _).mono ?_; rintro e w' ⟨rfl, rfl⟩)
  go_ret2
  exact ⟨rfl, (Below.refl _ _).alloc (Nat.le_refl _) _⟩
theorem figureOf_box (wd h : Int) (w : World) (h1 : 1 ≤ wd) (h2 : wd ≤ 25600) (h3 : 1 ≤ h) (h4 : h ≤ 25600) :
    Calls Tryz.prog 86 #[s3 2 wd h] w fun e w' => e = .returned (.tuple #[.iface 137 (.agg #[.int .i64 wd, .int .i64 h]), .bool true]) ∧ Below w.heap.size w w' := by
  have hs : szB wd = true := by unfold szB; simp; omega
  have hs2 : szB h = true := by unfold szB; simp; omega
  go_enter Tryz.func86, Tryz.ntmps86
  go_wp2_with (go_at_call 94; refine (isSize_any _ _).mono ?_; rintro e w' ⟨rfl, rfl⟩)
  go_ret2
  exact ⟨rfl, (Below.refl _ _).alloc (Nat.le_refl _) _⟩
theorem figureOf_none (k wd h : Int) (w : World) (hn : shB k wd h = false) :
    Calls Tryz.prog 86 #[s3 k wd h] w fun e w' => e = .returned (.tuple #[.nilIface, .bool false]) ∧ Below w.heap.size w w' := by
  have HN : Hid (¬ ((k = 1 ∧ (1 ≤ wd ∧ wd ≤ 25600) ∧ h = 0) ∨ (k = 2 ∧ (1 ≤ wd ∧ wd ≤ 25600) ∧ (1 ≤ h ∧ h ≤ 25600)))) := by
    unfold shB rdB bxB at hn
    simp only [Bool.or_eq_false_iff, decide_eq_false_iff_not] at hn
    rintro (h | h)
    · exact hn.1 h
    · exact hn.2 h
  clear hn
  have hsz : Hid (∀ n, szB n = true → 1 ≤ n ∧ n ≤ 25600) := by intro n hn; unfold szB at hn; simpa using hn
  go_enter Tryz.func86, Tryz.ntmps86
  go_wp2_with (go_at_call 94; refine (isSize_any _ _).mono ?_; rintro e w' ⟨rfl, rfl⟩)
  all_goals
    first
      | (go_ret2; exact ⟨rfl, (Below.refl _ _).alloc (Nat.le_refl _) _⟩)
      | (exfalso; subst k; exact HN.out (.inl ⟨rfl, hsz.out _ ‹_›, by simpa using ‹(h == 0) = true›⟩))
      | (exfalso; subst k; exact HN.out (.inr ⟨rfl, hsz.out _ ‹szB wd = true›, hsz.out _ ‹szB h = true›⟩))
theorem shapeOk_any (k wd h : Int) (w : World) :
    Calls Tryz.prog 65 #[s3 k wd h] w fun e w' => e = .returned (.bool (shB k wd h)) ∧ Below w.heap.size w w' := by
  by_cases hr : rdB k wd h = true
  · have e : shB k wd h = true := by unfold shB; rw [hr]; rfl
    have E : Hid (shB k wd h = true) := e
    clear e
    unfold rdB at hr
    obtain ⟨rfl, ⟨h1, h2⟩, rfl⟩ := of_decide_eq_true hr
    clear hr
    go_enter Tryz.func65, Tryz.ntmps65
    go_wp2_with (go_at_call 86; refine (figureOf_round _ _ h1 h2).mono ?_; rintro e w1 ⟨rfl, hb1⟩)
    go_ret
    exact ⟨ret_bool E.out.symm, ((Below.refl _ _).alloc (Nat.le_refl _) _).trans (hb1.mono (by simp))⟩
  · by_cases hb : bxB k wd h = true
    · have e : shB k wd h = true := by unfold shB; rw [hb]; simp
      have E : Hid (shB k wd h = true) := e
      clear e hr
      unfold bxB at hb
      obtain ⟨rfl, ⟨h1, h2⟩, h3, h4⟩ := of_decide_eq_true hb
      clear hb
      go_enter Tryz.func65, Tryz.ntmps65
      go_wp2_with (go_at_call 86; refine (figureOf_box _ _ _ h1 h2 h3 h4).mono ?_; rintro e w1 ⟨rfl, hb1⟩)
      go_ret
      exact ⟨ret_bool E.out.symm, ((Below.refl _ _).alloc (Nat.le_refl _) _).trans (hb1.mono (by simp))⟩
    · have e : shB k wd h = false := by unfold shB; simp [hr, hb]
      have E : Hid (shB k wd h = false) := e
      clear e hr hb
      go_enter Tryz.func65, Tryz.ntmps65
      go_wp2_with (go_at_call 86; refine (figureOf_none _ _ _ _ E.out).mono ?_; rintro e w1 ⟨rfl, hb1⟩)
      go_ret
      exact ⟨ret_bool E.out.symm, ((Below.refl _ _).alloc (Nat.le_refl _) _).trans (hb1.mono (by simp))⟩
theorem sShapeOk_any (k wd h : Int) (w : World) :
    Calls Tryz.prog 55 #[s3 k wd h] w fun e w' => e = .returned (.bool (shB k wd h)) ∧ Below w.heap.size w w' := by
  go_enter Tryz.func55, Tryz.ntmps55
  go_wp2_with (go_at_call 54; refine (l1In_any _ _ _ _).mono ?_; rintro e w' ⟨rfl, rfl⟩)
  all_goals
    go_ret
    refine ⟨ret_bool ?_, (Below.refl _ _).alloc (Nat.le_refl _) _⟩
    unfold shB rdB bxB
    first | (simp [*]; done) | (simp at *; subst k; simp [*]; done) | (simp at *; subst k; simp [*]; rfl) | (simp at *; subst k; simp; omega) | (simp at *; simp [*]; done)
theorem toShape_any (k wd h : Int) (w : World) :
    Calls Tryz.prog 39 #[s3 k wd h] w fun e w' => e = .returned (s3 k wd h) ∧ Below w.heap.size w w' := by
  have hset := cset_map
  go_enter Tryz.func39, Tryz.ntmps39
  go_wp2
  exact bodyPost_ret (v := s3 k wd h) (by simp [results, Tryz.results39, go_sem, *]) rfl ⟨rfl, by repeat (first | exact Below.refl _ _ | refine Below.setCell ?_ (by first | omega | (simp; done) | (simp; omega)) _ | refine Below.alloc ?_ (by first | omega | (simp; done) | (simp; omega)) _)⟩
def ptB (a b c d x y : Int) : Bool := decide ((a ≤ x ∧ x ≤ c) ∧ (b ≤ y ∧ y ≤ d))
theorem l3Meets_any (a b c d r s t u : Int) (w : World) :
    Calls Tryz.prog 83 #[b4 a b c d, b4 r s t u] w fun e w' => e = .returned (.bool (leB a b t u && leB r s c d)) ∧ Below w.heap.size w w' := by
  have hset := cset_map
  go_enter Tryz.func83, Tryz.ntmps83
  go_wp2
  all_goals
    go_ret
    refine ⟨ret_bool ?_, bel_a⟩
    unfold leB
    first | (simp [*]; done) | (simp at *; omega) | (simp [*]; omega)
theorem l3Point_any (a b c d x y : Int) (w : World) :
    Calls Tryz.prog 84 #[b4 a b c d, vv x y] w fun e w' => e = .returned (.bool (ptB a b c d x y)) ∧ Below w.heap.size w w' := by
  have hset := cset_map
  go_enter Tryz.func84, Tryz.ntmps84
  go_wp2_with (go_at_call 54; refine (l1In_any _ _ _ _).mono ?_; rintro e w' ⟨rfl, rfl⟩)
  all_goals
    go_ret
    refine ⟨ret_bool ?_, bel_a⟩
    unfold ptB
    first | (simp [*]; done) | (simp at *; omega) | (simp [*]; omega)
theorem l2Square_any (x y : Int) (w : World) (hx : -1500000000 ≤ x ∧ x ≤ 1500000000) (hy : -1500000000 ≤ y ∧ y ≤ 1500000000) :
    Calls Tryz.prog 80 #[vv x y] w fun e w' => e = .returned (.int .i64 (x * x + y * y)) ∧ Below w.heap.size w w' := by
  have p := mul_bd (a := x) (b := x) (A := 1500000000) (B := 1500000000) hx hx
  have q := mul_bd (a := y) (b := y) (A := 1500000000) (B := 1500000000) hy hy
  have hset := cset_map
  go_enter Tryz.func80, Tryz.ntmps80
  go_wp2
  go_ret
  exact ⟨rfl, bel_a⟩
theorem sVecLen_any (x y : Int) (w : World) :
    Calls Tryz.prog 82 #[vv x y] w fun e w' => e = .returned (.int .i64 (vl (fc x) (fc y))) ∧ Below w.heap.size w w' := by
  have hx := fc_bd x
  have hy := fc_bd y
  have hs := sq_bd hx hy
  have hset := cset_map
  go_enter Tryz.func82, Tryz.ntmps82
  go_wp2_with (first
    | (go_at_call 90; refine (l2Clamp_any _ _ _).mono ?_; rintro e w1 ⟨rfl, hb1⟩; obtain ⟨hc1, hf1⟩ := bcell hb1; have hz1 := hb1.size; (try simp at hz1); have hq1x0a : w.heap.size < w1.heap.size := (by omega))
    | (go_at_call 80; refine (l2Square_any _ _ _ (by omega) (by omega)).mono ?_; rintro e w2 ⟨rfl, hb2⟩; obtain ⟨hc2, hf2⟩ := bcell hb2; have hz2 := hb2.size; (try simp at hz2); have hq2x0a : w.heap.size < w2.heap.size := (by omega))
    | (go_at_call 92; refine (l1Root_any _ _ (by omega) (by omega)).mono ?_; rintro e w' ⟨rfl, rfl⟩)
    | (go_at_call 91; refine (sFixClamp_any _ _).mono ?_; rintro e w' ⟨rfl, rfl⟩))
  go_ret
  exact ⟨rfl, bel_a⟩
theorem sVecUnit_any (x y : Int) (w : World) :
    Calls Tryz.prog 81 #[vv x y] w fun e w' => e = .returned (vv (ux (fc x) (fc y)) (uy (fc x) (fc y))) ∧ Below w.heap.size w w' := by
  have hx := fc_bd x
  have hy := fc_bd y
  have hl := vl_bd (fc x) (fc y)
  have f1 := fc_fc x
  have f2 := fc_fc y
  by_cases h0 : vl (fc x) (fc y) = 0
  · have e1 : ux (fc x) (fc y) = 0 := if_pos h0
    have e2 : uy (fc x) (fc y) = 256 := if_pos h0
    have hset := cset_map
    go_enter Tryz.func81, Tryz.ntmps81
    go_wp2_with (first
    | (go_at_call 90; refine (l2Clamp_any _ _ _).mono ?_; rintro e w1 ⟨rfl, hb1⟩; obtain ⟨hc1, hf1⟩ := bcell hb1; have hz1 := hb1.size; (try simp at hz1); have hq1x0a : w.heap.size < w1.heap.size := (by omega); have hq1x1a : w.heap.size + 1 < w1.heap.size := (by omega))
    | (go_at_call 82; refine (sVecLen_any _ _ _).mono ?_; rintro e w6 ⟨rfl, hb6⟩; obtain ⟨hc6, hf6⟩ := bcell hb6; have hz6 := hb6.size; (try simp at hz6); have hq6x0a : w.heap.size < w6.heap.size := (by omega); have hq6x1a : w.heap.size + 1 < w6.heap.size := (by omega)))
    exact bodyPost_ret (v := vv 0 256) (by simp [results, Tryz.results81, go_sem, *]) rfl ⟨by rw [e1, e2], bel_a⟩
  · have t1 := w64 (n := (fc x * 256).tdiv (vl (fc x) (fc y))) (by have := tdiv_bd (x := fc x * 256) (B := 256000000000) (vl (fc x) (fc y)) (by omega); omega)
    have t2 := w64 (n := (fc y * 256).tdiv (vl (fc x) (fc y))) (by have := tdiv_bd (x := fc y * 256) (B := 256000000000) (vl (fc x) (fc y)) (by omega); omega)
    have s1 := i64w (n := (fc x * 256).tdiv (vl (fc x) (fc y))) (by have := tdiv_bd (x := fc x * 256) (B := 256000000000) (vl (fc x) (fc y)) (by omega); omega)
    have s2 := i64w (n := (fc y * 256).tdiv (vl (fc x) (fc y))) (by have := tdiv_bd (x := fc y * 256) (B := 256000000000) (vl (fc x) (fc y)) (by omega); omega)
    have E1 : Hid (ux (fc x) (fc y) = (fc x * 256).tdiv (vl (fc x) (fc y))) := if_neg h0
    have E2 : Hid (uy (fc x) (fc y) = (fc y * 256).tdiv (vl (fc x) (fc y))) := if_neg h0
    have hset := cset_map
    go_enter Tryz.func81, Tryz.ntmps81
    go_wp2_with (first
    | (go_at_call 90; refine (l2Clamp_any _ _ _).mono ?_; rintro e w1 ⟨rfl, hb1⟩; obtain ⟨hc1, hf1⟩ := bcell hb1; have hz1 := hb1.size; (try simp at hz1); have hq1x0a : w.heap.size < w1.heap.size := (by omega); have hq1x1a : w.heap.size + 1 < w1.heap.size := (by omega))
    | (go_at_call 82; refine (sVecLen_any _ _ _).mono ?_; rintro e w6 ⟨rfl, hb6⟩; obtain ⟨hc6, hf6⟩ := bcell hb6; have hz6 := hb6.size; (try simp at hz6); have hq6x0a : w.heap.size < w6.heap.size := (by omega); have hq6x1a : w.heap.size + 1 < w6.heap.size := (by omega)))
    go_region
    all_goals
      go_wp2
      exact bodyPost_ret (v := vv ((fc x * 256).tdiv (vl (fc x) (fc y))) ((fc y * 256).tdiv (vl (fc x) (fc y)))) (by simp [results, Tryz.results81, go_sem, *]) rfl ⟨by rw [E1.out, E2.out], bel_a⟩
end Go.Proofs.YtlbpmmjckoaleaaGreat
