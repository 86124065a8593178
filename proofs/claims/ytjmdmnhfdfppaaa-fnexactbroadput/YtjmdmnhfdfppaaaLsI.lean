/- Lists of boxes with their numbers: turned into the program's own. -/
import Derived.Test.YtjmdmnhfdfppaaaLs
import Derived.Test.YtjmdmnhfdfppaaaExBox
import Derived.Deep.DeepCutAuto
namespace Go.Proofs.Ytjmdmnhfdfppaaa
open Go.RowKit
set_option linter.unusedVariables false
set_option linter.unusedSimpArgs false
abbrev itemW (V : Nat → Int) : Value := .agg #[.int .i64 (V 0), .int .i64 (V 1), .int .i64 (V 2), .int .i64 (V 3), .int .i64 (V 4)]
abbrev zeroI : Value := .agg #[.int .i64 0, .int .i64 0, .int .i64 0, .int .i64 0, .int .i64 0]
theorem makeItems (n : Nat) (hn : n ≤ 1048576) (w : World) : (Instr.makeSlice 32 (.int .i64 (n : Int)) (.int .i64 (n : Int))).run Try.prog w = .ok (.slice (some ⟨w.heap.size, 0, none⟩) n n) (w.alloc (.cells (madeCells zeroI.cells (n * 5)) 42)) :=
  make_rows _ _ zeroI 5 40 Try.underlying32 (by kernel_rfl) _ _ n (by omega) (by omega) w
set_option maxHeartbeats 2000000 in
theorem toItem_any (V : Nat → Int) (w : World) :
    Calls Try.prog 8 #[itemW V] w fun e w' => e = .returned (itemW V) ∧ Below w.heap.size w w' := by
  have hset := cset_map
  go_enter Try.func8, Try.ntmps8
  go_wp2_with (go_at_call 22; refine (toBox_any _ _ _ _ _).mono ?_; rintro e w1 ⟨rfl, hb1⟩; obtain ⟨hc1, hf1⟩ := bcell hb1; have hl1 := blt hb1; have hz1 := hb1.size; (try simp only [World.size_drew, World.size_alloc, World.size_setCell] at hc1 hf1 hl1 hz1); (try have hq1x0 : w.heap.size < w1.heap.size := (by omega)); (try have hq1x1 : w.heap.size + 1 < w1.heap.size := (by omega)); (try have hq1x2 : w.heap.size + 1 + 1 < w1.heap.size := (by omega)))
  exact bodyPost_ret (v := itemW V) (by simp [results, Try.results8, go_sem, *]) rfl ⟨rfl, by repeat (first | with_reducible apply Below.refl | (with_reducible apply Below.setCell; rotate_left; focus (first | omega | (simp; done) | (simp; omega))) | (with_reducible apply Below.alloc; rotate_left; focus (first | omega | (simp; done) | (simp; omega))) | with_reducible apply Below.drew | with_reducible apply belowDrewN | (with_reducible apply Below.trans; rotate_left; with_reducible apply Below.mono; with_reducible assumption; focus (first | omega | (simp; done) | (simp; omega))))⟩
set_option maxHeartbeats 2000000 in
theorem toItemS_any (a : Option Addr) (n c : Nat) (U : Nat → Int) (w : World) (h : Flat w a (n * 5) U) (hn : n ≤ 1048576) :
    Calls Try.prog 21 #[.slice a n c] w fun e w' => ∃ b, e = .returned (.slice (some ⟨b, 0, none⟩) n n) ∧ w.heap.size ≤ b ∧ Row w' b 42 (n * 5) U ∧ Below w.heap.size w w' := by
  have hmk := makeItems n hn
  go_enter Try.func21, Try.ntmps21
  go_wp2
  clear hmk
  go_loopw [4] (fun i wr => ∃ k : Nat, k ≤ n ∧ i = .int .i64 (k : Int) ∧ Row wr w.heap.size 42 (n * 5) (upto (k * 5) U) ∧ Below w.heap.size w wr) (fun i _ => n - (intOf i).toNat)
  case atStart => exact ⟨0, Nat.zero_le _, rfl, (Row.madek w _ 5 _ _ rfl (by decide) U).cut (by omega), (Below.refl _ _).alloc (Nat.le_refl _) _⟩
  case round =>
    obtain ⟨k, hk, rfl, hr, hbel⟩ := hrel
    have hrl := hr.lt
    by_cases hlt : k < n
    · obtain ⟨b, o, rfl, hbl, hc⟩ := (h.below hbel) (by omega)
      have c0 := hc (k * 5) (by omega)
      have c1 := hc (k * 5 + 1) (by omega)
      have c2 := hc (k * 5 + 2) (by omega)
      have c3 := hc (k * 5 + 3) (by omega)
      have c4 := hc (k * 5 + 4) (by omega)
      simp only [← Nat.add_assoc] at c0 c1 c2 c3 c4
      clear hc h
      go_wp2_with (go_at_call 8; refine (toItem_any (fun j => U (k * 5 + j)) _).mono ?_; rintro e w1 ⟨rfl, hb1⟩; have hr1 := hr.below hb1; have f1 := hr1.fro; (have e0 := hr1.cell (q := k * 5) (by omega)); (have e1 := hr1.cell (q := k * 5 + 1) (by omega)); (have e2 := hr1.cell (q := k * 5 + 2) (by omega)); (have e3 := hr1.cell (q := k * 5 + 3) (by omega)); (have e4 := hr1.cell (q := k * 5 + 4) (by omega)))
      go_roundw
      case rel => exact ⟨k + 1, by omega, by go_num, (((((hr1.next).next).next).next).next).cut (by omega), by repeat (first | with_reducible apply Below.refl | (with_reducible apply Below.setCell; rotate_left; focus (first | omega | (simp; done) | (simp; omega))) | (with_reducible apply Below.alloc; rotate_left; focus (first | omega | (simp; done) | (simp; omega))) | with_reducible apply Below.drew | with_reducible apply belowDrewN | (with_reducible apply Below.trans; rotate_left; with_reducible apply Below.mono; with_reducible assumption; focus (first | omega | (simp; done) | (simp; omega))))⟩
      case measure => simp [intOf]; omega
    · go_wp2
      go_ret
      exact ⟨_, rfl, Nat.le_refl _, hr.full (by omega), hbel⟩
end Go.Proofs.Ytjmdmnhfdfppaaa
