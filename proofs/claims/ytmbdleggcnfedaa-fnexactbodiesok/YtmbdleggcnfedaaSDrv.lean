/- All that bodies are driven by together, by the specification. -/
import Derived.Test.YtmbdleggcnfedaaDrv
import Derived.Deep.RegionHeld3
import Derived.Deep.DeepCutAuto
namespace Go.Proofs.Ytmbdleggcnfedaa
open Go.RowKit
set_option linter.unusedVariables false
set_option linter.unusedSimpArgs false

set_option maxRecDepth 20000 in
set_option maxHeartbeats 4000000 in
theorem sDrives_ok (a : Option Addr) (n c : Nat) (U : Nat → Int) (w : World) (h : Flat w a (n * 12) U) (hn : n ≤ 1048576) (hok : bodsB n U = true) :
    Calls Try.prog 10 #[.slice a n c] w fun e w' => e = .returned (vv (sumD U 6 n) (sumD U 7 n)) ∧ Below w.heap.size w w' := by
  have hset := cset_map
  have hn12 := bodsB_le hok
  go_enter Try.func10, Try.ntmps10
  go_wp2_with (go_at_call 6; refine (sBodiesOk_q a n c U true _ (h.below (by repeat (first | with_reducible apply Below.refl | (with_reducible apply Below.setCell; rotate_left; focus (first | omega | (simp; done) | (simp; omega))) | (with_reducible apply Below.alloc; rotate_left; focus (first | omega | (simp; done) | (simp; omega))) | with_reducible apply Below.drew | with_reducible apply belowDrewN | (with_reducible apply Below.trans; rotate_left; with_reducible apply Below.mono; with_reducible assumption; focus (first | omega | (simp; done) | (simp; omega)))))) hn hok).mono ?_; rintro e w1 ⟨rfl, hb1⟩; obtain ⟨hc1, hf1⟩ := bcell hb1; have hz1 := hb1.size; (try simp only [World.size_drew, World.size_alloc, World.size_setCell] at hc1 hf1 hz1); have hk1x0 := fun o => hc1 (w.heap.size) o (by omega); have hj1x0 := fun o => hf1 (w.heap.size) o (by omega); have hq1x0 : w.heap.size < w1.heap.size := (by omega); have hk1x1 := fun o => hc1 (w.heap.size + 1) o (by omega); have hj1x1 := fun o => hf1 (w.heap.size + 1) o (by omega); have hq1x1 : w.heap.size + 1 < w1.heap.size := (by omega); clear hc1 hf1)
  have hA : SumAt w1 w1 (w.heap.size + 1) 0 0 := ⟨Fr.refl _ _, by go_simp, by go_simp, by go_simp, by go_simp⟩
  have hB : Below w.heap.size w w1 := by repeat (first | with_reducible apply Below.refl | (with_reducible apply Below.setCell; rotate_left; focus (first | omega | (simp; done) | (simp; omega))) | (with_reducible apply Below.alloc; rotate_left; focus (first | omega | (simp; done) | (simp; omega))) | with_reducible apply Below.drew | with_reducible apply belowDrewN | (with_reducible apply Below.trans; rotate_left; with_reducible apply Below.mono; with_reducible assumption; focus (first | omega | (simp; done) | (simp; omega))))
  have r2 : w1.cell? ⟨w.heap.size, 0, none⟩ = some (.int .i64 0) := by go_simp
  have r3 : w1.cell? ⟨w.heap.size, 1, none⟩ = some (.int .i64 0) := by go_simp
  have f2 : w1.frozen? ⟨w.heap.size, 0, none⟩ = false := by go_simp
  have f3 : w1.frozen? ⟨w.heap.size, 1, none⟩ = false := by go_simp
  clear hb1 hk1x0 hk1x1 hj1x0 hj1x1
  have hab0 : w.heap.size < w.heap.size + 1 := by omega
  generalize w.heap.size + 1 = ab at hA hab0 hq1x1 ⊢
  go_loopw [4] (fun i wr => ∃ k : Nat, k ≤ n ∧ i = .int .i64 (k : Int) ∧ SumAt w1 wr ab (sumD U 6 k) (sumD U 7 k)) (fun i _ => n - (intOf i).toNat)
  case atStart => exact ⟨0, Nat.zero_le _, rfl, hA⟩
  case round =>
    obtain ⟨k, hk, rfl, hF⟩ := hrel
    have a1 := hF.cx
    have a2 := hF.cy
    have a3 := hF.fx
    have a4 := hF.fy
    have hzr := hF.fr.size
    by_cases hlt : k < n
    · have hkn : (k : Int) < (n : Int) := by omega
      obtain ⟨b, o, rfl, hbl, hc⟩ := h (by omega)
      have hc' : ∀ q, q < n * 12 → wr.cell? ⟨b, o + q, none⟩ = some (.int .i64 (U q)) := fun q hq => (hF.fr.cell (p := ⟨b, o + q, none⟩) (by simp; omega) (by simp; omega)).trans ((hB.cell (p := ⟨b, o + q, none⟩) hbl).trans (hc q hq))
      have c6 := hc' (k * 12 + 6) (by omega)
      have c7 := hc' (k * 12 + 7) (by omega)
      simp only [← Nat.add_assoc] at c6 c7
      clear hc hc'
      obtain ⟨b1, b2⟩ := sumD_bd hok k (by omega)
      obtain ⟨b3, b4⟩ := drv_bd hok hlt
      have g1 : IntKind.i64.wrap (sumD U 6 k + U (k * 12 + 6)) = sumD U 6 k + U (k * 12 + 6) := i64w (by omega)
      have g2 : IntKind.i64.wrap (sumD U 7 k + U (k * 12 + 7)) = sumD U 7 k + U (k * 12 + 7) := i64w (by omega)
      have hne : ab ≠ b := by omega
      go_upto_region 7 with fail
      refine wp_region_held_drew (S := fun w' => w'.cell? ⟨b, o + k * 12 + 6, none⟩ = some (.int .i64 (U (k * 12 + 6)))) (by kernel_rfl) ?_ (fun hHeld => ?_)
      · (try dsimp only)
        (first | (go_simp; done) | (go_keep; done))
      refine tq 0 hHeld ?_
      refine tq 2 hHeld ?_
      refine tq 3 hHeld ?_
      refine tq 4 hHeld ?_
      refine tq 5 hHeld ?_
      refine tq 6 hHeld ?_
      refine tq 7 hHeld ?_
      (refine tc 1 fun K hK => ?_; go_simp; refine tr hK (fun hHeld => ?_); clear hK K)
      refine tq 8 hHeld ?_
      refine tq 9 hHeld ?_
      (refine tc 10 fun K hK => ?_; go_simp; refine tr hK (fun hHeld => ?_); clear hK K)
      refine wpAnyH_done (by kernel_rfl) ?_ _
      
      go_upto_region 8 with fail
      refine wp_region_held_drew (S := fun w' => w'.cell? ⟨b, o + k * 12 + 7, none⟩ = some (.int .i64 (U (k * 12 + 7)))) (by kernel_rfl) ?_ (fun hHeld => ?_)
      · (try dsimp only)
        (first | (go_simp; done) | (go_keep; done))
      refine tq 0 hHeld ?_
      refine tq 2 hHeld ?_
      refine tq 3 hHeld ?_
      refine tq 4 hHeld ?_
      refine tq 5 hHeld ?_
      refine tq 6 hHeld ?_
      refine tq 7 hHeld ?_
      (refine tc 1 fun K hK => ?_; go_simp; refine tr hK (fun hHeld => ?_); clear hK K)
      refine tq 8 hHeld ?_
      refine tq 9 hHeld ?_
      (refine tc 10 fun K hK => ?_; go_simp; refine tr hK (fun hHeld => ?_); clear hK K)
      refine wpAnyH_done (by kernel_rfl) ?_ _
      
      go_wp2_with fail
      go_roundw
      case rel =>
        refine ⟨k + 1, by omega, by go_num, ⟨?_, ?_, ?_, ?_, ?_⟩⟩
        · exact ((hF.fr.trans (Fr.setCell (X := fun b => b = ab) rfl _)).trans (Fr.setCell (X := fun b => b = ab) rfl _)).drew.drew
        · show _ = some (Value.int .i64 (sumD U 6 k + U (k * 12 + 6)))
          go_simp
        · show _ = some (Value.int .i64 (sumD U 7 k + U (k * 12 + 7)))
          go_simp
        · go_simp
        · go_simp
      case measure => simp [intOf]; omega
    · obtain rfl : k = n := by omega
      have q2 := (hF.fr.cell (p := ⟨w.heap.size, 0, none⟩) (by simp; omega) (by simp; omega)).trans r2
      have q3 := (hF.fr.cell (p := ⟨w.heap.size, 1, none⟩) (by simp; omega) (by simp; omega)).trans r3
      have p2 := (hF.fr.frozen (p := ⟨w.heap.size, 0, none⟩) (by simp; omega) (by simp; omega)).trans f2
      have p3 := (hF.fr.frozen (p := ⟨w.heap.size, 1, none⟩) (by simp; omega) (by simp; omega)).trans f3
      have hBW : Below w.heap.size w wr := hB.trans (hF.fr.below (by omega) (fun k e => by omega))
      go_wp2
      exact bodyPost_ret (v := vv (sumD U 6 k) (sumD U 7 k)) (by simp [results, Try.results10, go_sem, *]) rfl ⟨rfl, by repeat (first | with_reducible apply Below.refl | (with_reducible apply Below.setCell; rotate_left; focus (first | omega | (simp; done) | (simp; omega))) | (with_reducible apply Below.alloc; rotate_left; focus (first | omega | (simp; done) | (simp; omega))) | with_reducible apply Below.drew | with_reducible apply belowDrewN | (with_reducible apply Below.trans; rotate_left; with_reducible apply Below.mono; with_reducible assumption; focus (first | omega | (simp; done) | (simp; omega))))⟩
theorem sDrives_no (a : Option Addr) (n c : Nat) (U : Nat → Int) (w : World) (h : Flat w a (n * 12) U) (hn : n ≤ 1048576) (hok : bodsB n U = false) :
    Calls Try.prog 10 #[.slice a n c] w fun e w' => e = .returned (vv 0 0) ∧ Below w.heap.size w w' := by
  have hset := cset_map
  go_enter Try.func10, Try.ntmps10
  go_wp2_with (go_at_call 6; refine (sBodiesOk_q a n c U false _ (h.below (by repeat (first | with_reducible apply Below.refl | (with_reducible apply Below.setCell; rotate_left; focus (first | omega | (simp; done) | (simp; omega))) | (with_reducible apply Below.alloc; rotate_left; focus (first | omega | (simp; done) | (simp; omega))) | with_reducible apply Below.drew | with_reducible apply belowDrewN | (with_reducible apply Below.trans; rotate_left; with_reducible apply Below.mono; with_reducible assumption; focus (first | omega | (simp; done) | (simp; omega)))))) hn hok).mono ?_; rintro e w1 ⟨rfl, hb1⟩; obtain ⟨hc1, hf1⟩ := bcell hb1; have hz1 := hb1.size; (try simp only [World.size_drew, World.size_alloc, World.size_setCell] at hc1 hf1 hz1); have hk1x0 := fun o => hc1 (w.heap.size) o (by omega); have hj1x0 := fun o => hf1 (w.heap.size) o (by omega); have hq1x0 : w.heap.size < w1.heap.size := (by omega); have hk1x1 := fun o => hc1 (w.heap.size + 1) o (by omega); have hj1x1 := fun o => hf1 (w.heap.size + 1) o (by omega); have hq1x1 : w.heap.size + 1 < w1.heap.size := (by omega); clear hc1 hf1)
  exact bodyPost_ret (v := vv 0 0) (by simp [results, Try.results10, go_sem, *]) rfl ⟨rfl, by repeat (first | with_reducible apply Below.refl | (with_reducible apply Below.setCell; rotate_left; focus (first | omega | (simp; done) | (simp; omega))) | (with_reducible apply Below.alloc; rotate_left; focus (first | omega | (simp; done) | (simp; omega))) | with_reducible apply Below.drew | with_reducible apply belowDrewN | (with_reducible apply Below.trans; rotate_left; with_reducible apply Below.mono; with_reducible assumption; focus (first | omega | (simp; done) | (simp; omega))))⟩
/-- what Drives answers -/
def drX (n : Nat) (U : Nat → Int) : Int := bif bodsB n U then sumD U 6 n else 0
def drY (n : Nat) (U : Nat → Int) : Int := bif bodsB n U then sumD U 7 n else 0
theorem drives_q (a : Option Addr) (n c : Nat) (U : Nat → Int) (x y : Int) (w : World) (h : Flat w a (n * 12) U) (hn : n ≤ 1048576) (ex : drX n U = x) (ey : drY n U = y) :
    Calls Try.prog 11 #[.slice a n c] w fun e w' => e = .returned (vv x y) ∧ Below w.heap.size w w' := by
  subst ex ey
  unfold drX drY
  cases hok : bodsB n U with
  | true => exact drives_ok a n c U w h hn hok
  | false => exact drives_no a n c U w h hn hok
theorem sDrives_q (a : Option Addr) (n c : Nat) (U : Nat → Int) (x y : Int) (w : World) (h : Flat w a (n * 12) U) (hn : n ≤ 1048576) (ex : drX n U = x) (ey : drY n U = y) :
    Calls Try.prog 10 #[.slice a n c] w fun e w' => e = .returned (vv x y) ∧ Below w.heap.size w w' := by
  subst ex ey
  unfold drX drY
  cases hok : bodsB n U with
  | true => exact sDrives_ok a n c U w h hn hok
  | false => exact sDrives_no a n c U w h hn hok
end Go.Proofs.Ytmbdleggcnfedaa
