/- The draw of a hit. -/
import Derived.Test.YtpgoicdblbpcaaaBodyL
import Derived.Test.YtpgoicdblbpcaaaSTch4
import Derived.Deep.RegionHeld3
import Derived.Deep.DeepCutAuto
namespace Go.Proofs.Ytpgoicdblbpcaaa
open Go.RowKit
set_option linter.unusedVariables false
set_option linter.unusedSimpArgs false
def B2 (x : Int) : Prop := -2000000000 ≤ x ∧ x ≤ 2000000000
/-- a hit that was drawn -/
def HN (X Y D : Int) : Prop := B2 X ∧ B2 Y

set_option maxHeartbeats 8000000 in
theorem l11Hit_s (rb p : Nat) (w : World) (hs0 : RS w rb p) (hp : p ≤ 900000) :
    Calls Try.prog 36 #[.pointer (some ⟨rb, 0, none⟩)] w fun e w' => ∃ X Y D : Int, e = .returned (s3 X Y D) ∧ HN X Y D ∧ RB w w' rb (p + 200) := by
  have hlt := hs0.lt
  have hset := cset_map
  have hB : BL w (w.alloc (.cells #[.int .i64 0, .int .i64 0, .int .i64 0] 30)) rb p [(w.heap.size, 3, (fun _ => 0))] := (BL.start hs0).new _ 3 (fun _ => 0) rfl (by intro i hi; rcases (show i = 0 ∨ i = 1 ∨ i = 2 by omega) with rfl | rfl | rfl <;> rfl)
  go_enter Try.func36, Try.ntmps36
  go_upto_region 1 with fail
  have hz0 : w.heap.size < (w.alloc (.cells #[.int .i64 0, .int .i64 0, .int .i64 0] 30)).heap.size := by simp
  generalize w.alloc (.cells #[.int .i64 0, .int .i64 0, .int .i64 0] 30) = w0 at *
  go_cut [3] (fun s3 wc => ∃ (hb : Nat) (X Y D : Int), s3 = .pointer (some ⟨hb, 0, none⟩) ∧ HN X Y D ∧ (w.heap.size < hb) ∧ BL w wc rb (p + 100) [(hb, 3, (fun j => [X, Y, D].getD j 0)), (w.heap.size, 3, (fun _ => 0))])
  case first =>
    go_wp2_with (first
    | (have _ := hr5; go_at_call 37; refine (one_s (0) 4 rb (p + 40) _ _ _ _ _ (by exact (hD5.mono (p1 := p + 40) (by omega)).rs) (by omega) (by repeat (first | exact AllBd.nil | refine AllBd.cons (by omega) (by omega) ?_)) (by rfl) (by omega) (by omega)).mono ?_; rintro e w6 ⟨v6, rfl, va6, vb6, hr6⟩; have hD6 := hD5.call hr6; have hm6 := mul_bd (a := v5) (b := v6) (A := 256) (B := 4) (by omega) (by omega); have hw6 := i64w (n := v5 * v6) (by omega))
    | (have _ := hb4; go_at_call 21; refine (pick_s rb (p + 30) _ _ (by exact (hD4.mono (p1 := p + 30) (by omega)).rs) (by omega) (by omega) (by omega)).mono ?_; rintro e w5 ⟨v5, rfl, va5, vb5, hr5⟩; have hD5 := hD4.call hr5)
    | (go_at_call 70; refine (sunit_q _ _ _ _ _ rfl rfl).mono ?_; rintro e w4 ⟨rfl, hb4⟩; have hD4 := hD3.calb hb4)
    | (have _ := hr2; go_at_call 21; refine (pick_s rb (p + 20) _ _ (by exact (hD2.mono (p1 := p + 20) (by omega)).rs) (by omega) (by omega) (by omega)).mono ?_; rintro e w3 ⟨v3, rfl, va3, vb3, hr3⟩; have hD3 := hD2.call hr3; have hw3 := i64w (n := v3 - 32) (by omega))
    | (go_at_call 21; refine (pick_s rb (p + 10) _ _ (by exact (hB.mono (p1 := p + 10) (by omega)).rs) (by omega) (by omega) (by omega)).mono ?_; rintro e w2 ⟨v2, rfl, va2, vb2, hr2⟩; have hD2 := hB.call hr2; have hw2 := i64w (n := v2 - 32) (by omega)))
    go_meet
    have hl : w.heap.size < w6.heap.size := hD6.lt (x := (w.heap.size, 3, (fun _ => 0))) (by simp)
    have f1 : fc (v2 - 32) = v2 - 32 := fc_id (by omega) (by omega)
    have f2 : fc (v3 - 32) = v3 - 32 := fc_id (by omega) (by omega)
    have u1 := ux_bd2 (x := fc (v2 - 32)) (y := fc (v3 - 32)) (by rw [f1]; omega)
    have u2 := uy_bd2 (x := fc (v2 - 32)) (y := fc (v3 - 32)) (by rw [f2]; omega)
    exact ⟨_, ux (fc (v2 - 32)) (fc (v3 - 32)), uy (fc (v2 - 32)) (fc (v3 - 32)), v5 * v6, rfl, ⟨⟨by omega, by omega⟩, ⟨by omega, by omega⟩⟩, hl, (hD6.new _ 3 _ rfl (by intro i hi; rcases (show i = 0 ∨ i = 1 ∨ i = 2 by omega) with rfl | rfl | rfl <;> rfl)).mono (by omega)⟩
  case rest =>
  clear hB hz0
  obtain ⟨hb, X, Y, D, rfl, ⟨hX, hY⟩, lhb, hD⟩ := hcut
  go_upto_region 2 with fail
  go_cut [20] (fun s20 wc => ∃ v7 : Int, s20 = .int .i64 v7 ∧ BL w wc rb (p + 110) [(hb, 3, (fun j => [X, Y, D].getD j 0)), (w.heap.size, 3, (fun _ => 0))])
  case first =>
    go_wp2_with (go_at_call 21; refine (pick_s rb (p + 100) _ _ (by exact (hD.mono (p1 := p + 100) (by omega)).rs) (by omega) (by omega) (by omega)).mono ?_; rintro e w7 ⟨v7, rfl, va7, vb7, hr7⟩; have hD7 := hD.call hr7)
    go_meet
    exact ⟨_, rfl, hD7.mono (by omega)⟩
  case rest =>
  clear hD
  obtain ⟨v7, rfl, hD⟩ := hcut
  rename_i hKK
  refine hKK _ _ ?_
  go_cut [] (fun wc => ∃ X Y D : Int, HN X Y D ∧ BL w wc rb (p + 200) [(hb, 3, (fun j => [X, Y, D].getD j 0)), (w.heap.size, 3, (fun _ => 0))])
  case first =>
    have hne : (w.heap.size = hb) = False := eq_false (by omega)
    have ga0 : Al w wc (hb) 3 (fun j => [X, Y, D].getD j 0) := hD.get (x := (hb, 3, (fun j => [X, Y, D].getD j 0))) (by simp)
    have cax0c0 := (ga0).2.2.1 0 (by omega)
    have cax0f0 := (ga0).2.2.2 0 (by omega)
    have cax0c1 := (ga0).2.2.1 1 (by omega)
    have cax0f1 := (ga0).2.2.2 1 (by omega)
    have cax0c2 := (ga0).2.2.1 2 (by omega)
    have cax0f2 := (ga0).2.2.2 2 (by omega)
    clear ga0
    go_upto_region 7 with (go_at_call 37; refine (one_s (-257) 102401 rb (p + 120) _ _ _ _ _ (by exact (hD.mono (p1 := p + 120) (by omega)).rs) (by omega) (by repeat (first | exact AllBd.nil | refine AllBd.cons (by omega) (by omega) ?_)) (by rfl) (by omega) (by omega)).mono ?_; rintro e w8 ⟨v8, rfl, va8, vb8, hr8⟩; have hD8 := hD.call hr8; have gb0 : Al w w8 (hb) 3 (fun j => [X, Y, D].getD j 0) := hD8.get (x := (hb, 3, (fun j => [X, Y, D].getD j 0))) (by simp); have cbx0c0 := (gb0).2.2.1 0 (by omega); have cbx0f0 := (gb0).2.2.2 0 (by omega); have cbx0c1 := (gb0).2.2.1 1 (by omega); have cbx0f1 := (gb0).2.2.2 1 (by omega); have cbx0c2 := (gb0).2.2.1 2 (by omega); have cbx0f2 := (gb0).2.2.2 2 (by omega); clear gb0)
    · go_meet
      exact ⟨v8, Y, D, ⟨⟨by omega, by omega⟩, hY⟩, ((hD8.set (by intro x hx; simp only [List.mem_cons, List.not_mem_nil, or_false] at hx; rcases hx with rfl <;> dsimp only <;> omega) 0 (by omega) v8).headc (by intro i hi; rcases (show i = 0 ∨ i = 1 ∨ i = 2 by omega) with rfl | rfl | rfl <;> rfl)).mono (by omega)⟩
    · go_meet
      exact ⟨X, Y, v8, ⟨hX, hY⟩, ((hD8.set (by intro x hx; simp only [List.mem_cons, List.not_mem_nil, or_false] at hx; rcases hx with rfl <;> dsimp only <;> omega) 2 (by omega) v8).headc (by intro i hi; rcases (show i = 0 ∨ i = 1 ∨ i = 2 by omega) with rfl | rfl | rfl <;> rfl)).mono (by omega)⟩
    · go_meet
      exact ⟨X, Y, D, ⟨hX, hY⟩, hD.mono (by omega)⟩
  case rest =>
  clear hD hX hY X Y D
  obtain ⟨X, Y, D, hXY, hD⟩ := hcut
  have gz0 : Al w wc (hb) 3 (fun j => [X, Y, D].getD j 0) := hD.get (x := (hb, 3, (fun j => [X, Y, D].getD j 0))) (by simp)
  have czx0c0 := (gz0).2.2.1 0 (by omega)
  have czx0f0 := (gz0).2.2.2 0 (by omega)
  have czx0c1 := (gz0).2.2.1 1 (by omega)
  have czx0f1 := (gz0).2.2.2 1 (by omega)
  have czx0c2 := (gz0).2.2.1 2 (by omega)
  have czx0f2 := (gz0).2.2.2 2 (by omega)
  clear gz0
  have gz1 : Al w wc (w.heap.size) 3 (fun _ => 0) := hD.get (x := (w.heap.size, 3, (fun _ => 0))) (by simp)
  have czx1c0 := (gz1).2.2.1 0 (by omega)
  have czx1f0 := (gz1).2.2.2 0 (by omega)
  have czx1c1 := (gz1).2.2.1 1 (by omega)
  have czx1f1 := (gz1).2.2.2 1 (by omega)
  have czx1c2 := (gz1).2.2.1 2 (by omega)
  have czx1f2 := (gz1).2.2.2 2 (by omega)
  clear gz1
  have hne : (w.heap.size = hb) = False := eq_false (by omega)
  go_wp2_with fail
  exact bodyPost_ret (v := s3 X Y D) (by simp [results, Try.results36, go_sem, *]) rfl ⟨X, Y, D, rfl, hXY, RB.mk (((hD.but.setNew (by simp) _).setNew (by simp) _).setNew (by simp) _) (((hD.rs.setNew (by simp; omega) _).setNew (by simp; omega) _).setNew (by simp; omega) _)⟩
end Go.Proofs.Ytpgoicdblbpcaaa
