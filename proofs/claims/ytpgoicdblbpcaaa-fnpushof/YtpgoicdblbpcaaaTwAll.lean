/- The draw of two bodies and how they touch. -/
import Derived.Test.YtpgoicdblbpcaaaBodyL
import Derived.Test.YtpgoicdblbpcaaaSTch4
import Derived.Deep.RegionHeld3
import Derived.Deep.DeepCutAuto
import Derived.Test.YtpgoicdblbpcaaaDrawB3
import Derived.Test.YtpgoicdblbpcaaaShB
namespace Go.Proofs.Ytpgoicdblbpcaaa
open Go.RowKit
set_option linter.unusedVariables false
set_option linter.unusedSimpArgs false
def B2 (x : Int) : Prop := -2000000000 ≤ x ∧ x ≤ 2000000000
/-- a hit that was drawn -/
def HN (X Y D : Int) : Prop := B2 X ∧ B2 Y

set_option maxHeartbeats 8000000 in
theorem l11Hit_s (rb p : Nat) (w : World) (hs0 : RS w rb p) (hp : p ≤ 900000) :
    Calls Try.prog 36 #[.pointer (some ⟨rb, 0, none⟩)] w fun e w' => ∃ X Y D : Int, e = .returned (s3 X Y D) ∧ HN X Y D ∧ RB w w' rb (p + 200) := by
  have hlt := hs0.lt
  have hset := cset_map
  have hB : BL w (w.alloc (.cells #[.int .i64 0, .int .i64 0, .int .i64 0] 30)) rb p [(w.heap.size, 3, (fun _ => 0))] := (BL.start hs0).new _ 3 (fun _ => 0) rfl (by intro i hi; rcases (show i = 0 ∨ i = 1 ∨ i = 2 by omega) with rfl | rfl | rfl <;> rfl)
  go_enter Try.func36, Try.ntmps36
  go_upto_region 1 with fail
  have hz0 : w.heap.size < (w.alloc (.cells #[.int .i64 0, .int .i64 0, .int .i64 0] 30)).heap.size := by simp
  generalize w.alloc (.cells #[.int .i64 0, .int .i64 0, .int .i64 0] 30) = w0 at *
  go_cut [3] (fun s3 wc => ∃ (hb : Nat) (X Y D : Int), s3 = .pointer (some ⟨hb, 0, none⟩) ∧ HN X Y D ∧ (w.heap.size < hb) ∧ BL w wc rb (p + 100) [(hb, 3, (fun j => [X, Y, D].getD j 0)), (w.heap.size, 3, (fun _ => 0))])
  case first =>
    go_wp2_with (first
    | (have _ := hr5; go_at_call 37; refine (one_s (0) 4 rb (p + 40) _ _ _ _ _ (by exact (hD5.mono (p1 := p + 40) (by omega)).rs) (by omega) (by repeat (first | exact AllBd.nil | refine AllBd.cons (by omega) (by omega) ?_)) (by rfl) (by omega) (by omega)).mono ?_; rintro e w6 ⟨v6, rfl, va6, vb6, hr6⟩; have hD6 := hD5.call hr6; have hm6 := mul_bd (a := v5) (b := v6) (A := 256) (B := 4) (by omega) (by omega); have hw6 := i64w (n := v5 * v6) (by omega))
    | (have _ := hb4; go_at_call 21; refine (pick_s rb (p + 30) _ _ (by exact (hD4.mono (p1 := p + 30) (by omega)).rs) (by omega) (by omega) (by omega)).mono ?_; rintro e w5 ⟨v5, rfl, va5, vb5, hr5⟩; have hD5 := hD4.call hr5)
    | (go_at_call 70; refine (sunit_q _ _ _ _ _ rfl rfl).mono ?_; rintro e w4 ⟨rfl, hb4⟩; have hD4 := hD3.calb hb4)
    | (have _ := hr2; go_at_call 21; refine (pick_s rb (p + 20) _ _ (by exact (hD2.mono (p1 := p + 20) (by omega)).rs) (by omega) (by omega) (by omega)).mono ?_; rintro e w3 ⟨v3, rfl, va3, vb3, hr3⟩; have hD3 := hD2.call hr3; have hw3 := i64w (n := v3 - 32) (by omega))
    | (go_at_call 21; refine (pick_s rb (p + 10) _ _ (by exact (hB.mono (p1 := p + 10) (by omega)).rs) (by omega) (by omega) (by omega)).mono ?_; rintro e w2 ⟨v2, rfl, va2, vb2, hr2⟩; have hD2 := hB.call hr2; have hw2 := i64w (n := v2 - 32) (by omega)))
    go_meet
    have hl : w.heap.size < w6.heap.size := hD6.lt (x := (w.heap.size, 3, (fun _ => 0))) (by simp)
    have f1 : fc (v2 - 32) = v2 - 32 := fc_id (by omega) (by omega)
    have f2 : fc (v3 - 32) = v3 - 32 := fc_id (by omega) (by omega)
    have u1 := ux_bd2 (x := fc (v2 - 32)) (y := fc (v3 - 32)) (by rw [f1]; omega)
    have u2 := uy_bd2 (x := fc (v2 - 32)) (y := fc (v3 - 32)) (by rw [f2]; omega)
    exact ⟨_, ux (fc (v2 - 32)) (fc (v3 - 32)), uy (fc (v2 - 32)) (fc (v3 - 32)), v5 * v6, rfl, ⟨⟨by omega, by omega⟩, ⟨by omega, by omega⟩⟩, hl, (hD6.new _ 3 _ rfl (by intro i hi; rcases (show i = 0 ∨ i = 1 ∨ i = 2 by omega) with rfl | rfl | rfl <;> rfl)).mono (by omega)⟩
  case rest =>
  clear hB hz0
  obtain ⟨hb, X, Y, D, rfl, ⟨hX, hY⟩, lhb, hD⟩ := hcut
  go_upto_region 2 with fail
  go_cut [20] (fun s20 wc => ∃ v7 : Int, s20 = .int .i64 v7 ∧ BL w wc rb (p + 110) [(hb, 3, (fun j => [X, Y, D].getD j 0)), (w.heap.size, 3, (fun _ => 0))])
  case first =>
    go_wp2_with (go_at_call 21; refine (pick_s rb (p + 100) _ _ (by exact (hD.mono (p1 := p + 100) (by omega)).rs) (by omega) (by omega) (by omega)).mono ?_; rintro e w7 ⟨v7, rfl, va7, vb7, hr7⟩; have hD7 := hD.call hr7)
    go_meet
    exact ⟨_, rfl, hD7.mono (by omega)⟩
  case rest =>
  clear hD
  obtain ⟨v7, rfl, hD⟩ := hcut
  rename_i hKK
  refine hKK _ _ ?_
  go_cut [] (fun wc => ∃ X Y D : Int, HN X Y D ∧ BL w wc rb (p + 200) [(hb, 3, (fun j => [X, Y, D].getD j 0)), (w.heap.size, 3, (fun _ => 0))])
  case first =>
    have hne : (w.heap.size = hb) = False := eq_false (by omega)
    have ga0 : Al w wc (hb) 3 (fun j => [X, Y, D].getD j 0) := hD.get (x := (hb, 3, (fun j => [X, Y, D].getD j 0))) (by simp)
    have cax0c0 := (ga0).2.2.1 0 (by omega)
    have cax0f0 := (ga0).2.2.2 0 (by omega)
    have cax0c1 := (ga0).2.2.1 1 (by omega)
    have cax0f1 := (ga0).2.2.2 1 (by omega)
    have cax0c2 := (ga0).2.2.1 2 (by omega)
    have cax0f2 := (ga0).2.2.2 2 (by omega)
    clear ga0
    go_upto_region 7 with (go_at_call 37; refine (one_s (-257) 102401 rb (p + 120) _ _ _ _ _ (by exact (hD.mono (p1 := p + 120) (by omega)).rs) (by omega) (by repeat (first | exact AllBd.nil | refine AllBd.cons (by omega) (by omega) ?_)) (by rfl) (by omega) (by omega)).mono ?_; rintro e w8 ⟨v8, rfl, va8, vb8, hr8⟩; have hD8 := hD.call hr8; have gb0 : Al w w8 (hb) 3 (fun j => [X, Y, D].getD j 0) := hD8.get (x := (hb, 3, (fun j => [X, Y, D].getD j 0))) (by simp); have cbx0c0 := (gb0).2.2.1 0 (by omega); have cbx0f0 := (gb0).2.2.2 0 (by omega); have cbx0c1 := (gb0).2.2.1 1 (by omega); have cbx0f1 := (gb0).2.2.2 1 (by omega); have cbx0c2 := (gb0).2.2.1 2 (by omega); have cbx0f2 := (gb0).2.2.2 2 (by omega); clear gb0)
    · go_meet
      exact ⟨v8, Y, D, ⟨⟨by omega, by omega⟩, hY⟩, ((hD8.set (by intro x hx; simp only [List.mem_cons, List.not_mem_nil, or_false] at hx; rcases hx with rfl <;> dsimp only <;> omega) 0 (by omega) v8).headc (by intro i hi; rcases (show i = 0 ∨ i = 1 ∨ i = 2 by omega) with rfl | rfl | rfl <;> rfl)).mono (by omega)⟩
    · go_meet
      exact ⟨X, Y, v8, ⟨hX, hY⟩, ((hD8.set (by intro x hx; simp only [List.mem_cons, List.not_mem_nil, or_false] at hx; rcases hx with rfl <;> dsimp only <;> omega) 2 (by omega) v8).headc (by intro i hi; rcases (show i = 0 ∨ i = 1 ∨ i = 2 by omega) with rfl | rfl | rfl <;> rfl)).mono (by omega)⟩
    · go_meet
      exact ⟨X, Y, D, ⟨hX, hY⟩, hD.mono (by omega)⟩
  case rest =>
  clear hD hX hY X Y D
  obtain ⟨X, Y, D, hXY, hD⟩ := hcut
  have gz0 : Al w wc (hb) 3 (fun j => [X, Y, D].getD j 0) := hD.get (x := (hb, 3, (fun j => [X, Y, D].getD j 0))) (by simp)
  have czx0c0 := (gz0).2.2.1 0 (by omega)
  have czx0f0 := (gz0).2.2.2 0 (by omega)
  have czx0c1 := (gz0).2.2.1 1 (by omega)
  have czx0f1 := (gz0).2.2.2 1 (by omega)
  have czx0c2 := (gz0).2.2.1 2 (by omega)
  have czx0f2 := (gz0).2.2.2 2 (by omega)
  clear gz0
  have gz1 : Al w wc (w.heap.size) 3 (fun _ => 0) := hD.get (x := (w.heap.size, 3, (fun _ => 0))) (by simp)
  have czx1c0 := (gz1).2.2.1 0 (by omega)
  have czx1f0 := (gz1).2.2.2 0 (by omega)
  have czx1c1 := (gz1).2.2.1 1 (by omega)
  have czx1f1 := (gz1).2.2.2 1 (by omega)
  have czx1c2 := (gz1).2.2.1 2 (by omega)
  have czx1f2 := (gz1).2.2.2 2 (by omega)
  clear gz1
  have hne : (w.heap.size = hb) = False := eq_false (by omega)
  go_wp2_with fail
  exact bodyPost_ret (v := s3 X Y D) (by simp [results, Try.results36, go_sem, *]) rfl ⟨X, Y, D, rfl, hXY, RB.mk (((hD.but.setNew (by simp) _).setNew (by simp) _).setNew (by simp) _) (((hD.rs.setNew (by simp; omega) _).setNew (by simp; omega) _).setNew (by simp; omega) _)⟩
end Go.Proofs.Ytpgoicdblbpcaaa
namespace Go.Proofs.Ytpgoicdblbpcaaa
open Go.RowKit
set_option linter.unusedVariables false
set_option linter.unusedSimpArgs false

theorem rd_b {dx dy g X Y D : Int} {K : Bool} (hx : -6000000 ≤ dx ∧ dx ≤ 6000000) (hy : -6000000 ≤ dy ∧ dy ≤ 6000000) (e : rdT dx dy g = ((X, Y, D), K)) : B2 X ∧ B2 Y := by
  unfold rdT at e
  have h1 := ux_bd2 (x := dx) (y := dy) hx
  have h2 := uy_bd2 (x := dx) (y := dy) hy
  split at e
  · simp only [Prod.mk.injEq] at e
    obtain ⟨⟨rfl, rfl, _⟩, _⟩ := e
    exact ⟨⟨by omega, by omega⟩, ⟨by omega, by omega⟩⟩
  · simp only [Prod.mk.injEq] at e
    obtain ⟨⟨rfl, rfl, _⟩, _⟩ := e
    exact ⟨⟨by omega, by omega⟩, ⟨by omega, by omega⟩⟩
theorem mx_b {a b c d x y g X Y D : Int} {K : Bool} (ha : -2600000 ≤ a ∧ a ≤ c ∧ c ≤ 2600000) (hb : -2600000 ≤ b ∧ b ≤ d ∧ d ≤ 2600000) (hx : -2560000 ≤ x ∧ x ≤ 2560000) (hy : -2560000 ≤ y ∧ y ≤ 2560000) (e : mxT a b c d x y g = ((X, Y, D), K)) : B2 X ∧ B2 Y := by
  unfold mxT at e
  split at e
  · have h := bsT_bd (s0 := c - x) (s1 := x - a) (s2 := d - y) (s3 := y - b) (B := 6000000) (by omega) (by omega) (by omega) (by omega)
    simp only [Prod.mk.injEq] at e
    obtain ⟨⟨rfl, rfl, _⟩, _⟩ := e
    exact ⟨⟨by omega, by omega⟩, ⟨by omega, by omega⟩⟩
  · have n1 : mn (mx x a) c ≤ c ∧ a ≤ mn (mx x a) c := by unfold mn mx; repeat' split <;> omega
    have n2 : mn (mx y b) d ≤ d ∧ b ≤ mn (mx y b) d := by unfold mn mx; repeat' split <;> omega
    exact rd_b (by omega) (by omega) e
theorem tn_b {m : (Int × Int × Int) × Bool} {X Y D : Int} {K : Bool} (h : B2 m.1.1 ∧ B2 m.1.2.1) (e : tnT m = ((X, Y, D), K)) : B2 X ∧ B2 Y := by
  obtain ⟨⟨h1, h2⟩, h3, h4⟩ := h
  unfold tnT at e
  split at e
  · simp only [Prod.mk.injEq] at e
    obtain ⟨⟨rfl, rfl, _⟩, _⟩ := e
    exact ⟨⟨by omega, by omega⟩, ⟨by omega, by omega⟩⟩
  · simp only [Prod.mk.injEq] at e
    obtain ⟨⟨rfl, rfl, _⟩, _⟩ := e
    exact ⟨⟨by omega, by omega⟩, ⟨by omega, by omega⟩⟩
theorem bx_b {a b c d r s t u X Y D : Int} {K : Bool} (h1 : -6000000 ≤ c - r ∧ c - r ≤ 6000000) (h2 : -6000000 ≤ t - a ∧ t - a ≤ 6000000) (h3 : -6000000 ≤ d - s ∧ d - s ≤ 6000000) (h4 : -6000000 ≤ u - b ∧ u - b ≤ 6000000) (e : bxT a b c d r s t u = ((X, Y, D), K)) : B2 X ∧ B2 Y := by
  unfold bxT at e
  split at e
  · have h := bsT_bd (s0 := c - r) (s1 := t - a) (s2 := d - s) (s3 := u - b) (B := 6000000) h1 h2 h3 h4
    simp only [Prod.mk.injEq] at e
    obtain ⟨e, _⟩ := e
    rw [e] at h
    dsimp only at h
    exact ⟨⟨by omega, by omega⟩, ⟨by omega, by omega⟩⟩
  · simp only [Prod.mk.injEq] at e
    obtain ⟨⟨rfl, rfl, _⟩, _⟩ := e
    exact ⟨⟨by omega, by omega⟩, ⟨by omega, by omega⟩⟩
theorem toT_bd {k g h x y m c d u v X Y D : Int} {K : Bool} (e : toT k g h x y m c d u v = ((X, Y, D), K)) : HN X Y D := by
  unfold toT at e
  split at e
  · rename_i hz
    simp only [Bool.and_eq_true] at hz
    obtain ⟨s1, s2, p1, p2⟩ := hz
    obtain ⟨⟨x0, x1⟩, y0, y1⟩ := inB_of p1
    obtain ⟨⟨u0, u1⟩, v0, v1⟩ := inB_of p2
    rcases shB_kinds s1 with ⟨rfl, rfl, a0, a1⟩ | ⟨rfl, a0, a1, a2, a3⟩
    · rcases shB_kinds s2 with ⟨rfl, rfl, b0, b1⟩ | ⟨rfl, b0, b1, b2, b3⟩
      · have q1 : tcT 1 g 0 x y 1 c 0 u v = rdT (u - x) (v - y) (g + c) := by unfold tcT; simp
        rw [q1] at e
        exact rd_b (by omega) (by omega) e
      · have q1 : tcT 1 g 0 x y 2 c d u v = tnT (mxT (u - c) (v - d) (u + c) (v + d) x y g) := by unfold tcT; simp
        rw [q1] at e
        obtain ⟨⟨⟨X0, Y0, D0⟩, K0⟩, e0⟩ : ∃ F, mxT (u - c) (v - d) (u + c) (v + d) x y g = F := ⟨_, rfl⟩
        rw [e0] at e
        exact tn_b (mx_b (by omega) (by omega) (by omega) (by omega) e0) e
    · rcases shB_kinds s2 with ⟨rfl, rfl, b0, b1⟩ | ⟨rfl, b0, b1, b2, b3⟩
      · have q1 : tcT 2 g h x y 1 c 0 u v = mxT (x - g) (y - h) (x + g) (y + h) u v c := by unfold tcT; simp
        rw [q1] at e
        exact mx_b (by omega) (by omega) (by omega) (by omega) e
      · have q1 : tcT 2 g h x y 2 c d u v = bxT (x - g) (y - h) (x + g) (y + h) (u - c) (v - d) (u + c) (v + d) := by unfold tcT; simp
        rw [q1] at e
        exact bx_b (by omega) (by omega) (by omega) (by omega) e
  · simp only [Prod.mk.injEq] at e
    obtain ⟨⟨rfl, rfl, _⟩, _⟩ := e
    exact ⟨⟨by omega, by omega⟩, ⟨by omega, by omega⟩⟩

set_option maxRecDepth 20000 in
set_option maxHeartbeats 16000000 in
theorem l11Two_s (rb p : Nat) (w : World) (hs0 : RS w rb p) (hp : p ≤ 600000) :
    Calls Try.prog 15 #[.pointer (some ⟨rb, 0, none⟩)] w fun e w' => ∃ (V U : Nat → Int) (X Y D : Int), e = .returned (.tuple #[bodyW V, bodyW U, s3 X Y D]) ∧ HN X Y D ∧ RB w w' rb (p + 8000) := by
  have hlt := hs0.lt
  have hset := cset_map
  have hD : BL w (((w.alloc (.cells #[.int .i64 0, .int .i64 0, .int .i64 0, .int .i64 0, .int .i64 0, .int .i64 0, .int .i64 0, .int .i64 0, .int .i64 0, .int .i64 0, .int .i64 0, .int .i64 0] 28)).alloc (.cells #[.int .i64 0, .int .i64 0, .int .i64 0, .int .i64 0, .int .i64 0, .int .i64 0, .int .i64 0, .int .i64 0, .int .i64 0, .int .i64 0, .int .i64 0, .int .i64 0] 28)).alloc (.cells #[.int .i64 0, .int .i64 0, .int .i64 0] 30)) rb p [(w.heap.size + 1 + 1, 3, (fun _ => 0)), (w.heap.size + 1, 12, (fun _ => 0)), (w.heap.size, 12, (fun _ => 0))] := ((((BL.start hs0).new (w.heap.size) 12 (fun _ => 0) (by simp) (by intro i hi; rcases (show i = 0 ∨ i = 1 ∨ i = 2 ∨ i = 3 ∨ i = 4 ∨ i = 5 ∨ i = 6 ∨ i = 7 ∨ i = 8 ∨ i = 9 ∨ i = 10 ∨ i = 11 by omega) with rfl | rfl | rfl | rfl | rfl | rfl | rfl | rfl | rfl | rfl | rfl | rfl <;> rfl)).new (w.heap.size + 1) 12 (fun _ => 0) (by simp) (by intro i hi; rcases (show i = 0 ∨ i = 1 ∨ i = 2 ∨ i = 3 ∨ i = 4 ∨ i = 5 ∨ i = 6 ∨ i = 7 ∨ i = 8 ∨ i = 9 ∨ i = 10 ∨ i = 11 by omega) with rfl | rfl | rfl | rfl | rfl | rfl | rfl | rfl | rfl | rfl | rfl | rfl <;> rfl)).new (w.heap.size + 1 + 1) 3 (fun _ => 0) (by simp) (by intro i hi; rcases (show i = 0 ∨ i = 1 ∨ i = 2 by omega) with rfl | rfl | rfl <;> rfl))
  go_enter Try.func15, Try.ntmps15
  go_upto_region 1 with fail
  generalize (((w.alloc (.cells #[.int .i64 0, .int .i64 0, .int .i64 0, .int .i64 0, .int .i64 0, .int .i64 0, .int .i64 0, .int .i64 0, .int .i64 0, .int .i64 0, .int .i64 0, .int .i64 0] 28)).alloc (.cells #[.int .i64 0, .int .i64 0, .int .i64 0, .int .i64 0, .int .i64 0, .int .i64 0, .int .i64 0, .int .i64 0, .int .i64 0, .int .i64 0, .int .i64 0, .int .i64 0] 28)).alloc (.cells #[.int .i64 0, .int .i64 0, .int .i64 0] 30)) = w0 at *
  go_cut [5] (fun s5 wc => ∃ (ab : Nat) (V : Nat → Int), s5 = .pointer (some ⟨ab, 0, none⟩) ∧ BN V ∧ (w.heap.size + 1 + 1 < ab) ∧ BL w wc rb (p + 3000) [(ab, 12, V), (w.heap.size + 1 + 1, 3, (fun _ => 0)), (w.heap.size + 1, 12, (fun _ => 0)), (w.heap.size, 12, (fun _ => 0))])
  case first =>
    go_wp2_with (go_at_call 34; refine (l11AnyBody_s rb p _ (by exact hD.rs) (by omega)).mono ?_; rintro e w2 ⟨V2, rfl, hd2, hr2⟩)
    go_meet
    have hD2 := hD.call hr2
    have q1 : w.heap.size + 1 + 1 < w2.heap.size := hD2.lt (x := (w.heap.size + 1 + 1, 3, (fun _ => 0))) (by simp)
    exact ⟨_, V2, rfl, hd2, q1, hD2.new _ 12 V2 rfl (by intro i hi; rcases (show i = 0 ∨ i = 1 ∨ i = 2 ∨ i = 3 ∨ i = 4 ∨ i = 5 ∨ i = 6 ∨ i = 7 ∨ i = 8 ∨ i = 9 ∨ i = 10 ∨ i = 11 by omega) with rfl | rfl | rfl | rfl | rfl | rfl | rfl | rfl | rfl | rfl | rfl | rfl <;> rfl)⟩
  case rest =>
  clear hD
  obtain ⟨ab, V, rfl, hV, lab, hD⟩ := hcut
  go_upto_region 2 with fail
  go_cut [6] (fun s6 wc => ∃ (bb : Nat) (U : Nat → Int), s6 = .pointer (some ⟨bb, 0, none⟩) ∧ (ab < bb) ∧ BL w wc rb (p + 6000) [(bb, 12, U), (ab, 12, V), (w.heap.size + 1 + 1, 3, (fun _ => 0)), (w.heap.size + 1, 12, (fun _ => 0)), (w.heap.size, 12, (fun _ => 0))])
  case first =>
    go_wp2_with (go_at_call 34; refine (l11AnyBody_s rb (p + 3000) _ (by exact hD.rs) (by omega)).mono ?_; rintro e w2 ⟨V2, rfl, hd2, hr2⟩)
    go_meet
    have hD2 := (hD.call hr2).mono (p1 := p + 6000) (by omega)
    have q1 : ab < w2.heap.size := hD2.lt (x := (ab, 12, V)) (by simp)
    exact ⟨_, V2, rfl, q1, hD2.new _ 12 V2 rfl (by intro i hi; rcases (show i = 0 ∨ i = 1 ∨ i = 2 ∨ i = 3 ∨ i = 4 ∨ i = 5 ∨ i = 6 ∨ i = 7 ∨ i = 8 ∨ i = 9 ∨ i = 10 ∨ i = 11 by omega) with rfl | rfl | rfl | rfl | rfl | rfl | rfl | rfl | rfl | rfl | rfl | rfl <;> rfl)⟩
  case rest =>
  clear hD
  obtain ⟨bb, U, rfl, lbb, hD⟩ := hcut
  go_upto_region 3 with fail
  go_cut [16] (fun s16 wc => ∃ b : Bool, s16 = .bool b ∧ BL w wc rb (p + 6010) [(bb, 12, U), (ab, 12, V), (w.heap.size + 1 + 1, 3, (fun _ => 0)), (w.heap.size + 1, 12, (fun _ => 0)), (w.heap.size, 12, (fun _ => 0))])
  case first =>
    go_wp2_with (go_at_call 21; refine (pick_s rb (p + 6000) _ _ (by exact (hD.mono (p1 := p + 6000) (by omega)).rs) (by omega) (by omega) (by omega)).mono ?_; rintro e w7 ⟨v7, rfl, va7, vb7, hr7⟩; have hD7 := hD.call hr7)
    go_meet
    exact ⟨_, rfl, hD7.mono (by omega)⟩
  case rest =>
  clear hD
  obtain ⟨b, rfl, hD⟩ := hcut
  rename_i hKK
  refine hKK _ _ ?_
  go_cut [] (fun wc => ∃ U : Nat → Int, BL w wc rb (p + 6100) [(bb, 12, U), (ab, 12, V), (w.heap.size + 1 + 1, 3, (fun _ => 0)), (w.heap.size + 1, 12, (fun _ => 0)), (w.heap.size, 12, (fun _ => 0))])
  case first =>
    cases b with
    | false =>
      go_wp2_with fail
      go_meet
      exact ⟨U, hD.mono (by omega)⟩
    | true =>
      have b4 := hV 4 (by omega)
      have b5 := hV 5 (by omega)
      unfold Bn at b4 b5
      have ga0 : Al w wc (ab) 12 V := hD.get (x := (ab, 12, V)) (by simp)
      have cax0c0 := (ga0).2.2.1 0 (by omega)
      have cax0f0 := (ga0).2.2.2 0 (by omega)
      have cax0c1 := (ga0).2.2.1 1 (by omega)
      have cax0f1 := (ga0).2.2.2 1 (by omega)
      have cax0c2 := (ga0).2.2.1 2 (by omega)
      have cax0f2 := (ga0).2.2.2 2 (by omega)
      have cax0c3 := (ga0).2.2.1 3 (by omega)
      have cax0f3 := (ga0).2.2.2 3 (by omega)
      have cax0c4 := (ga0).2.2.1 4 (by omega)
      have cax0f4 := (ga0).2.2.2 4 (by omega)
      have cax0c5 := (ga0).2.2.1 5 (by omega)
      have cax0f5 := (ga0).2.2.2 5 (by omega)
      have cax0c6 := (ga0).2.2.1 6 (by omega)
      have cax0f6 := (ga0).2.2.2 6 (by omega)
      have cax0c7 := (ga0).2.2.1 7 (by omega)
      have cax0f7 := (ga0).2.2.2 7 (by omega)
      have cax0c8 := (ga0).2.2.1 8 (by omega)
      have cax0f8 := (ga0).2.2.2 8 (by omega)
      have cax0c9 := (ga0).2.2.1 9 (by omega)
      have cax0f9 := (ga0).2.2.2 9 (by omega)
      have cax0c10 := (ga0).2.2.1 10 (by omega)
      have cax0f10 := (ga0).2.2.2 10 (by omega)
      have cax0c11 := (ga0).2.2.1 11 (by omega)
      have cax0f11 := (ga0).2.2.2 11 (by omega)
      clear ga0
      have ga1 : Al w wc (bb) 12 U := hD.get (x := (bb, 12, U)) (by simp)
      have cax1c0 := (ga1).2.2.1 0 (by omega)
      have cax1f0 := (ga1).2.2.2 0 (by omega)
      have cax1c1 := (ga1).2.2.1 1 (by omega)
      have cax1f1 := (ga1).2.2.2 1 (by omega)
      have cax1c2 := (ga1).2.2.1 2 (by omega)
      have cax1f2 := (ga1).2.2.2 2 (by omega)
      have cax1c3 := (ga1).2.2.1 3 (by omega)
      have cax1f3 := (ga1).2.2.2 3 (by omega)
      have cax1c4 := (ga1).2.2.1 4 (by omega)
      have cax1f4 := (ga1).2.2.2 4 (by omega)
      have cax1c5 := (ga1).2.2.1 5 (by omega)
      have cax1f5 := (ga1).2.2.2 5 (by omega)
      have cax1c6 := (ga1).2.2.1 6 (by omega)
      have cax1f6 := (ga1).2.2.2 6 (by omega)
      have cax1c7 := (ga1).2.2.1 7 (by omega)
      have cax1f7 := (ga1).2.2.2 7 (by omega)
      have cax1c8 := (ga1).2.2.1 8 (by omega)
      have cax1f8 := (ga1).2.2.2 8 (by omega)
      have cax1c9 := (ga1).2.2.1 9 (by omega)
      have cax1f9 := (ga1).2.2.2 9 (by omega)
      have cax1c10 := (ga1).2.2.1 10 (by omega)
      have cax1f10 := (ga1).2.2.2 10 (by omega)
      have cax1c11 := (ga1).2.2.1 11 (by omega)
      have cax1f11 := (ga1).2.2.2 11 (by omega)
      clear ga1
      go_upto_region 4 with fail
      refine wp_region_held_drew (S := fun w' => w'.cell? ⟨ab, 0, none⟩ = some (.int .i64 (V 0)) ∧ w'.cell? ⟨ab, 1, none⟩ = some (.int .i64 (V 1)) ∧ w'.cell? ⟨ab, 2, none⟩ = some (.int .i64 (V 2)) ∧ w'.cell? ⟨ab, 3, none⟩ = some (.int .i64 (V 3)) ∧ w'.cell? ⟨ab, 4, none⟩ = some (.int .i64 (V 4)) ∧ w'.cell? ⟨ab, 5, none⟩ = some (.int .i64 (V 5))) (by kernel_rfl) ?_ (fun hHeld => ?_)
      · (try dsimp only)
        (first | (go_simp; done) | (go_keep; done))
      (refine tk 0 ⟨_, _, _, _, _, _⟩ rfl (by kernel_rfl) (fun _ _ _ h => h) (by rfl) hHeld (by intro w s; (try dsimp only at s); go_simp; (try with_reducible rfl)) ?_; (try simp only [Act.put, List.setIfInBounds_toArray, List.set_cons_zero, List.set_cons_succ]))
      (refine tk 1 ⟨_, _, _, _, _, _⟩ rfl (by kernel_rfl) (fun _ _ _ h => h) (by rfl) hHeld (by intro w s; (try dsimp only at s); go_simp; (try with_reducible rfl)) ?_; (try simp only [Act.put, List.setIfInBounds_toArray, List.set_cons_zero, List.set_cons_succ]))
      (refine tk 2 ⟨_, _, _, _, _, _⟩ rfl (by kernel_rfl) (fun _ _ _ h => h) (by rfl) hHeld (by intro w s; (try dsimp only at s); go_simp; (try with_reducible rfl)) ?_; (try simp only [Act.put, List.setIfInBounds_toArray, List.set_cons_zero, List.set_cons_succ]))
      (refine tk 3 ⟨_, _, _, _, _, _⟩ rfl (by kernel_rfl) (fun _ _ _ h => h) (by rfl) hHeld (by intro w s; (try dsimp only at s); go_simp; (try with_reducible rfl)) ?_; (try simp only [Act.put, List.setIfInBounds_toArray, List.set_cons_zero, List.set_cons_succ]))
      (refine tk 8 ⟨_, _, _, _, _, _⟩ rfl (by kernel_rfl) (fun _ _ _ h => h) (by rfl) hHeld (by intro w s; (try dsimp only at s); go_simp; (try with_reducible rfl)) ?_; (try simp only [Act.put, List.setIfInBounds_toArray, List.set_cons_zero, List.set_cons_succ]))
      (refine tk 9 ⟨_, _, _, _, _, _⟩ rfl (by kernel_rfl) (fun _ _ _ h => h) (by rfl) hHeld (by intro w s; (try dsimp only at s); go_simp; (try with_reducible rfl)) ?_; (try simp only [Act.put, List.setIfInBounds_toArray, List.set_cons_zero, List.set_cons_succ]))
      (refine tk 10 ⟨_, _, _, _, _, _⟩ rfl (by kernel_rfl) (fun _ _ _ h => h) (by rfl) hHeld (by intro w s; (try dsimp only at s); go_simp; (try with_reducible rfl)) ?_; (try simp only [Act.put, List.setIfInBounds_toArray, List.set_cons_zero, List.set_cons_succ]))
      (refine tk 11 ⟨_, _, _, _, _, _⟩ rfl (by kernel_rfl) (fun _ _ _ h => h) (by rfl) hHeld (by intro w s; (try dsimp only at s); go_simp; (try with_reducible rfl)) ?_; (try simp only [Act.put, List.setIfInBounds_toArray, List.set_cons_zero, List.set_cons_succ]))
      (refine wpAnyH_ready (rs := [4]) (by kernel_rfl) (by simp) ?_; refine AllReadyH.cons (o := ⟨_, _, _, _, _, _⟩) rfl (fun K hK => ?_) AllReadyH.nil; go_simp; (go_at_call 21; refine (pick_s rb (p + 6020) _ _ (by exact (hD.drew.mono (p1 := p + 6020) (by omega)).rs) (by omega) (by omega) (by omega)).mono ?_; rintro e w8 ⟨v8, rfl, va8, vb8, hr8⟩; have hD8 := hD.drew.call hr8; have gp80 : Al w w8 (ab) 12 V := hD8.get (x := (ab, 12, V)) (by simp); have cp8x0c0 := (gp80).2.2.1 0 (by omega); have cp8x0f0 := (gp80).2.2.2 0 (by omega); have cp8x0c1 := (gp80).2.2.1 1 (by omega); have cp8x0f1 := (gp80).2.2.2 1 (by omega); have cp8x0c2 := (gp80).2.2.1 2 (by omega); have cp8x0f2 := (gp80).2.2.2 2 (by omega); have cp8x0c3 := (gp80).2.2.1 3 (by omega); have cp8x0f3 := (gp80).2.2.2 3 (by omega); have cp8x0c4 := (gp80).2.2.1 4 (by omega); have cp8x0f4 := (gp80).2.2.2 4 (by omega); have cp8x0c5 := (gp80).2.2.1 5 (by omega); have cp8x0f5 := (gp80).2.2.2 5 (by omega); have cp8x0c6 := (gp80).2.2.1 6 (by omega); have cp8x0f6 := (gp80).2.2.2 6 (by omega); have cp8x0c7 := (gp80).2.2.1 7 (by omega); have cp8x0f7 := (gp80).2.2.2 7 (by omega); have cp8x0c8 := (gp80).2.2.1 8 (by omega); have cp8x0f8 := (gp80).2.2.2 8 (by omega); have cp8x0c9 := (gp80).2.2.1 9 (by omega); have cp8x0f9 := (gp80).2.2.2 9 (by omega); have cp8x0c10 := (gp80).2.2.1 10 (by omega); have cp8x0f10 := (gp80).2.2.2 10 (by omega); have cp8x0c11 := (gp80).2.2.1 11 (by omega); have cp8x0f11 := (gp80).2.2.2 11 (by omega); clear gp80; have gp81 : Al w w8 (bb) 12 U := hD8.get (x := (bb, 12, U)) (by simp); have cp8x1c0 := (gp81).2.2.1 0 (by omega); have cp8x1f0 := (gp81).2.2.2 0 (by omega); have cp8x1c1 := (gp81).2.2.1 1 (by omega); have cp8x1f1 := (gp81).2.2.2 1 (by omega); have cp8x1c2 := (gp81).2.2.1 2 (by omega); have cp8x1f2 := (gp81).2.2.2 2 (by omega); have cp8x1c3 := (gp81).2.2.1 3 (by omega); have cp8x1f3 := (gp81).2.2.2 3 (by omega); have cp8x1c4 := (gp81).2.2.1 4 (by omega); have cp8x1f4 := (gp81).2.2.2 4 (by omega); have cp8x1c5 := (gp81).2.2.1 5 (by omega); have cp8x1f5 := (gp81).2.2.2 5 (by omega); have cp8x1c6 := (gp81).2.2.1 6 (by omega); have cp8x1f6 := (gp81).2.2.2 6 (by omega); have cp8x1c7 := (gp81).2.2.1 7 (by omega); have cp8x1f7 := (gp81).2.2.2 7 (by omega); have cp8x1c8 := (gp81).2.2.1 8 (by omega); have cp8x1f8 := (gp81).2.2.2 8 (by omega); have cp8x1c9 := (gp81).2.2.1 9 (by omega); have cp8x1f9 := (gp81).2.2.2 9 (by omega); have cp8x1c10 := (gp81).2.2.1 10 (by omega); have cp8x1f10 := (gp81).2.2.2 10 (by omega); have cp8x1c11 := (gp81).2.2.1 11 (by omega); have cp8x1f11 := (gp81).2.2.2 11 (by omega); clear gp81; have hu8 := i64w (n := v8 * 8) (by omega); have hx8 := i64w (n := V 4 + v8 * 8) (by omega); have hy8 := i64w (n := V 4 + v8 * 8 - 256) (by omega)); (try go_wp2_with fail); refine hK.out _ _ ?_ (fun hHeld => ?_); (focus ((try dsimp only); (first | (go_simp; done) | (go_keep; done)))); clear hK K; (try simp only [Act.put, List.setIfInBounds_toArray, List.set_cons_zero, List.set_cons_succ]))
      (refine tk 5 ⟨_, _, _, _, _, _⟩ rfl (by kernel_rfl) (fun _ _ _ h => h) (by rfl) hHeld (by intro w s; (try dsimp only at s); go_simp; (try with_reducible rfl)) ?_; (try simp only [Act.put, List.setIfInBounds_toArray, List.set_cons_zero, List.set_cons_succ]))
      (refine tk 6 ⟨_, _, _, _, _, _⟩ rfl (by kernel_rfl) (fun _ _ _ h => h) (by rfl) hHeld (by intro w s; (try dsimp only at s); go_simp; (try with_reducible rfl)) ?_; (try simp only [Act.put, List.setIfInBounds_toArray, List.set_cons_zero, List.set_cons_succ]))
      (refine tk 7 ⟨_, _, _, _, _, _⟩ rfl (by kernel_rfl) (fun _ _ _ h => h) (by rfl) hHeld (by intro w s; (try dsimp only at s); go_simp; (try with_reducible rfl)) ?_; (try simp only [Act.put, List.setIfInBounds_toArray, List.set_cons_zero, List.set_cons_succ]))
      (refine wpAnyH_ready (rs := [12]) (by kernel_rfl) (by simp) ?_; refine AllReadyH.cons (o := ⟨_, _, _, _, _, _⟩) rfl (fun K hK => ?_) AllReadyH.nil; go_simp; (have _ := hr8; go_at_call 21; refine (pick_s rb (p + 6030) _ _ (by exact (hD8.mono (p1 := p + 6030) (by omega)).rs) (by omega) (by omega) (by omega)).mono ?_; rintro e w9 ⟨v9, rfl, va9, vb9, hr9⟩; have hD9 := hD8.call hr9; have gp90 : Al w w9 (ab) 12 V := hD9.get (x := (ab, 12, V)) (by simp); have cp9x0c0 := (gp90).2.2.1 0 (by omega); have cp9x0f0 := (gp90).2.2.2 0 (by omega); have cp9x0c1 := (gp90).2.2.1 1 (by omega); have cp9x0f1 := (gp90).2.2.2 1 (by omega); have cp9x0c2 := (gp90).2.2.1 2 (by omega); have cp9x0f2 := (gp90).2.2.2 2 (by omega); have cp9x0c3 := (gp90).2.2.1 3 (by omega); have cp9x0f3 := (gp90).2.2.2 3 (by omega); have cp9x0c4 := (gp90).2.2.1 4 (by omega); have cp9x0f4 := (gp90).2.2.2 4 (by omega); have cp9x0c5 := (gp90).2.2.1 5 (by omega); have cp9x0f5 := (gp90).2.2.2 5 (by omega); have cp9x0c6 := (gp90).2.2.1 6 (by omega); have cp9x0f6 := (gp90).2.2.2 6 (by omega); have cp9x0c7 := (gp90).2.2.1 7 (by omega); have cp9x0f7 := (gp90).2.2.2 7 (by omega); have cp9x0c8 := (gp90).2.2.1 8 (by omega); have cp9x0f8 := (gp90).2.2.2 8 (by omega); have cp9x0c9 := (gp90).2.2.1 9 (by omega); have cp9x0f9 := (gp90).2.2.2 9 (by omega); have cp9x0c10 := (gp90).2.2.1 10 (by omega); have cp9x0f10 := (gp90).2.2.2 10 (by omega); have cp9x0c11 := (gp90).2.2.1 11 (by omega); have cp9x0f11 := (gp90).2.2.2 11 (by omega); clear gp90; have gp91 : Al w w9 (bb) 12 U := hD9.get (x := (bb, 12, U)) (by simp); have cp9x1c0 := (gp91).2.2.1 0 (by omega); have cp9x1f0 := (gp91).2.2.2 0 (by omega); have cp9x1c1 := (gp91).2.2.1 1 (by omega); have cp9x1f1 := (gp91).2.2.2 1 (by omega); have cp9x1c2 := (gp91).2.2.1 2 (by omega); have cp9x1f2 := (gp91).2.2.2 2 (by omega); have cp9x1c3 := (gp91).2.2.1 3 (by omega); have cp9x1f3 := (gp91).2.2.2 3 (by omega); have cp9x1c4 := (gp91).2.2.1 4 (by omega); have cp9x1f4 := (gp91).2.2.2 4 (by omega); have cp9x1c5 := (gp91).2.2.1 5 (by omega); have cp9x1f5 := (gp91).2.2.2 5 (by omega); have cp9x1c6 := (gp91).2.2.1 6 (by omega); have cp9x1f6 := (gp91).2.2.2 6 (by omega); have cp9x1c7 := (gp91).2.2.1 7 (by omega); have cp9x1f7 := (gp91).2.2.2 7 (by omega); have cp9x1c8 := (gp91).2.2.1 8 (by omega); have cp9x1f8 := (gp91).2.2.2 8 (by omega); have cp9x1c9 := (gp91).2.2.1 9 (by omega); have cp9x1f9 := (gp91).2.2.2 9 (by omega); have cp9x1c10 := (gp91).2.2.1 10 (by omega); have cp9x1f10 := (gp91).2.2.2 10 (by omega); have cp9x1c11 := (gp91).2.2.1 11 (by omega); have cp9x1f11 := (gp91).2.2.2 11 (by omega); clear gp91; have hu9 := i64w (n := v9 * 8) (by omega); have hx9 := i64w (n := V 5 + v9 * 8) (by omega); have hy9 := i64w (n := V 5 + v9 * 8 - 256) (by omega)); (try go_wp2_with fail); refine hK.out _ _ ?_ (fun hHeld => ?_); (focus ((try dsimp only); (first | (go_simp; done) | (go_keep; done)))); clear hK K; (try simp only [Act.put, List.setIfInBounds_toArray, List.set_cons_zero, List.set_cons_succ]))
      (refine tk 13 ⟨_, _, _, _, _, _⟩ rfl (by kernel_rfl) (fun _ _ _ h => h) (by rfl) hHeld (by intro w s; (try dsimp only at s); go_simp; (try with_reducible rfl)) ?_; (try simp only [Act.put, List.setIfInBounds_toArray, List.set_cons_zero, List.set_cons_succ]))
      (refine tk 14 ⟨_, _, _, _, _, _⟩ rfl (by kernel_rfl) (fun _ _ _ h => h) (by rfl) hHeld (by intro w s; (try dsimp only at s); go_simp; (try with_reducible rfl)) ?_; (try simp only [Act.put, List.setIfInBounds_toArray, List.set_cons_zero, List.set_cons_succ]))
      (refine tk 15 ⟨_, _, _, _, _, _⟩ rfl (by kernel_rfl) (fun _ _ _ h => h) (by rfl) hHeld (by intro w s; (try dsimp only at s); go_simp; (try with_reducible rfl)) ?_; (try simp only [Act.put, List.setIfInBounds_toArray, List.set_cons_zero, List.set_cons_succ]))
      (refine tk 16 ⟨_, _, _, _, _, _⟩ rfl (by kernel_rfl) (fun _ _ _ h => h) (by rfl) hHeld (by intro w s; (try dsimp only at s); go_simp; (try with_reducible rfl)) ?_; (try simp only [Act.put, List.setIfInBounds_toArray, List.set_cons_zero, List.set_cons_succ]))
      (refine tk 17 ⟨_, _, _, _, _, _⟩ rfl (by kernel_rfl) (fun _ _ _ h => h) (by rfl) hHeld (by intro w s; (try dsimp only at s); go_simp; (try with_reducible rfl)) ?_; (try simp only [Act.put, List.setIfInBounds_toArray, List.set_cons_zero, List.set_cons_succ]))
      (refine wpAnyH_ready (rs := [18]) (by kernel_rfl) (by simp) ?_; refine AllReadyH.cons (o := ⟨_, _, _, _, _, _⟩) rfl (fun K hK => ?_) AllReadyH.nil; go_simp; refine hK.out _ _ ?_ (fun hHeld => ?_); (focus ((try dsimp only); (first | (go_simp; done) | (go_keep; done)))); clear hK K; (try simp only [Act.put, List.setIfInBounds_toArray, List.set_cons_zero, List.set_cons_succ]))
      refine wpAnyH_done (by kernel_rfl) ?_ _
      go_wp2_with fail
      go_meet
      exact ⟨_, ((hD9.set (by intro x hx; simp only [List.mem_cons, List.not_mem_nil, or_false] at hx; rcases hx with rfl | rfl | rfl | rfl <;> dsimp only <;> omega) 4 (by omega) (V 4 + v8 * 8 - 256)).set (by intro x hx; simp only [List.mem_cons, List.not_mem_nil, or_false] at hx; rcases hx with rfl | rfl | rfl | rfl <;> dsimp only <;> omega) 5 (by omega) (V 5 + v9 * 8 - 256)).mono (by omega)⟩
  case rest =>
  clear hD U
  obtain ⟨U, hD⟩ := hcut
  have gb0 : Al w wc (ab) 12 V := hD.get (x := (ab, 12, V)) (by simp)
  have cbx0c0 := (gb0).2.2.1 0 (by omega)
  have cbx0f0 := (gb0).2.2.2 0 (by omega)
  have cbx0c1 := (gb0).2.2.1 1 (by omega)
  have cbx0f1 := (gb0).2.2.2 1 (by omega)
  have cbx0c2 := (gb0).2.2.1 2 (by omega)
  have cbx0f2 := (gb0).2.2.2 2 (by omega)
  have cbx0c3 := (gb0).2.2.1 3 (by omega)
  have cbx0f3 := (gb0).2.2.2 3 (by omega)
  have cbx0c4 := (gb0).2.2.1 4 (by omega)
  have cbx0f4 := (gb0).2.2.2 4 (by omega)
  have cbx0c5 := (gb0).2.2.1 5 (by omega)
  have cbx0f5 := (gb0).2.2.2 5 (by omega)
  have cbx0c6 := (gb0).2.2.1 6 (by omega)
  have cbx0f6 := (gb0).2.2.2 6 (by omega)
  have cbx0c7 := (gb0).2.2.1 7 (by omega)
  have cbx0f7 := (gb0).2.2.2 7 (by omega)
  have cbx0c8 := (gb0).2.2.1 8 (by omega)
  have cbx0f8 := (gb0).2.2.2 8 (by omega)
  have cbx0c9 := (gb0).2.2.1 9 (by omega)
  have cbx0f9 := (gb0).2.2.2 9 (by omega)
  have cbx0c10 := (gb0).2.2.1 10 (by omega)
  have cbx0f10 := (gb0).2.2.2 10 (by omega)
  have cbx0c11 := (gb0).2.2.1 11 (by omega)
  have cbx0f11 := (gb0).2.2.2 11 (by omega)
  clear gb0
  have gb1 : Al w wc (bb) 12 U := hD.get (x := (bb, 12, U)) (by simp)
  have cbx1c0 := (gb1).2.2.1 0 (by omega)
  have cbx1f0 := (gb1).2.2.2 0 (by omega)
  have cbx1c1 := (gb1).2.2.1 1 (by omega)
  have cbx1f1 := (gb1).2.2.2 1 (by omega)
  have cbx1c2 := (gb1).2.2.1 2 (by omega)
  have cbx1f2 := (gb1).2.2.2 2 (by omega)
  have cbx1c3 := (gb1).2.2.1 3 (by omega)
  have cbx1f3 := (gb1).2.2.2 3 (by omega)
  have cbx1c4 := (gb1).2.2.1 4 (by omega)
  have cbx1f4 := (gb1).2.2.2 4 (by omega)
  have cbx1c5 := (gb1).2.2.1 5 (by omega)
  have cbx1f5 := (gb1).2.2.2 5 (by omega)
  have cbx1c6 := (gb1).2.2.1 6 (by omega)
  have cbx1f6 := (gb1).2.2.2 6 (by omega)
  have cbx1c7 := (gb1).2.2.1 7 (by omega)
  have cbx1f7 := (gb1).2.2.2 7 (by omega)
  have cbx1c8 := (gb1).2.2.1 8 (by omega)
  have cbx1f8 := (gb1).2.2.2 8 (by omega)
  have cbx1c9 := (gb1).2.2.1 9 (by omega)
  have cbx1f9 := (gb1).2.2.2 9 (by omega)
  have cbx1c10 := (gb1).2.2.1 10 (by omega)
  have cbx1f10 := (gb1).2.2.2 10 (by omega)
  have cbx1c11 := (gb1).2.2.1 11 (by omega)
  have cbx1f11 := (gb1).2.2.2 11 (by omega)
  clear gb1
  go_upto_region 5 with fail
  obtain ⟨⟨X, Y, D⟩, K, eT⟩ : ∃ F K, toT (V 1) (V 2) (V 3) (V 4) (V 5) (U 1) (U 2) (U 3) (U 4) (U 5) = (F, K) := ⟨_, _, rfl⟩
  have hXY : HN X Y D := toT_bd eT
  go_cut [7, 8] (fun s7 s8 wc => ∃ (hb : Nat) (K : Bool) (X Y D : Int), s7 = .pointer (some ⟨hb, 0, none⟩) ∧ s8 = .bool K ∧ HN X Y D ∧ (bb < hb) ∧ BL w wc rb (p + 6100) [(hb, 3, (fun j => [X, Y, D].getD j 0)), (bb, 12, U), (ab, 12, V), (w.heap.size + 1 + 1, 3, (fun _ => 0)), (w.heap.size + 1, 12, (fun _ => 0)), (w.heap.size, 12, (fun _ => 0))])
  case first =>
    go_wp2_with (go_at_call 35; refine (sTouch_q _ _ _ _ _ _ _ _ _ _ X Y D K _ (by with_reducible assumption)).mono ?_; rintro e w2 ⟨rfl, hb2⟩)
    go_meet
    have hD2 := hD.calb hb2
    have q1 : bb < w2.heap.size := hD2.lt (x := (bb, 12, U)) (by simp)
    exact ⟨_, K, X, Y, D, rfl, rfl, hXY, q1, hD2.new _ 3 _ rfl (by intro i hi; rcases (show i = 0 ∨ i = 1 ∨ i = 2 by omega) with rfl | rfl | rfl <;> rfl)⟩
  case rest =>
  clear hD hXY eT X Y D K
  obtain ⟨hb, K, X, Y, D, rfl, rfl, hXY, lhb, hD⟩ := hcut
  clear cbx0c0 cbx0f0 cbx0c1 cbx0f1 cbx0c2 cbx0f2 cbx0c3 cbx0f3 cbx0c4 cbx0f4 cbx0c5 cbx0f5 cbx0c6 cbx0f6 cbx0c7 cbx0f7 cbx0c8 cbx0f8 cbx0c9 cbx0f9 cbx0c10 cbx0f10 cbx0c11 cbx0f11 cbx1c0 cbx1f0 cbx1c1 cbx1f1 cbx1c2 cbx1f2 cbx1c3 cbx1f3 cbx1c4 cbx1f4 cbx1c5 cbx1f5 cbx1c6 cbx1f6 cbx1c7 cbx1f7 cbx1c8 cbx1f8 cbx1c9 cbx1f9 cbx1c10 cbx1f10 cbx1c11 cbx1f11
  go_upto_region 6 with fail
  go_cut [53] (fun s53 wc => ∃ b : Bool, s53 = .bool b ∧ BL w wc rb (p + 6200) [(hb, 3, (fun j => [X, Y, D].getD j 0)), (bb, 12, U), (ab, 12, V), (w.heap.size + 1 + 1, 3, (fun _ => 0)), (w.heap.size + 1, 12, (fun _ => 0)), (w.heap.size, 12, (fun _ => 0))])
  case first =>
    cases K
    all_goals go_wp2_with (go_at_call 21; refine (pick_s rb (p + 6110) _ _ (by exact (hD.mono (p1 := p + 6110) (by omega)).rs) (by omega) (by omega) (by omega)).mono ?_; rintro e w10 ⟨v10, rfl, va10, vb10, hr10⟩; have hD10 := hD.call hr10)
    all_goals go_meet
    all_goals first
      | exact ⟨_, rfl, hD10.mono (by omega)⟩
      | exact ⟨_, rfl, hD.mono (by omega)⟩
  case rest =>
  clear hD
  obtain ⟨b, rfl, hD⟩ := hcut
  rename_i hKK2
  refine hKK2 _ _ ?_
  go_cut [] (fun wc => ∃ X Y D : Int, HN X Y D ∧ BL w wc rb (p + 6500) [(hb, 3, (fun j => [X, Y, D].getD j 0)), (bb, 12, U), (ab, 12, V), (w.heap.size + 1 + 1, 3, (fun _ => 0)), (w.heap.size + 1, 12, (fun _ => 0)), (w.heap.size, 12, (fun _ => 0))])
  case first =>
    cases b with
    | false =>
      go_wp2_with fail
      go_meet
      exact ⟨X, Y, D, hXY, hD.mono (by omega)⟩
    | true =>
      have gd0 : Al w wc (hb) 3 (fun j => [X, Y, D].getD j 0) := hD.get (x := (hb, 3, (fun j => [X, Y, D].getD j 0))) (by simp)
      have cdx0c0 := (gd0).2.2.1 0 (by omega)
      have cdx0f0 := (gd0).2.2.2 0 (by omega)
      have cdx0c1 := (gd0).2.2.1 1 (by omega)
      have cdx0f1 := (gd0).2.2.2 1 (by omega)
      have cdx0c2 := (gd0).2.2.1 2 (by omega)
      have cdx0f2 := (gd0).2.2.2 2 (by omega)
      clear gd0
      go_wp2_with (go_at_call 36; refine (l11Hit_s rb (p + 6200) _ (by exact hD.rs) (by omega)).mono ?_; rintro e w2 ⟨X2, Y2, D2, rfl, hd2, hr2⟩; have hD2 := (hD.call hr2).mono (p1 := p + 6500) (by omega); have ge0 : Al w w2 (hb) 3 (fun j => [X, Y, D].getD j 0) := hD2.get (x := (hb, 3, (fun j => [X, Y, D].getD j 0))) (by simp); have cex0c0 := (ge0).2.2.1 0 (by omega); have cex0f0 := (ge0).2.2.2 0 (by omega); have cex0c1 := (ge0).2.2.1 1 (by omega); have cex0f1 := (ge0).2.2.2 1 (by omega); have cex0c2 := (ge0).2.2.1 2 (by omega); have cex0f2 := (ge0).2.2.2 2 (by omega); clear ge0)
      go_meet
      exact ⟨X2, Y2, D2, hd2, (((hD2.set (by intro x hx; simp only [List.mem_cons, List.not_mem_nil, or_false] at hx; rcases hx with rfl | rfl | rfl | rfl | rfl <;> dsimp only <;> omega) 0 (by omega) X2).set (by intro x hx; simp only [List.mem_cons, List.not_mem_nil, or_false] at hx; rcases hx with rfl | rfl | rfl | rfl | rfl <;> dsimp only <;> omega) 1 (by omega) Y2).set (by intro x hx; simp only [List.mem_cons, List.not_mem_nil, or_false] at hx; rcases hx with rfl | rfl | rfl | rfl | rfl <;> dsimp only <;> omega) 2 (by omega) D2).headc (by intro i hi; rcases (show i = 0 ∨ i = 1 ∨ i = 2 by omega) with rfl | rfl | rfl <;> rfl)⟩
  case rest =>
  clear hD hXY X Y D
  obtain ⟨X, Y, D, hXY, hD⟩ := hcut
  have gf0 : Al w wc (ab) 12 V := hD.get (x := (ab, 12, V)) (by simp)
  have cfx0c0 := (gf0).2.2.1 0 (by omega)
  have cfx0f0 := (gf0).2.2.2 0 (by omega)
  have cfx0c1 := (gf0).2.2.1 1 (by omega)
  have cfx0f1 := (gf0).2.2.2 1 (by omega)
  have cfx0c2 := (gf0).2.2.1 2 (by omega)
  have cfx0f2 := (gf0).2.2.2 2 (by omega)
  have cfx0c3 := (gf0).2.2.1 3 (by omega)
  have cfx0f3 := (gf0).2.2.2 3 (by omega)
  have cfx0c4 := (gf0).2.2.1 4 (by omega)
  have cfx0f4 := (gf0).2.2.2 4 (by omega)
  have cfx0c5 := (gf0).2.2.1 5 (by omega)
  have cfx0f5 := (gf0).2.2.2 5 (by omega)
  have cfx0c6 := (gf0).2.2.1 6 (by omega)
  have cfx0f6 := (gf0).2.2.2 6 (by omega)
  have cfx0c7 := (gf0).2.2.1 7 (by omega)
  have cfx0f7 := (gf0).2.2.2 7 (by omega)
  have cfx0c8 := (gf0).2.2.1 8 (by omega)
  have cfx0f8 := (gf0).2.2.2 8 (by omega)
  have cfx0c9 := (gf0).2.2.1 9 (by omega)
  have cfx0f9 := (gf0).2.2.2 9 (by omega)
  have cfx0c10 := (gf0).2.2.1 10 (by omega)
  have cfx0f10 := (gf0).2.2.2 10 (by omega)
  have cfx0c11 := (gf0).2.2.1 11 (by omega)
  have cfx0f11 := (gf0).2.2.2 11 (by omega)
  clear gf0
  go_upto_region 8 with fail
  go_cut [73] (fun s73 wc => ∃ b : Bool, s73 = .bool b ∧ (b = true → 0 < V 8 ∧ V 8 ≤ 1000) ∧ BL w wc rb (p + 6600) [(hb, 3, (fun j => [X, Y, D].getD j 0)), (bb, 12, U), (ab, 12, V), (w.heap.size + 1 + 1, 3, (fun _ => 0)), (w.heap.size + 1, 12, (fun _ => 0)), (w.heap.size, 12, (fun _ => 0))])
  case first =>
    by_cases m1 : 0 < V 8
    · by_cases m2 : V 8 ≤ 1000
      · by_cases m3 : V 11 < 8
        all_goals
          go_wp2_with (go_at_call 21; refine (pick_s rb (p + 6510) _ _ (by exact (hD.mono (p1 := p + 6510) (by omega)).rs) (by omega) (by omega) (by omega)).mono ?_; rintro e w11 ⟨v11, rfl, va11, vb11, hr11⟩; have hD11 := hD.call hr11)
        all_goals go_meet
        all_goals first
          | exact ⟨_, rfl, fun _ => ⟨m1, m2⟩, hD11.mono (by omega)⟩
          | exact ⟨_, rfl, fun _ => ⟨m1, m2⟩, hD.mono (by omega)⟩
      · go_wp2_with fail
        go_meet
        exact ⟨_, rfl, fun h => (by cases h), hD.mono (by omega)⟩
    · go_wp2_with fail
      go_meet
      exact ⟨_, rfl, fun h => (by cases h), hD.mono (by omega)⟩
  case rest =>
  clear hD
  obtain ⟨b, rfl, hmass, hD⟩ := hcut
  clear cfx0c0 cfx0f0 cfx0c1 cfx0f1 cfx0c2 cfx0f2 cfx0c3 cfx0f3 cfx0c4 cfx0f4 cfx0c5 cfx0f5 cfx0c6 cfx0f6 cfx0c7 cfx0f7 cfx0c8 cfx0f8 cfx0c9 cfx0f9 cfx0c10 cfx0f10 cfx0c11 cfx0f11
  rename_i hKK3
  refine hKK3 _ _ ?_
  go_cut [] (fun wc => ∃ V : Nat → Int, BL w wc rb (p + 8000) [(hb, 3, (fun j => [X, Y, D].getD j 0)), (bb, 12, U), (ab, 12, V), (w.heap.size + 1 + 1, 3, (fun _ => 0)), (w.heap.size + 1, 12, (fun _ => 0)), (w.heap.size, 12, (fun _ => 0))])
  case first =>
    cases b with
    | false =>
      go_wp2_with fail
      go_meet
      exact ⟨V, hD.mono (by omega)⟩
    | true =>
      obtain ⟨m1, m2⟩ := hmass rfl
      obtain ⟨⟨x1, x2⟩, y1, y2⟩ := hXY
      have gg0 : Al w wc (ab) 12 V := hD.get (x := (ab, 12, V)) (by simp)
      have cgx0c0 := (gg0).2.2.1 0 (by omega)
      have cgx0f0 := (gg0).2.2.2 0 (by omega)
      have cgx0c1 := (gg0).2.2.1 1 (by omega)
      have cgx0f1 := (gg0).2.2.2 1 (by omega)
      have cgx0c2 := (gg0).2.2.1 2 (by omega)
      have cgx0f2 := (gg0).2.2.2 2 (by omega)
      have cgx0c3 := (gg0).2.2.1 3 (by omega)
      have cgx0f3 := (gg0).2.2.2 3 (by omega)
      have cgx0c4 := (gg0).2.2.1 4 (by omega)
      have cgx0f4 := (gg0).2.2.2 4 (by omega)
      have cgx0c5 := (gg0).2.2.1 5 (by omega)
      have cgx0f5 := (gg0).2.2.2 5 (by omega)
      have cgx0c6 := (gg0).2.2.1 6 (by omega)
      have cgx0f6 := (gg0).2.2.2 6 (by omega)
      have cgx0c7 := (gg0).2.2.1 7 (by omega)
      have cgx0f7 := (gg0).2.2.2 7 (by omega)
      have cgx0c8 := (gg0).2.2.1 8 (by omega)
      have cgx0f8 := (gg0).2.2.2 8 (by omega)
      have cgx0c9 := (gg0).2.2.1 9 (by omega)
      have cgx0f9 := (gg0).2.2.2 9 (by omega)
      have cgx0c10 := (gg0).2.2.1 10 (by omega)
      have cgx0f10 := (gg0).2.2.2 10 (by omega)
      have cgx0c11 := (gg0).2.2.1 11 (by omega)
      have cgx0f11 := (gg0).2.2.2 11 (by omega)
      clear gg0
      have gg1 : Al w wc (hb) 3 (fun j => [X, Y, D].getD j 0) := hD.get (x := (hb, 3, (fun j => [X, Y, D].getD j 0))) (by simp)
      have cgx1c0 := (gg1).2.2.1 0 (by omega)
      have cgx1f0 := (gg1).2.2.2 0 (by omega)
      have cgx1c1 := (gg1).2.2.1 1 (by omega)
      have cgx1f1 := (gg1).2.2.2 1 (by omega)
      have cgx1c2 := (gg1).2.2.1 2 (by omega)
      have cgx1f2 := (gg1).2.2.2 2 (by omega)
      clear gg1
      go_upto_region 9 with fail
      refine wp_region_held_drew (S := fun w' => w'.cell? ⟨ab, 0, none⟩ = some (.int .i64 (V 0)) ∧ w'.cell? ⟨ab, 1, none⟩ = some (.int .i64 (V 1)) ∧ w'.cell? ⟨ab, 2, none⟩ = some (.int .i64 (V 2)) ∧ w'.cell? ⟨ab, 3, none⟩ = some (.int .i64 (V 3)) ∧ w'.cell? ⟨ab, 4, none⟩ = some (.int .i64 (V 4)) ∧ w'.cell? ⟨ab, 5, none⟩ = some (.int .i64 (V 5)) ∧ w'.cell? ⟨ab, 6, none⟩ = some (.int .i64 (V 6)) ∧ w'.cell? ⟨ab, 7, none⟩ = some (.int .i64 (V 7)) ∧ w'.cell? ⟨ab, 8, none⟩ = some (.int .i64 (V 8)) ∧ w'.cell? ⟨ab, 9, none⟩ = some (.int .i64 (V 9)) ∧ w'.cell? ⟨ab, 10, none⟩ = some (.int .i64 (V 10)) ∧ w'.cell? ⟨ab, 11, none⟩ = some (.int .i64 (V 11))) (by kernel_rfl) ?_ (fun hHeld => ?_)
      · (try dsimp only)
        (first | (go_simp; done) | (go_keep; done))
      (refine tk 0 ⟨_, _, _, _, _, _⟩ rfl (by kernel_rfl) (fun _ _ _ h => h) (by rfl) hHeld (by intro w s; (try dsimp only at s); go_simp; (try with_reducible rfl)) ?_; (try simp only [Act.put, List.setIfInBounds_toArray, List.set_cons_zero, List.set_cons_succ]))
      (refine tk 1 ⟨_, _, _, _, _, _⟩ rfl (by kernel_rfl) (fun _ _ _ h => h) (by rfl) hHeld (by intro w s; (try dsimp only at s); go_simp; (try with_reducible rfl)) ?_; (try simp only [Act.put, List.setIfInBounds_toArray, List.set_cons_zero, List.set_cons_succ]))
      (refine tk 2 ⟨_, _, _, _, _, _⟩ rfl (by kernel_rfl) (fun _ _ _ h => h) (by rfl) hHeld (by intro w s; (try dsimp only at s); go_simp; (try with_reducible rfl)) ?_; (try simp only [Act.put, List.setIfInBounds_toArray, List.set_cons_zero, List.set_cons_succ]))
      refine wpAnyH_ready (rs := [3]) (by kernel_rfl) (by simp) ?_
      refine AllReadyH.cons (o := ⟨_, _, _, _, _, _⟩) rfl (fun K hK => ?_) AllReadyH.nil
      (go_simp; refine hK.out _ _ ?_ (fun hHeld => ?_); (focus ((try dsimp only); (first | (go_simp; done) | (go_keep; done)))); clear hK K; (try simp only [Act.put, List.setIfInBounds_toArray, List.set_cons_zero, List.set_cons_succ]))
      have hD3 := (hD.alloc (.cells #[.int .i64 1, .int .i64 2, .int .i64 3] 3)).drew
      have hL3 : Li wc (wc.alloc (.cells #[.int .i64 1, .int .i64 2, .int .i64 3] 3)).drew wc.heap.size 3 [1, 2, 3] := Li.new (Nat.le_refl _) (by intro i hi; rcases (show i = 0 ∨ i = 1 ∨ i = 2 by omega) with rfl | rfl | rfl <;> rfl)
      generalize (wc.alloc (.cells #[.int .i64 1, .int .i64 2, .int .i64 3] 3)).drew = w3 at *
      have gh0 : Al w w3 (ab) 12 V := hD3.get (x := (ab, 12, V)) (by simp)
      have chx0c0 := (gh0).2.2.1 0 (by omega)
      have chx0f0 := (gh0).2.2.2 0 (by omega)
      have chx0c1 := (gh0).2.2.1 1 (by omega)
      have chx0f1 := (gh0).2.2.2 1 (by omega)
      have chx0c2 := (gh0).2.2.1 2 (by omega)
      have chx0f2 := (gh0).2.2.2 2 (by omega)
      have chx0c3 := (gh0).2.2.1 3 (by omega)
      have chx0f3 := (gh0).2.2.2 3 (by omega)
      have chx0c4 := (gh0).2.2.1 4 (by omega)
      have chx0f4 := (gh0).2.2.2 4 (by omega)
      have chx0c5 := (gh0).2.2.1 5 (by omega)
      have chx0f5 := (gh0).2.2.2 5 (by omega)
      have chx0c6 := (gh0).2.2.1 6 (by omega)
      have chx0f6 := (gh0).2.2.2 6 (by omega)
      have chx0c7 := (gh0).2.2.1 7 (by omega)
      have chx0f7 := (gh0).2.2.2 7 (by omega)
      have chx0c8 := (gh0).2.2.1 8 (by omega)
      have chx0f8 := (gh0).2.2.2 8 (by omega)
      have chx0c9 := (gh0).2.2.1 9 (by omega)
      have chx0f9 := (gh0).2.2.2 9 (by omega)
      have chx0c10 := (gh0).2.2.1 10 (by omega)
      have chx0f10 := (gh0).2.2.2 10 (by omega)
      have chx0c11 := (gh0).2.2.1 11 (by omega)
      have chx0f11 := (gh0).2.2.2 11 (by omega)
      clear gh0
      have gh1 : Al w w3 (hb) 3 (fun j => [X, Y, D].getD j 0) := hD3.get (x := (hb, 3, (fun j => [X, Y, D].getD j 0))) (by simp)
      have chx1c0 := (gh1).2.2.1 0 (by omega)
      have chx1f0 := (gh1).2.2.2 0 (by omega)
      have chx1c1 := (gh1).2.2.1 1 (by omega)
      have chx1f1 := (gh1).2.2.2 1 (by omega)
      have chx1c2 := (gh1).2.2.1 2 (by omega)
      have chx1f2 := (gh1).2.2.2 2 (by omega)
      clear gh1
      refine wpAnyH_ready (rs := [4]) (by kernel_rfl) (by simp) ?_
      refine AllReadyH.cons (o := ⟨_, _, _, _, _, _⟩) rfl (fun K hK => ?_) AllReadyH.nil
      (go_simp; (go_at_call 37; refine (one_g 1 3 rb (p + 6610) _ 3 3 [1, 2, 3] _ (by exact (hD3.mono (p1 := p + 6610) (by omega)).rs) (by omega) (by decide) (by rfl) (by omega) (by omega) (by have := hD.lt (x := (ab, 12, V)) (by simp); have := hD.lo; have := hD.but.size; omega) hL3.2.2).mono ?_; rintro e w12 ⟨n, rfl, na, nb, hr12⟩; have hD12 := hD3.call hr12; have hmm := mul_bd (a := V 8) (b := n) (A := 1000) (B := 3) (by omega) (by omega); have hww := i64w (n := V 8 * n) (by omega); have gi0 : Al w w12 (ab) 12 V := hD12.get (x := (ab, 12, V)) (by simp); have cix0c0 := (gi0).2.2.1 0 (by omega); have cix0f0 := (gi0).2.2.2 0 (by omega); have cix0c1 := (gi0).2.2.1 1 (by omega); have cix0f1 := (gi0).2.2.2 1 (by omega); have cix0c2 := (gi0).2.2.1 2 (by omega); have cix0f2 := (gi0).2.2.2 2 (by omega); have cix0c3 := (gi0).2.2.1 3 (by omega); have cix0f3 := (gi0).2.2.2 3 (by omega); have cix0c4 := (gi0).2.2.1 4 (by omega); have cix0f4 := (gi0).2.2.2 4 (by omega); have cix0c5 := (gi0).2.2.1 5 (by omega); have cix0f5 := (gi0).2.2.2 5 (by omega); have cix0c6 := (gi0).2.2.1 6 (by omega); have cix0f6 := (gi0).2.2.2 6 (by omega); have cix0c7 := (gi0).2.2.1 7 (by omega); have cix0f7 := (gi0).2.2.2 7 (by omega); have cix0c8 := (gi0).2.2.1 8 (by omega); have cix0f8 := (gi0).2.2.2 8 (by omega); have cix0c9 := (gi0).2.2.1 9 (by omega); have cix0f9 := (gi0).2.2.2 9 (by omega); have cix0c10 := (gi0).2.2.1 10 (by omega); have cix0f10 := (gi0).2.2.2 10 (by omega); have cix0c11 := (gi0).2.2.1 11 (by omega); have cix0f11 := (gi0).2.2.2 11 (by omega); clear gi0; have gi1 : Al w w12 (hb) 3 (fun j => [X, Y, D].getD j 0) := hD12.get (x := (hb, 3, (fun j => [X, Y, D].getD j 0))) (by simp); have cix1c0 := (gi1).2.2.1 0 (by omega); have cix1f0 := (gi1).2.2.2 0 (by omega); have cix1c1 := (gi1).2.2.1 1 (by omega); have cix1f1 := (gi1).2.2.2 1 (by omega); have cix1c2 := (gi1).2.2.1 2 (by omega); have cix1f2 := (gi1).2.2.2 2 (by omega); clear gi1); (try go_wp2_with fail); refine hK.out _ _ ?_ (fun hHeld => ?_); (focus ((try dsimp only); (first | (go_simp; done) | (go_keep; done)))); clear hK K; (try simp only [Act.put, List.setIfInBounds_toArray, List.set_cons_zero, List.set_cons_succ]))
      (refine tk 5 ⟨_, _, _, _, _, _⟩ rfl (by kernel_rfl) (fun _ _ _ h => h) (by rfl) hHeld (by intro w s; (try dsimp only at s); go_simp; (try with_reducible rfl)) ?_; (try simp only [Act.put, List.setIfInBounds_toArray, List.set_cons_zero, List.set_cons_succ]))
      (refine tk 6 ⟨_, _, _, _, _, _⟩ rfl (by kernel_rfl) (fun _ _ _ h => h) (by rfl) hHeld (by intro w s; (try dsimp only at s); go_simp; (try with_reducible rfl)) ?_; (try simp only [Act.put, List.setIfInBounds_toArray, List.set_cons_zero, List.set_cons_succ]))
      refine wpAnyH_done (by kernel_rfl) ?_ _
      obtain ⟨m, em⟩ : ∃ m, V 8 * n = m := ⟨_, rfl⟩
      rw [em] at hmm hww ⊢
      have hE := hD12.mono (p1 := p + 6650) (by omega)
      have hm1 := mul_bd (a := X) (b := m) (A := 2000000000) (B := 3000) (by omega) (by omega)
      have hm2 := mul_bd (a := Y) (b := m) (A := 2000000000) (B := 3000) (by omega) (by omega)
      have hw1 := i64w (n := X * m) (by omega)
      have hw2 := i64w (n := Y * m) (by omega)
      go_upto_region 10 with fail
      refine wp_region_held_drew (S := fun w' => w'.cell? ⟨hb, 0, none⟩ = some (.int .i64 X) ∧ w'.cell? ⟨hb, 1, none⟩ = some (.int .i64 Y) ∧ w'.cell? ⟨hb, 2, none⟩ = some (.int .i64 D)) (by kernel_rfl) ?_ (fun hHeld => ?_)
      · (try dsimp only)
        (first | (go_simp; done) | (go_keep; done))
      (refine tk 0 ⟨_, _, _, _, _, _⟩ rfl (by kernel_rfl) (fun _ _ _ h => h) (by rfl) hHeld (by intro w s; (try dsimp only at s); go_simp; (try with_reducible rfl)) ?_; (try simp only [Act.put, List.setIfInBounds_toArray, List.set_cons_zero, List.set_cons_succ]))
      (refine tk 1 ⟨_, _, _, _, _, _⟩ rfl (by kernel_rfl) (fun _ _ _ h => h) (by rfl) hHeld (by intro w s; (try dsimp only at s); go_simp; (try with_reducible rfl)) ?_; (try simp only [Act.put, List.setIfInBounds_toArray, List.set_cons_zero, List.set_cons_succ]))
      (refine tk 2 ⟨_, _, _, _, _, _⟩ rfl (by kernel_rfl) (fun _ _ _ h => h) (by rfl) hHeld (by intro w s; (try dsimp only at s); go_simp; (try with_reducible rfl)) ?_; (try simp only [Act.put, List.setIfInBounds_toArray, List.set_cons_zero, List.set_cons_succ]))
      (refine tk 3 ⟨_, _, _, _, _, _⟩ rfl (by kernel_rfl) (fun _ _ _ h => h) (by rfl) hHeld (by intro w s; (try dsimp only at s); go_simp; (try with_reducible rfl)) ?_; (try simp only [Act.put, List.setIfInBounds_toArray, List.set_cons_zero, List.set_cons_succ]))
      (refine tk 4 ⟨_, _, _, _, _, _⟩ rfl (by kernel_rfl) (fun _ _ _ h => h) (by rfl) hHeld (by intro w s; (try dsimp only at s); go_simp; (try with_reducible rfl)) ?_; (try simp only [Act.put, List.setIfInBounds_toArray, List.set_cons_zero, List.set_cons_succ]))
      (refine tk 5 ⟨_, _, _, _, _, _⟩ rfl (by kernel_rfl) (fun _ _ _ h => h) (by rfl) hHeld (by intro w s; (try dsimp only at s); go_simp; (try with_reducible rfl)) ?_; (try simp only [Act.put, List.setIfInBounds_toArray, List.set_cons_zero, List.set_cons_succ]))
      (refine tk 8 ⟨_, _, _, _, _, _⟩ rfl (by kernel_rfl) (fun _ _ _ h => h) (by rfl) hHeld (by intro w s; (try dsimp only at s); go_simp; (try with_reducible rfl)) ?_; (try simp only [Act.put, List.setIfInBounds_toArray, List.set_cons_zero, List.set_cons_succ]))
      (refine tk 9 ⟨_, _, _, _, _, _⟩ rfl (by kernel_rfl) (fun _ _ _ h => h) (by rfl) hHeld (by intro w s; (try dsimp only at s); go_simp; (try with_reducible rfl)) ?_; (try simp only [Act.put, List.setIfInBounds_toArray, List.set_cons_zero, List.set_cons_succ]))
      (refine tk 10 ⟨_, _, _, _, _, _⟩ rfl (by kernel_rfl) (fun _ _ _ h => h) (by rfl) hHeld (by intro w s; (try dsimp only at s); go_simp; (try with_reducible rfl)) ?_; (try simp only [Act.put, List.setIfInBounds_toArray, List.set_cons_zero, List.set_cons_succ]))
      (refine tk 11 ⟨_, _, _, _, _, _⟩ rfl (by kernel_rfl) (fun _ _ _ h => h) (by rfl) hHeld (by intro w s; (try dsimp only at s); go_simp; (try with_reducible rfl)) ?_; (try simp only [Act.put, List.setIfInBounds_toArray, List.set_cons_zero, List.set_cons_succ]))
      (refine tk 12 ⟨_, _, _, _, _, _⟩ rfl (by kernel_rfl) (fun _ _ _ h => h) (by rfl) hHeld (by intro w s; (try dsimp only at s); go_simp; (try with_reducible rfl)) ?_; (try simp only [Act.put, List.setIfInBounds_toArray, List.set_cons_zero, List.set_cons_succ]))
      (refine tk 13 ⟨_, _, _, _, _, _⟩ rfl (by kernel_rfl) (fun _ _ _ h => h) (by rfl) hHeld (by intro w s; (try dsimp only at s); go_simp; (try with_reducible rfl)) ?_; (try simp only [Act.put, List.setIfInBounds_toArray, List.set_cons_zero, List.set_cons_succ]))
      (refine wpAnyH_ready (rs := [6]) (by kernel_rfl) (by simp) ?_; refine AllReadyH.cons (o := ⟨_, _, _, _, _, _⟩) rfl (fun K hK => ?_) AllReadyH.nil; go_simp; (go_at_call 21; refine (pick_s rb (p + 6700) _ _ (by exact (hE.drew.mono (p1 := p + 6700) (by omega)).rs) (by omega) (by omega) (by omega)).mono ?_; rintro e w13 ⟨v13, rfl, va13, vb13, hr13⟩; have hD13 := hE.drew.call hr13; have gq130 : Al w w13 (ab) 12 V := hD13.get (x := (ab, 12, V)) (by simp); have cq13x0c0 := (gq130).2.2.1 0 (by omega); have cq13x0f0 := (gq130).2.2.2 0 (by omega); have cq13x0c1 := (gq130).2.2.1 1 (by omega); have cq13x0f1 := (gq130).2.2.2 1 (by omega); have cq13x0c2 := (gq130).2.2.1 2 (by omega); have cq13x0f2 := (gq130).2.2.2 2 (by omega); have cq13x0c3 := (gq130).2.2.1 3 (by omega); have cq13x0f3 := (gq130).2.2.2 3 (by omega); have cq13x0c4 := (gq130).2.2.1 4 (by omega); have cq13x0f4 := (gq130).2.2.2 4 (by omega); have cq13x0c5 := (gq130).2.2.1 5 (by omega); have cq13x0f5 := (gq130).2.2.2 5 (by omega); have cq13x0c6 := (gq130).2.2.1 6 (by omega); have cq13x0f6 := (gq130).2.2.2 6 (by omega); have cq13x0c7 := (gq130).2.2.1 7 (by omega); have cq13x0f7 := (gq130).2.2.2 7 (by omega); have cq13x0c8 := (gq130).2.2.1 8 (by omega); have cq13x0f8 := (gq130).2.2.2 8 (by omega); have cq13x0c9 := (gq130).2.2.1 9 (by omega); have cq13x0f9 := (gq130).2.2.2 9 (by omega); have cq13x0c10 := (gq130).2.2.1 10 (by omega); have cq13x0f10 := (gq130).2.2.2 10 (by omega); have cq13x0c11 := (gq130).2.2.1 11 (by omega); have cq13x0f11 := (gq130).2.2.2 11 (by omega); clear gq130; have gq131 : Al w w13 (hb) 3 (fun j => [X, Y, D].getD j 0) := hD13.get (x := (hb, 3, (fun j => [X, Y, D].getD j 0))) (by simp); have cq13x1c0 := (gq131).2.2.1 0 (by omega); have cq13x1f0 := (gq131).2.2.2 0 (by omega); have cq13x1c1 := (gq131).2.2.1 1 (by omega); have cq13x1f1 := (gq131).2.2.2 1 (by omega); have cq13x1c2 := (gq131).2.2.1 2 (by omega); have cq13x1f2 := (gq131).2.2.2 2 (by omega); clear gq131; have hx13 := i64w (n := X * m + v13) (by omega)); (try go_wp2_with fail); refine hK.out _ _ ?_ (fun hHeld => ?_); (focus ((try dsimp only); (first | (go_simp; done) | (go_keep; done)))); clear hK K; (try simp only [Act.put, List.setIfInBounds_toArray, List.set_cons_zero, List.set_cons_succ]))
      (refine tk 7 ⟨_, _, _, _, _, _⟩ rfl (by kernel_rfl) (fun _ _ _ h => h) (by rfl) hHeld (by intro w s; (try dsimp only at s); go_simp; (try with_reducible rfl)) ?_; (try simp only [Act.put, List.setIfInBounds_toArray, List.set_cons_zero, List.set_cons_succ]))
      (refine wpAnyH_ready (rs := [14]) (by kernel_rfl) (by simp) ?_; refine AllReadyH.cons (o := ⟨_, _, _, _, _, _⟩) rfl (fun K hK => ?_) AllReadyH.nil; go_simp; (have _ := hr13; go_at_call 21; refine (pick_s rb (p + 6710) _ _ (by exact (hD13.mono (p1 := p + 6710) (by omega)).rs) (by omega) (by omega) (by omega)).mono ?_; rintro e w14 ⟨v14, rfl, va14, vb14, hr14⟩; have hD14 := hD13.call hr14; have gq140 : Al w w14 (ab) 12 V := hD14.get (x := (ab, 12, V)) (by simp); have cq14x0c0 := (gq140).2.2.1 0 (by omega); have cq14x0f0 := (gq140).2.2.2 0 (by omega); have cq14x0c1 := (gq140).2.2.1 1 (by omega); have cq14x0f1 := (gq140).2.2.2 1 (by omega); have cq14x0c2 := (gq140).2.2.1 2 (by omega); have cq14x0f2 := (gq140).2.2.2 2 (by omega); have cq14x0c3 := (gq140).2.2.1 3 (by omega); have cq14x0f3 := (gq140).2.2.2 3 (by omega); have cq14x0c4 := (gq140).2.2.1 4 (by omega); have cq14x0f4 := (gq140).2.2.2 4 (by omega); have cq14x0c5 := (gq140).2.2.1 5 (by omega); have cq14x0f5 := (gq140).2.2.2 5 (by omega); have cq14x0c6 := (gq140).2.2.1 6 (by omega); have cq14x0f6 := (gq140).2.2.2 6 (by omega); have cq14x0c7 := (gq140).2.2.1 7 (by omega); have cq14x0f7 := (gq140).2.2.2 7 (by omega); have cq14x0c8 := (gq140).2.2.1 8 (by omega); have cq14x0f8 := (gq140).2.2.2 8 (by omega); have cq14x0c9 := (gq140).2.2.1 9 (by omega); have cq14x0f9 := (gq140).2.2.2 9 (by omega); have cq14x0c10 := (gq140).2.2.1 10 (by omega); have cq14x0f10 := (gq140).2.2.2 10 (by omega); have cq14x0c11 := (gq140).2.2.1 11 (by omega); have cq14x0f11 := (gq140).2.2.2 11 (by omega); clear gq140; have gq141 : Al w w14 (hb) 3 (fun j => [X, Y, D].getD j 0) := hD14.get (x := (hb, 3, (fun j => [X, Y, D].getD j 0))) (by simp); have cq14x1c0 := (gq141).2.2.1 0 (by omega); have cq14x1f0 := (gq141).2.2.2 0 (by omega); have cq14x1c1 := (gq141).2.2.1 1 (by omega); have cq14x1f1 := (gq141).2.2.2 1 (by omega); have cq14x1c2 := (gq141).2.2.1 2 (by omega); have cq14x1f2 := (gq141).2.2.2 2 (by omega); clear gq141; have hx14 := i64w (n := Y * m - v14) (by omega)); (try go_wp2_with fail); refine hK.out _ _ ?_ (fun hHeld => ?_); (focus ((try dsimp only); (first | (go_simp; done) | (go_keep; done)))); clear hK K; (try simp only [Act.put, List.setIfInBounds_toArray, List.set_cons_zero, List.set_cons_succ]))
      (refine tk 15 ⟨_, _, _, _, _, _⟩ rfl (by kernel_rfl) (fun _ _ _ h => h) (by rfl) hHeld (by intro w s; (try dsimp only at s); go_simp; (try with_reducible rfl)) ?_; (try simp only [Act.put, List.setIfInBounds_toArray, List.set_cons_zero, List.set_cons_succ]))
      (refine tk 16 ⟨_, _, _, _, _, _⟩ rfl (by kernel_rfl) (fun _ _ _ h => h) (by rfl) hHeld (by intro w s; (try dsimp only at s); go_simp; (try with_reducible rfl)) ?_; (try simp only [Act.put, List.setIfInBounds_toArray, List.set_cons_zero, List.set_cons_succ]))
      (refine tk 17 ⟨_, _, _, _, _, _⟩ rfl (by kernel_rfl) (fun _ _ _ h => h) (by rfl) hHeld (by intro w s; (try dsimp only at s); go_simp; (try with_reducible rfl)) ?_; (try simp only [Act.put, List.setIfInBounds_toArray, List.set_cons_zero, List.set_cons_succ]))
      (refine wpAnyH_ready (rs := [18]) (by kernel_rfl) (by simp) ?_; refine AllReadyH.cons (o := ⟨_, _, _, _, _, _⟩) rfl (fun K hK => ?_) AllReadyH.nil; go_simp; refine hK.out _ _ ?_ (fun hHeld => ?_); (focus ((try dsimp only); (first | (go_simp; done) | (go_keep; done)))); clear hK K; (try simp only [Act.put, List.setIfInBounds_toArray, List.set_cons_zero, List.set_cons_succ]))
      refine wpAnyH_done (by kernel_rfl) ?_ _
      go_wp2_with fail
      go_meet
      exact ⟨_, (((hD14.sub (M := [(ab, 12, V), (hb, 3, (fun j => [X, Y, D].getD j 0)), (bb, 12, U), (w.heap.size + 1 + 1, 3, (fun _ => 0)), (w.heap.size + 1, 12, (fun _ => 0)), (w.heap.size, 12, (fun _ => 0))]) (by intro x hx; simp only [List.mem_cons, List.not_mem_nil, or_false] at hx; rcases hx with rfl | rfl | rfl | rfl | rfl | rfl <;> simp)).set (by intro x hx; simp only [List.mem_cons, List.not_mem_nil, or_false] at hx; rcases hx with rfl | rfl | rfl | rfl | rfl <;> dsimp only <;> omega) 6 (by omega) (X * m + v13)).set (by intro x hx; simp only [List.mem_cons, List.not_mem_nil, or_false] at hx; rcases hx with rfl | rfl | rfl | rfl | rfl <;> dsimp only <;> omega) 7 (by omega) (Y * m - v14)).sub (M := [(hb, 3, (fun j => [X, Y, D].getD j 0)), (bb, 12, U), (ab, 12, (fun j => if j = 7 then Y * m - v14 else (fun j => if j = 6 then X * m + v13 else V j) j)), (w.heap.size + 1 + 1, 3, (fun _ => 0)), (w.heap.size + 1, 12, (fun _ => 0)), (w.heap.size, 12, (fun _ => 0))]) (by intro x hx; simp only [List.mem_cons, List.not_mem_nil, or_false] at hx; rcases hx with rfl | rfl | rfl | rfl | rfl | rfl <;> simp) |>.mono (by omega)⟩
  case rest =>
  clear hD hmass hV V
  obtain ⟨V, hD⟩ := hcut
  have n0x1 : (ab = bb) = False := eq_false (by omega)
  have n0x2 : (ab = hb) = False := eq_false (by omega)
  have n0x3 : (ab = w.heap.size) = False := eq_false (by omega)
  have n0x4 : (ab = w.heap.size + 1) = False := eq_false (by omega)
  have n0x5 : (ab = w.heap.size + 1 + 1) = False := eq_false (by omega)
  have n1x0 : (bb = ab) = False := eq_false (by omega)
  have n1x2 : (bb = hb) = False := eq_false (by omega)
  have n1x3 : (bb = w.heap.size) = False := eq_false (by omega)
  have n1x4 : (bb = w.heap.size + 1) = False := eq_false (by omega)
  have n1x5 : (bb = w.heap.size + 1 + 1) = False := eq_false (by omega)
  have n2x0 : (hb = ab) = False := eq_false (by omega)
  have n2x1 : (hb = bb) = False := eq_false (by omega)
  have n2x3 : (hb = w.heap.size) = False := eq_false (by omega)
  have n2x4 : (hb = w.heap.size + 1) = False := eq_false (by omega)
  have n2x5 : (hb = w.heap.size + 1 + 1) = False := eq_false (by omega)
  have n3x0 : (w.heap.size = ab) = False := eq_false (by omega)
  have n3x1 : (w.heap.size = bb) = False := eq_false (by omega)
  have n3x2 : (w.heap.size = hb) = False := eq_false (by omega)
  have n3x4 : (w.heap.size = w.heap.size + 1) = False := eq_false (by omega)
  have n3x5 : (w.heap.size = w.heap.size + 1 + 1) = False := eq_false (by omega)
  have n4x0 : (w.heap.size + 1 = ab) = False := eq_false (by omega)
  have n4x1 : (w.heap.size + 1 = bb) = False := eq_false (by omega)
  have n4x2 : (w.heap.size + 1 = hb) = False := eq_false (by omega)
  have n4x3 : (w.heap.size + 1 = w.heap.size) = False := eq_false (by omega)
  have n4x5 : (w.heap.size + 1 = w.heap.size + 1 + 1) = False := eq_false (by omega)
  have n5x0 : (w.heap.size + 1 + 1 = ab) = False := eq_false (by omega)
  have n5x1 : (w.heap.size + 1 + 1 = bb) = False := eq_false (by omega)
  have n5x2 : (w.heap.size + 1 + 1 = hb) = False := eq_false (by omega)
  have n5x3 : (w.heap.size + 1 + 1 = w.heap.size) = False := eq_false (by omega)
  have n5x4 : (w.heap.size + 1 + 1 = w.heap.size + 1) = False := eq_false (by omega)
  have gk0 : Al w wc (ab) 12 V := hD.get (x := (ab, 12, V)) (by simp)
  have ckx0c0 := (gk0).2.2.1 0 (by omega)
  have ckx0f0 := (gk0).2.2.2 0 (by omega)
  have ckx0c1 := (gk0).2.2.1 1 (by omega)
  have ckx0f1 := (gk0).2.2.2 1 (by omega)
  have ckx0c2 := (gk0).2.2.1 2 (by omega)
  have ckx0f2 := (gk0).2.2.2 2 (by omega)
  have ckx0c3 := (gk0).2.2.1 3 (by omega)
  have ckx0f3 := (gk0).2.2.2 3 (by omega)
  have ckx0c4 := (gk0).2.2.1 4 (by omega)
  have ckx0f4 := (gk0).2.2.2 4 (by omega)
  have ckx0c5 := (gk0).2.2.1 5 (by omega)
  have ckx0f5 := (gk0).2.2.2 5 (by omega)
  have ckx0c6 := (gk0).2.2.1 6 (by omega)
  have ckx0f6 := (gk0).2.2.2 6 (by omega)
  have ckx0c7 := (gk0).2.2.1 7 (by omega)
  have ckx0f7 := (gk0).2.2.2 7 (by omega)
  have ckx0c8 := (gk0).2.2.1 8 (by omega)
  have ckx0f8 := (gk0).2.2.2 8 (by omega)
  have ckx0c9 := (gk0).2.2.1 9 (by omega)
  have ckx0f9 := (gk0).2.2.2 9 (by omega)
  have ckx0c10 := (gk0).2.2.1 10 (by omega)
  have ckx0f10 := (gk0).2.2.2 10 (by omega)
  have ckx0c11 := (gk0).2.2.1 11 (by omega)
  have ckx0f11 := (gk0).2.2.2 11 (by omega)
  clear gk0
  have gk1 : Al w wc (bb) 12 U := hD.get (x := (bb, 12, U)) (by simp)
  have ckx1c0 := (gk1).2.2.1 0 (by omega)
  have ckx1f0 := (gk1).2.2.2 0 (by omega)
  have ckx1c1 := (gk1).2.2.1 1 (by omega)
  have ckx1f1 := (gk1).2.2.2 1 (by omega)
  have ckx1c2 := (gk1).2.2.1 2 (by omega)
  have ckx1f2 := (gk1).2.2.2 2 (by omega)
  have ckx1c3 := (gk1).2.2.1 3 (by omega)
  have ckx1f3 := (gk1).2.2.2 3 (by omega)
  have ckx1c4 := (gk1).2.2.1 4 (by omega)
  have ckx1f4 := (gk1).2.2.2 4 (by omega)
  have ckx1c5 := (gk1).2.2.1 5 (by omega)
  have ckx1f5 := (gk1).2.2.2 5 (by omega)
  have ckx1c6 := (gk1).2.2.1 6 (by omega)
  have ckx1f6 := (gk1).2.2.2 6 (by omega)
  have ckx1c7 := (gk1).2.2.1 7 (by omega)
  have ckx1f7 := (gk1).2.2.2 7 (by omega)
  have ckx1c8 := (gk1).2.2.1 8 (by omega)
  have ckx1f8 := (gk1).2.2.2 8 (by omega)
  have ckx1c9 := (gk1).2.2.1 9 (by omega)
  have ckx1f9 := (gk1).2.2.2 9 (by omega)
  have ckx1c10 := (gk1).2.2.1 10 (by omega)
  have ckx1f10 := (gk1).2.2.2 10 (by omega)
  have ckx1c11 := (gk1).2.2.1 11 (by omega)
  have ckx1f11 := (gk1).2.2.2 11 (by omega)
  clear gk1
  have gk2 : Al w wc (hb) 3 (fun j => [X, Y, D].getD j 0) := hD.get (x := (hb, 3, (fun j => [X, Y, D].getD j 0))) (by simp)
  have ckx2c0 := (gk2).2.2.1 0 (by omega)
  have ckx2f0 := (gk2).2.2.2 0 (by omega)
  have ckx2c1 := (gk2).2.2.1 1 (by omega)
  have ckx2f1 := (gk2).2.2.2 1 (by omega)
  have ckx2c2 := (gk2).2.2.1 2 (by omega)
  have ckx2f2 := (gk2).2.2.2 2 (by omega)
  clear gk2
  have gk3 : Al w wc (w.heap.size) 12 (fun _ => 0) := hD.get (x := (w.heap.size, 12, (fun _ => 0))) (by simp)
  have ckx3c0 := (gk3).2.2.1 0 (by omega)
  have ckx3f0 := (gk3).2.2.2 0 (by omega)
  have ckx3c1 := (gk3).2.2.1 1 (by omega)
  have ckx3f1 := (gk3).2.2.2 1 (by omega)
  have ckx3c2 := (gk3).2.2.1 2 (by omega)
  have ckx3f2 := (gk3).2.2.2 2 (by omega)
  have ckx3c3 := (gk3).2.2.1 3 (by omega)
  have ckx3f3 := (gk3).2.2.2 3 (by omega)
  have ckx3c4 := (gk3).2.2.1 4 (by omega)
  have ckx3f4 := (gk3).2.2.2 4 (by omega)
  have ckx3c5 := (gk3).2.2.1 5 (by omega)
  have ckx3f5 := (gk3).2.2.2 5 (by omega)
  have ckx3c6 := (gk3).2.2.1 6 (by omega)
  have ckx3f6 := (gk3).2.2.2 6 (by omega)
  have ckx3c7 := (gk3).2.2.1 7 (by omega)
  have ckx3f7 := (gk3).2.2.2 7 (by omega)
  have ckx3c8 := (gk3).2.2.1 8 (by omega)
  have ckx3f8 := (gk3).2.2.2 8 (by omega)
  have ckx3c9 := (gk3).2.2.1 9 (by omega)
  have ckx3f9 := (gk3).2.2.2 9 (by omega)
  have ckx3c10 := (gk3).2.2.1 10 (by omega)
  have ckx3f10 := (gk3).2.2.2 10 (by omega)
  have ckx3c11 := (gk3).2.2.1 11 (by omega)
  have ckx3f11 := (gk3).2.2.2 11 (by omega)
  clear gk3
  go_upto_region 11 with fail
  refine wp_region_held_drew (S := fun w' => w'.cell? ⟨ab, 0, none⟩ = some (.int .i64 (V 0)) ∧ w'.cell? ⟨ab, 1, none⟩ = some (.int .i64 (V 1)) ∧ w'.cell? ⟨ab, 2, none⟩ = some (.int .i64 (V 2)) ∧ w'.cell? ⟨ab, 3, none⟩ = some (.int .i64 (V 3)) ∧ w'.cell? ⟨ab, 4, none⟩ = some (.int .i64 (V 4)) ∧ w'.cell? ⟨ab, 5, none⟩ = some (.int .i64 (V 5)) ∧ w'.cell? ⟨ab, 6, none⟩ = some (.int .i64 (V 6)) ∧ w'.cell? ⟨ab, 7, none⟩ = some (.int .i64 (V 7)) ∧ w'.cell? ⟨ab, 8, none⟩ = some (.int .i64 (V 8)) ∧ w'.cell? ⟨ab, 9, none⟩ = some (.int .i64 (V 9)) ∧ w'.cell? ⟨ab, 10, none⟩ = some (.int .i64 (V 10)) ∧ w'.cell? ⟨ab, 11, none⟩ = some (.int .i64 (V 11)) ∧ w'.cell? ⟨bb, 0, none⟩ = some (.int .i64 (U 0)) ∧ w'.cell? ⟨bb, 1, none⟩ = some (.int .i64 (U 1)) ∧ w'.cell? ⟨bb, 2, none⟩ = some (.int .i64 (U 2)) ∧ w'.cell? ⟨bb, 3, none⟩ = some (.int .i64 (U 3)) ∧ w'.cell? ⟨bb, 4, none⟩ = some (.int .i64 (U 4)) ∧ w'.cell? ⟨bb, 5, none⟩ = some (.int .i64 (U 5)) ∧ w'.cell? ⟨bb, 6, none⟩ = some (.int .i64 (U 6)) ∧ w'.cell? ⟨bb, 7, none⟩ = some (.int .i64 (U 7)) ∧ w'.cell? ⟨bb, 8, none⟩ = some (.int .i64 (U 8)) ∧ w'.cell? ⟨bb, 9, none⟩ = some (.int .i64 (U 9)) ∧ w'.cell? ⟨bb, 10, none⟩ = some (.int .i64 (U 10)) ∧ w'.cell? ⟨bb, 11, none⟩ = some (.int .i64 (U 11)) ∧ w'.cell? ⟨hb, 0, none⟩ = some (.int .i64 X) ∧ w'.cell? ⟨hb, 1, none⟩ = some (.int .i64 Y) ∧ w'.cell? ⟨hb, 2, none⟩ = some (.int .i64 D)) (by kernel_rfl) ?_ (fun hHeld => ?_)
  · (try dsimp only)
    (first | (go_simp; done) | (go_keep; done))
  (refine tk 0 ⟨_, _, _, _, _, _⟩ rfl (by kernel_rfl) (fun _ _ _ h => h) (by rfl) hHeld (by intro w s; (try dsimp only at s); go_simp; (try with_reducible rfl)) ?_; (try simp only [Act.put, List.setIfInBounds_toArray, List.set_cons_zero, List.set_cons_succ]))
  (refine tk 1 ⟨_, _, _, _, _, _⟩ rfl (by kernel_rfl) (fun _ _ _ h => h) (by rfl) hHeld (by intro w s; (try dsimp only at s); go_simp; (try with_reducible rfl)) ?_; (try simp only [Act.put, List.setIfInBounds_toArray, List.set_cons_zero, List.set_cons_succ]))
  (refine tk 2 ⟨_, _, _, _, _, _⟩ rfl (by kernel_rfl) (fun _ _ _ h => h) (by rfl) hHeld (by intro w s; (try dsimp only at s); go_simp; (try with_reducible rfl)) ?_; (try simp only [Act.put, List.setIfInBounds_toArray, List.set_cons_zero, List.set_cons_succ]))
  refine wpAnyH_ready (rs := [3]) (by kernel_rfl) (by simp) ?_
  refine AllReadyH.cons (o := ⟨_, _, _, _, _, _⟩) rfl (fun K hK => ?_) AllReadyH.nil
  go_simp
  have hF3 := (((((((((((((((hD.sub (M := [(w.heap.size, 12, (fun _ => 0)), (hb, 3, (fun j => [X, Y, D].getD j 0)), (bb, 12, U), (ab, 12, V), (w.heap.size + 1 + 1, 3, (fun _ => 0)), (w.heap.size + 1, 12, (fun _ => 0))]) (by intro x hx; simp only [List.mem_cons, List.not_mem_nil, or_false] at hx; rcases hx with rfl | rfl | rfl | rfl | rfl | rfl <;> simp)).set (by intro x hx; simp only [List.mem_cons, List.not_mem_nil, or_false] at hx; rcases hx with rfl | rfl | rfl | rfl | rfl <;> dsimp only <;> omega) 0 (by omega) (V 0)).set (by intro x hx; simp only [List.mem_cons, List.not_mem_nil, or_false] at hx; rcases hx with rfl | rfl | rfl | rfl | rfl <;> dsimp only <;> omega) 1 (by omega) (V 1)).set (by intro x hx; simp only [List.mem_cons, List.not_mem_nil, or_false] at hx; rcases hx with rfl | rfl | rfl | rfl | rfl <;> dsimp only <;> omega) 2 (by omega) (V 2)).set (by intro x hx; simp only [List.mem_cons, List.not_mem_nil, or_false] at hx; rcases hx with rfl | rfl | rfl | rfl | rfl <;> dsimp only <;> omega) 3 (by omega) (V 3)).set (by intro x hx; simp only [List.mem_cons, List.not_mem_nil, or_false] at hx; rcases hx with rfl | rfl | rfl | rfl | rfl <;> dsimp only <;> omega) 4 (by omega) (V 4)).set (by intro x hx; simp only [List.mem_cons, List.not_mem_nil, or_false] at hx; rcases hx with rfl | rfl | rfl | rfl | rfl <;> dsimp only <;> omega) 5 (by omega) (V 5)).set (by intro x hx; simp only [List.mem_cons, List.not_mem_nil, or_false] at hx; rcases hx with rfl | rfl | rfl | rfl | rfl <;> dsimp only <;> omega) 6 (by omega) (V 6)).set (by intro x hx; simp only [List.mem_cons, List.not_mem_nil, or_false] at hx; rcases hx with rfl | rfl | rfl | rfl | rfl <;> dsimp only <;> omega) 7 (by omega) (V 7)).set (by intro x hx; simp only [List.mem_cons, List.not_mem_nil, or_false] at hx; rcases hx with rfl | rfl | rfl | rfl | rfl <;> dsimp only <;> omega) 8 (by omega) (V 8)).set (by intro x hx; simp only [List.mem_cons, List.not_mem_nil, or_false] at hx; rcases hx with rfl | rfl | rfl | rfl | rfl <;> dsimp only <;> omega) 9 (by omega) (V 9)).set (by intro x hx; simp only [List.mem_cons, List.not_mem_nil, or_false] at hx; rcases hx with rfl | rfl | rfl | rfl | rfl <;> dsimp only <;> omega) 10 (by omega) (V 10)).set (by intro x hx; simp only [List.mem_cons, List.not_mem_nil, or_false] at hx; rcases hx with rfl | rfl | rfl | rfl | rfl <;> dsimp only <;> omega) 11 (by omega) (V 11)).headc (U := V) (by intro i hi; rcases (show i = 0 ∨ i = 1 ∨ i = 2 ∨ i = 3 ∨ i = 4 ∨ i = 5 ∨ i = 6 ∨ i = 7 ∨ i = 8 ∨ i = 9 ∨ i = 10 ∨ i = 11 by omega) with rfl | rfl | rfl | rfl | rfl | rfl | rfl | rfl | rfl | rfl | rfl | rfl <;> rfl))).drew
  generalize ((((((((((((wc.setCell ⟨w.heap.size, 0, none⟩ (.int .i64 (V 0))).setCell ⟨w.heap.size, 1, none⟩ (.int .i64 (V 1))).setCell ⟨w.heap.size, 2, none⟩ (.int .i64 (V 2))).setCell ⟨w.heap.size, 3, none⟩ (.int .i64 (V 3))).setCell ⟨w.heap.size, 4, none⟩ (.int .i64 (V 4))).setCell ⟨w.heap.size, 5, none⟩ (.int .i64 (V 5))).setCell ⟨w.heap.size, 6, none⟩ (.int .i64 (V 6))).setCell ⟨w.heap.size, 7, none⟩ (.int .i64 (V 7))).setCell ⟨w.heap.size, 8, none⟩ (.int .i64 (V 8))).setCell ⟨w.heap.size, 9, none⟩ (.int .i64 (V 9))).setCell ⟨w.heap.size, 10, none⟩ (.int .i64 (V 10))).setCell ⟨w.heap.size, 11, none⟩ (.int .i64 (V 11))).drew = y3 at hF3 ⊢
  have gt30 : Al w y3 (ab) 12 V := hF3.get (x := (ab, 12, V)) (by simp)
  have ct3x0c0 := (gt30).2.2.1 0 (by omega)
  have ct3x0f0 := (gt30).2.2.2 0 (by omega)
  have ct3x0c1 := (gt30).2.2.1 1 (by omega)
  have ct3x0f1 := (gt30).2.2.2 1 (by omega)
  have ct3x0c2 := (gt30).2.2.1 2 (by omega)
  have ct3x0f2 := (gt30).2.2.2 2 (by omega)
  have ct3x0c3 := (gt30).2.2.1 3 (by omega)
  have ct3x0f3 := (gt30).2.2.2 3 (by omega)
  have ct3x0c4 := (gt30).2.2.1 4 (by omega)
  have ct3x0f4 := (gt30).2.2.2 4 (by omega)
  have ct3x0c5 := (gt30).2.2.1 5 (by omega)
  have ct3x0f5 := (gt30).2.2.2 5 (by omega)
  have ct3x0c6 := (gt30).2.2.1 6 (by omega)
  have ct3x0f6 := (gt30).2.2.2 6 (by omega)
  have ct3x0c7 := (gt30).2.2.1 7 (by omega)
  have ct3x0f7 := (gt30).2.2.2 7 (by omega)
  have ct3x0c8 := (gt30).2.2.1 8 (by omega)
  have ct3x0f8 := (gt30).2.2.2 8 (by omega)
  have ct3x0c9 := (gt30).2.2.1 9 (by omega)
  have ct3x0f9 := (gt30).2.2.2 9 (by omega)
  have ct3x0c10 := (gt30).2.2.1 10 (by omega)
  have ct3x0f10 := (gt30).2.2.2 10 (by omega)
  have ct3x0c11 := (gt30).2.2.1 11 (by omega)
  have ct3x0f11 := (gt30).2.2.2 11 (by omega)
  clear gt30
  have gt31 : Al w y3 (bb) 12 U := hF3.get (x := (bb, 12, U)) (by simp)
  have ct3x1c0 := (gt31).2.2.1 0 (by omega)
  have ct3x1f0 := (gt31).2.2.2 0 (by omega)
  have ct3x1c1 := (gt31).2.2.1 1 (by omega)
  have ct3x1f1 := (gt31).2.2.2 1 (by omega)
  have ct3x1c2 := (gt31).2.2.1 2 (by omega)
  have ct3x1f2 := (gt31).2.2.2 2 (by omega)
  have ct3x1c3 := (gt31).2.2.1 3 (by omega)
  have ct3x1f3 := (gt31).2.2.2 3 (by omega)
  have ct3x1c4 := (gt31).2.2.1 4 (by omega)
  have ct3x1f4 := (gt31).2.2.2 4 (by omega)
  have ct3x1c5 := (gt31).2.2.1 5 (by omega)
  have ct3x1f5 := (gt31).2.2.2 5 (by omega)
  have ct3x1c6 := (gt31).2.2.1 6 (by omega)
  have ct3x1f6 := (gt31).2.2.2 6 (by omega)
  have ct3x1c7 := (gt31).2.2.1 7 (by omega)
  have ct3x1f7 := (gt31).2.2.2 7 (by omega)
  have ct3x1c8 := (gt31).2.2.1 8 (by omega)
  have ct3x1f8 := (gt31).2.2.2 8 (by omega)
  have ct3x1c9 := (gt31).2.2.1 9 (by omega)
  have ct3x1f9 := (gt31).2.2.2 9 (by omega)
  have ct3x1c10 := (gt31).2.2.1 10 (by omega)
  have ct3x1f10 := (gt31).2.2.2 10 (by omega)
  have ct3x1c11 := (gt31).2.2.1 11 (by omega)
  have ct3x1f11 := (gt31).2.2.2 11 (by omega)
  clear gt31
  have gt32 : Al w y3 (hb) 3 (fun j => [X, Y, D].getD j 0) := hF3.get (x := (hb, 3, (fun j => [X, Y, D].getD j 0))) (by simp)
  have ct3x2c0 := (gt32).2.2.1 0 (by omega)
  have ct3x2f0 := (gt32).2.2.2 0 (by omega)
  have ct3x2c1 := (gt32).2.2.1 1 (by omega)
  have ct3x2f1 := (gt32).2.2.2 1 (by omega)
  have ct3x2c2 := (gt32).2.2.1 2 (by omega)
  have ct3x2f2 := (gt32).2.2.2 2 (by omega)
  clear gt32
  have gt33 : Al w y3 (w.heap.size + 1) 12 (fun _ => 0) := hF3.get (x := (w.heap.size + 1, 12, (fun _ => 0))) (by simp)
  have ct3x3c0 := (gt33).2.2.1 0 (by omega)
  have ct3x3f0 := (gt33).2.2.2 0 (by omega)
  have ct3x3c1 := (gt33).2.2.1 1 (by omega)
  have ct3x3f1 := (gt33).2.2.2 1 (by omega)
  have ct3x3c2 := (gt33).2.2.1 2 (by omega)
  have ct3x3f2 := (gt33).2.2.2 2 (by omega)
  have ct3x3c3 := (gt33).2.2.1 3 (by omega)
  have ct3x3f3 := (gt33).2.2.2 3 (by omega)
  have ct3x3c4 := (gt33).2.2.1 4 (by omega)
  have ct3x3f4 := (gt33).2.2.2 4 (by omega)
  have ct3x3c5 := (gt33).2.2.1 5 (by omega)
  have ct3x3f5 := (gt33).2.2.2 5 (by omega)
  have ct3x3c6 := (gt33).2.2.1 6 (by omega)
  have ct3x3f6 := (gt33).2.2.2 6 (by omega)
  have ct3x3c7 := (gt33).2.2.1 7 (by omega)
  have ct3x3f7 := (gt33).2.2.2 7 (by omega)
  have ct3x3c8 := (gt33).2.2.1 8 (by omega)
  have ct3x3f8 := (gt33).2.2.2 8 (by omega)
  have ct3x3c9 := (gt33).2.2.1 9 (by omega)
  have ct3x3f9 := (gt33).2.2.2 9 (by omega)
  have ct3x3c10 := (gt33).2.2.1 10 (by omega)
  have ct3x3f10 := (gt33).2.2.2 10 (by omega)
  have ct3x3c11 := (gt33).2.2.1 11 (by omega)
  have ct3x3f11 := (gt33).2.2.2 11 (by omega)
  clear gt33
  refine hK.out _ _ ?_ (fun hHeld => ?_)
  · (try dsimp only)
    (first | (go_simp; done) | (go_keep; done))
  clear hK K
  (try simp only [Act.put, List.setIfInBounds_toArray, List.set_cons_zero, List.set_cons_succ])
  refine wpAnyH_ready (rs := [4]) (by kernel_rfl) (by simp) ?_
  refine AllReadyH.cons (o := ⟨_, _, _, _, _, _⟩) rfl (fun K hK => ?_) AllReadyH.nil
  go_simp
  have hF4 := (((((((((((((((hF3.sub (M := [(w.heap.size + 1, 12, (fun _ => 0)), (w.heap.size, 12, V), (hb, 3, (fun j => [X, Y, D].getD j 0)), (bb, 12, U), (ab, 12, V), (w.heap.size + 1 + 1, 3, (fun _ => 0))]) (by intro x hx; simp only [List.mem_cons, List.not_mem_nil, or_false] at hx; rcases hx with rfl | rfl | rfl | rfl | rfl | rfl <;> simp)).set (by intro x hx; simp only [List.mem_cons, List.not_mem_nil, or_false] at hx; rcases hx with rfl | rfl | rfl | rfl | rfl <;> dsimp only <;> omega) 0 (by omega) (U 0)).set (by intro x hx; simp only [List.mem_cons, List.not_mem_nil, or_false] at hx; rcases hx with rfl | rfl | rfl | rfl | rfl <;> dsimp only <;> omega) 1 (by omega) (U 1)).set (by intro x hx; simp only [List.mem_cons, List.not_mem_nil, or_false] at hx; rcases hx with rfl | rfl | rfl | rfl | rfl <;> dsimp only <;> omega) 2 (by omega) (U 2)).set (by intro x hx; simp only [List.mem_cons, List.not_mem_nil, or_false] at hx; rcases hx with rfl | rfl | rfl | rfl | rfl <;> dsimp only <;> omega) 3 (by omega) (U 3)).set (by intro x hx; simp only [List.mem_cons, List.not_mem_nil, or_false] at hx; rcases hx with rfl | rfl | rfl | rfl | rfl <;> dsimp only <;> omega) 4 (by omega) (U 4)).set (by intro x hx; simp only [List.mem_cons, List.not_mem_nil, or_false] at hx; rcases hx with rfl | rfl | rfl | rfl | rfl <;> dsimp only <;> omega) 5 (by omega) (U 5)).set (by intro x hx; simp only [List.mem_cons, List.not_mem_nil, or_false] at hx; rcases hx with rfl | rfl | rfl | rfl | rfl <;> dsimp only <;> omega) 6 (by omega) (U 6)).set (by intro x hx; simp only [List.mem_cons, List.not_mem_nil, or_false] at hx; rcases hx with rfl | rfl | rfl | rfl | rfl <;> dsimp only <;> omega) 7 (by omega) (U 7)).set (by intro x hx; simp only [List.mem_cons, List.not_mem_nil, or_false] at hx; rcases hx with rfl | rfl | rfl | rfl | rfl <;> dsimp only <;> omega) 8 (by omega) (U 8)).set (by intro x hx; simp only [List.mem_cons, List.not_mem_nil, or_false] at hx; rcases hx with rfl | rfl | rfl | rfl | rfl <;> dsimp only <;> omega) 9 (by omega) (U 9)).set (by intro x hx; simp only [List.mem_cons, List.not_mem_nil, or_false] at hx; rcases hx with rfl | rfl | rfl | rfl | rfl <;> dsimp only <;> omega) 10 (by omega) (U 10)).set (by intro x hx; simp only [List.mem_cons, List.not_mem_nil, or_false] at hx; rcases hx with rfl | rfl | rfl | rfl | rfl <;> dsimp only <;> omega) 11 (by omega) (U 11)).headc (U := U) (by intro i hi; rcases (show i = 0 ∨ i = 1 ∨ i = 2 ∨ i = 3 ∨ i = 4 ∨ i = 5 ∨ i = 6 ∨ i = 7 ∨ i = 8 ∨ i = 9 ∨ i = 10 ∨ i = 11 by omega) with rfl | rfl | rfl | rfl | rfl | rfl | rfl | rfl | rfl | rfl | rfl | rfl <;> rfl)))
  generalize ((((((((((((y3.setCell ⟨w.heap.size + 1, 0, none⟩ (.int .i64 (U 0))).setCell ⟨w.heap.size + 1, 1, none⟩ (.int .i64 (U 1))).setCell ⟨w.heap.size + 1, 2, none⟩ (.int .i64 (U 2))).setCell ⟨w.heap.size + 1, 3, none⟩ (.int .i64 (U 3))).setCell ⟨w.heap.size + 1, 4, none⟩ (.int .i64 (U 4))).setCell ⟨w.heap.size + 1, 5, none⟩ (.int .i64 (U 5))).setCell ⟨w.heap.size + 1, 6, none⟩ (.int .i64 (U 6))).setCell ⟨w.heap.size + 1, 7, none⟩ (.int .i64 (U 7))).setCell ⟨w.heap.size + 1, 8, none⟩ (.int .i64 (U 8))).setCell ⟨w.heap.size + 1, 9, none⟩ (.int .i64 (U 9))).setCell ⟨w.heap.size + 1, 10, none⟩ (.int .i64 (U 10))).setCell ⟨w.heap.size + 1, 11, none⟩ (.int .i64 (U 11))) = y4 at hF4 ⊢
  have gt40 : Al w y4 (ab) 12 V := hF4.get (x := (ab, 12, V)) (by simp)
  have ct4x0c0 := (gt40).2.2.1 0 (by omega)
  have ct4x0f0 := (gt40).2.2.2 0 (by omega)
  have ct4x0c1 := (gt40).2.2.1 1 (by omega)
  have ct4x0f1 := (gt40).2.2.2 1 (by omega)
  have ct4x0c2 := (gt40).2.2.1 2 (by omega)
  have ct4x0f2 := (gt40).2.2.2 2 (by omega)
  have ct4x0c3 := (gt40).2.2.1 3 (by omega)
  have ct4x0f3 := (gt40).2.2.2 3 (by omega)
  have ct4x0c4 := (gt40).2.2.1 4 (by omega)
  have ct4x0f4 := (gt40).2.2.2 4 (by omega)
  have ct4x0c5 := (gt40).2.2.1 5 (by omega)
  have ct4x0f5 := (gt40).2.2.2 5 (by omega)
  have ct4x0c6 := (gt40).2.2.1 6 (by omega)
  have ct4x0f6 := (gt40).2.2.2 6 (by omega)
  have ct4x0c7 := (gt40).2.2.1 7 (by omega)
  have ct4x0f7 := (gt40).2.2.2 7 (by omega)
  have ct4x0c8 := (gt40).2.2.1 8 (by omega)
  have ct4x0f8 := (gt40).2.2.2 8 (by omega)
  have ct4x0c9 := (gt40).2.2.1 9 (by omega)
  have ct4x0f9 := (gt40).2.2.2 9 (by omega)
  have ct4x0c10 := (gt40).2.2.1 10 (by omega)
  have ct4x0f10 := (gt40).2.2.2 10 (by omega)
  have ct4x0c11 := (gt40).2.2.1 11 (by omega)
  have ct4x0f11 := (gt40).2.2.2 11 (by omega)
  clear gt40
  have gt41 : Al w y4 (bb) 12 U := hF4.get (x := (bb, 12, U)) (by simp)
  have ct4x1c0 := (gt41).2.2.1 0 (by omega)
  have ct4x1f0 := (gt41).2.2.2 0 (by omega)
  have ct4x1c1 := (gt41).2.2.1 1 (by omega)
  have ct4x1f1 := (gt41).2.2.2 1 (by omega)
  have ct4x1c2 := (gt41).2.2.1 2 (by omega)
  have ct4x1f2 := (gt41).2.2.2 2 (by omega)
  have ct4x1c3 := (gt41).2.2.1 3 (by omega)
  have ct4x1f3 := (gt41).2.2.2 3 (by omega)
  have ct4x1c4 := (gt41).2.2.1 4 (by omega)
  have ct4x1f4 := (gt41).2.2.2 4 (by omega)
  have ct4x1c5 := (gt41).2.2.1 5 (by omega)
  have ct4x1f5 := (gt41).2.2.2 5 (by omega)
  have ct4x1c6 := (gt41).2.2.1 6 (by omega)
  have ct4x1f6 := (gt41).2.2.2 6 (by omega)
  have ct4x1c7 := (gt41).2.2.1 7 (by omega)
  have ct4x1f7 := (gt41).2.2.2 7 (by omega)
  have ct4x1c8 := (gt41).2.2.1 8 (by omega)
  have ct4x1f8 := (gt41).2.2.2 8 (by omega)
  have ct4x1c9 := (gt41).2.2.1 9 (by omega)
  have ct4x1f9 := (gt41).2.2.2 9 (by omega)
  have ct4x1c10 := (gt41).2.2.1 10 (by omega)
  have ct4x1f10 := (gt41).2.2.2 10 (by omega)
  have ct4x1c11 := (gt41).2.2.1 11 (by omega)
  have ct4x1f11 := (gt41).2.2.2 11 (by omega)
  clear gt41
  have gt42 : Al w y4 (hb) 3 (fun j => [X, Y, D].getD j 0) := hF4.get (x := (hb, 3, (fun j => [X, Y, D].getD j 0))) (by simp)
  have ct4x2c0 := (gt42).2.2.1 0 (by omega)
  have ct4x2f0 := (gt42).2.2.2 0 (by omega)
  have ct4x2c1 := (gt42).2.2.1 1 (by omega)
  have ct4x2f1 := (gt42).2.2.2 1 (by omega)
  have ct4x2c2 := (gt42).2.2.1 2 (by omega)
  have ct4x2f2 := (gt42).2.2.2 2 (by omega)
  clear gt42
  have gt43 : Al w y4 (w.heap.size + 1 + 1) 3 (fun _ => 0) := hF4.get (x := (w.heap.size + 1 + 1, 3, (fun _ => 0))) (by simp)
  have ct4x3c0 := (gt43).2.2.1 0 (by omega)
  have ct4x3f0 := (gt43).2.2.2 0 (by omega)
  have ct4x3c1 := (gt43).2.2.1 1 (by omega)
  have ct4x3f1 := (gt43).2.2.2 1 (by omega)
  have ct4x3c2 := (gt43).2.2.1 2 (by omega)
  have ct4x3f2 := (gt43).2.2.2 2 (by omega)
  clear gt43
  refine hK.out _ _ ?_ (fun hHeld => ?_)
  · (try dsimp only)
    (first | (go_simp; done) | (go_keep; done))
  clear hK K
  (try simp only [Act.put, List.setIfInBounds_toArray, List.set_cons_zero, List.set_cons_succ])
  refine wpAnyH_ready (rs := [5]) (by kernel_rfl) (by simp) ?_
  refine AllReadyH.cons (o := ⟨_, _, _, _, _, _⟩) rfl (fun K hK => ?_) AllReadyH.nil
  go_simp
  have hF5 := ((((((hF4.sub (M := [(w.heap.size + 1 + 1, 3, (fun _ => 0)), (w.heap.size + 1, 12, U), (w.heap.size, 12, V), (hb, 3, (fun j => [X, Y, D].getD j 0)), (bb, 12, U), (ab, 12, V)]) (by intro x hx; simp only [List.mem_cons, List.not_mem_nil, or_false] at hx; rcases hx with rfl | rfl | rfl | rfl | rfl | rfl <;> simp)).set (by intro x hx; simp only [List.mem_cons, List.not_mem_nil, or_false] at hx; rcases hx with rfl | rfl | rfl | rfl | rfl <;> dsimp only <;> omega) 0 (by omega) X).set (by intro x hx; simp only [List.mem_cons, List.not_mem_nil, or_false] at hx; rcases hx with rfl | rfl | rfl | rfl | rfl <;> dsimp only <;> omega) 1 (by omega) Y).set (by intro x hx; simp only [List.mem_cons, List.not_mem_nil, or_false] at hx; rcases hx with rfl | rfl | rfl | rfl | rfl <;> dsimp only <;> omega) 2 (by omega) D).headc (U := (fun j => [X, Y, D].getD j 0)) (by intro i hi; rcases (show i = 0 ∨ i = 1 ∨ i = 2 by omega) with rfl | rfl | rfl <;> rfl)))
  generalize (((y4.setCell ⟨w.heap.size + 1 + 1, 0, none⟩ (.int .i64 X)).setCell ⟨w.heap.size + 1 + 1, 1, none⟩ (.int .i64 Y)).setCell ⟨w.heap.size + 1 + 1, 2, none⟩ (.int .i64 D)) = y5 at hF5 ⊢
  have gt50 : Al w y5 (ab) 12 V := hF5.get (x := (ab, 12, V)) (by simp)
  have ct5x0c0 := (gt50).2.2.1 0 (by omega)
  have ct5x0f0 := (gt50).2.2.2 0 (by omega)
  have ct5x0c1 := (gt50).2.2.1 1 (by omega)
  have ct5x0f1 := (gt50).2.2.2 1 (by omega)
  have ct5x0c2 := (gt50).2.2.1 2 (by omega)
  have ct5x0f2 := (gt50).2.2.2 2 (by omega)
  have ct5x0c3 := (gt50).2.2.1 3 (by omega)
  have ct5x0f3 := (gt50).2.2.2 3 (by omega)
  have ct5x0c4 := (gt50).2.2.1 4 (by omega)
  have ct5x0f4 := (gt50).2.2.2 4 (by omega)
  have ct5x0c5 := (gt50).2.2.1 5 (by omega)
  have ct5x0f5 := (gt50).2.2.2 5 (by omega)
  have ct5x0c6 := (gt50).2.2.1 6 (by omega)
  have ct5x0f6 := (gt50).2.2.2 6 (by omega)
  have ct5x0c7 := (gt50).2.2.1 7 (by omega)
  have ct5x0f7 := (gt50).2.2.2 7 (by omega)
  have ct5x0c8 := (gt50).2.2.1 8 (by omega)
  have ct5x0f8 := (gt50).2.2.2 8 (by omega)
  have ct5x0c9 := (gt50).2.2.1 9 (by omega)
  have ct5x0f9 := (gt50).2.2.2 9 (by omega)
  have ct5x0c10 := (gt50).2.2.1 10 (by omega)
  have ct5x0f10 := (gt50).2.2.2 10 (by omega)
  have ct5x0c11 := (gt50).2.2.1 11 (by omega)
  have ct5x0f11 := (gt50).2.2.2 11 (by omega)
  clear gt50
  have gt51 : Al w y5 (bb) 12 U := hF5.get (x := (bb, 12, U)) (by simp)
  have ct5x1c0 := (gt51).2.2.1 0 (by omega)
  have ct5x1f0 := (gt51).2.2.2 0 (by omega)
  have ct5x1c1 := (gt51).2.2.1 1 (by omega)
  have ct5x1f1 := (gt51).2.2.2 1 (by omega)
  have ct5x1c2 := (gt51).2.2.1 2 (by omega)
  have ct5x1f2 := (gt51).2.2.2 2 (by omega)
  have ct5x1c3 := (gt51).2.2.1 3 (by omega)
  have ct5x1f3 := (gt51).2.2.2 3 (by omega)
  have ct5x1c4 := (gt51).2.2.1 4 (by omega)
  have ct5x1f4 := (gt51).2.2.2 4 (by omega)
  have ct5x1c5 := (gt51).2.2.1 5 (by omega)
  have ct5x1f5 := (gt51).2.2.2 5 (by omega)
  have ct5x1c6 := (gt51).2.2.1 6 (by omega)
  have ct5x1f6 := (gt51).2.2.2 6 (by omega)
  have ct5x1c7 := (gt51).2.2.1 7 (by omega)
  have ct5x1f7 := (gt51).2.2.2 7 (by omega)
  have ct5x1c8 := (gt51).2.2.1 8 (by omega)
  have ct5x1f8 := (gt51).2.2.2 8 (by omega)
  have ct5x1c9 := (gt51).2.2.1 9 (by omega)
  have ct5x1f9 := (gt51).2.2.2 9 (by omega)
  have ct5x1c10 := (gt51).2.2.1 10 (by omega)
  have ct5x1f10 := (gt51).2.2.2 10 (by omega)
  have ct5x1c11 := (gt51).2.2.1 11 (by omega)
  have ct5x1f11 := (gt51).2.2.2 11 (by omega)
  clear gt51
  have gt52 : Al w y5 (hb) 3 (fun j => [X, Y, D].getD j 0) := hF5.get (x := (hb, 3, (fun j => [X, Y, D].getD j 0))) (by simp)
  have ct5x2c0 := (gt52).2.2.1 0 (by omega)
  have ct5x2f0 := (gt52).2.2.2 0 (by omega)
  have ct5x2c1 := (gt52).2.2.1 1 (by omega)
  have ct5x2f1 := (gt52).2.2.2 1 (by omega)
  have ct5x2c2 := (gt52).2.2.1 2 (by omega)
  have ct5x2f2 := (gt52).2.2.2 2 (by omega)
  clear gt52
  have gt53 : Al w y5 (w.heap.size) 12 V := hF5.get (x := (w.heap.size, 12, V)) (by simp)
  have ct5x3c0 := (gt53).2.2.1 0 (by omega)
  have ct5x3f0 := (gt53).2.2.2 0 (by omega)
  have ct5x3c1 := (gt53).2.2.1 1 (by omega)
  have ct5x3f1 := (gt53).2.2.2 1 (by omega)
  have ct5x3c2 := (gt53).2.2.1 2 (by omega)
  have ct5x3f2 := (gt53).2.2.2 2 (by omega)
  have ct5x3c3 := (gt53).2.2.1 3 (by omega)
  have ct5x3f3 := (gt53).2.2.2 3 (by omega)
  have ct5x3c4 := (gt53).2.2.1 4 (by omega)
  have ct5x3f4 := (gt53).2.2.2 4 (by omega)
  have ct5x3c5 := (gt53).2.2.1 5 (by omega)
  have ct5x3f5 := (gt53).2.2.2 5 (by omega)
  have ct5x3c6 := (gt53).2.2.1 6 (by omega)
  have ct5x3f6 := (gt53).2.2.2 6 (by omega)
  have ct5x3c7 := (gt53).2.2.1 7 (by omega)
  have ct5x3f7 := (gt53).2.2.2 7 (by omega)
  have ct5x3c8 := (gt53).2.2.1 8 (by omega)
  have ct5x3f8 := (gt53).2.2.2 8 (by omega)
  have ct5x3c9 := (gt53).2.2.1 9 (by omega)
  have ct5x3f9 := (gt53).2.2.2 9 (by omega)
  have ct5x3c10 := (gt53).2.2.1 10 (by omega)
  have ct5x3f10 := (gt53).2.2.2 10 (by omega)
  have ct5x3c11 := (gt53).2.2.1 11 (by omega)
  have ct5x3f11 := (gt53).2.2.2 11 (by omega)
  clear gt53
  have gt54 : Al w y5 (w.heap.size + 1) 12 U := hF5.get (x := (w.heap.size + 1, 12, U)) (by simp)
  have ct5x4c0 := (gt54).2.2.1 0 (by omega)
  have ct5x4f0 := (gt54).2.2.2 0 (by omega)
  have ct5x4c1 := (gt54).2.2.1 1 (by omega)
  have ct5x4f1 := (gt54).2.2.2 1 (by omega)
  have ct5x4c2 := (gt54).2.2.1 2 (by omega)
  have ct5x4f2 := (gt54).2.2.2 2 (by omega)
  have ct5x4c3 := (gt54).2.2.1 3 (by omega)
  have ct5x4f3 := (gt54).2.2.2 3 (by omega)
  have ct5x4c4 := (gt54).2.2.1 4 (by omega)
  have ct5x4f4 := (gt54).2.2.2 4 (by omega)
  have ct5x4c5 := (gt54).2.2.1 5 (by omega)
  have ct5x4f5 := (gt54).2.2.2 5 (by omega)
  have ct5x4c6 := (gt54).2.2.1 6 (by omega)
  have ct5x4f6 := (gt54).2.2.2 6 (by omega)
  have ct5x4c7 := (gt54).2.2.1 7 (by omega)
  have ct5x4f7 := (gt54).2.2.2 7 (by omega)
  have ct5x4c8 := (gt54).2.2.1 8 (by omega)
  have ct5x4f8 := (gt54).2.2.2 8 (by omega)
  have ct5x4c9 := (gt54).2.2.1 9 (by omega)
  have ct5x4f9 := (gt54).2.2.2 9 (by omega)
  have ct5x4c10 := (gt54).2.2.1 10 (by omega)
  have ct5x4f10 := (gt54).2.2.2 10 (by omega)
  have ct5x4c11 := (gt54).2.2.1 11 (by omega)
  have ct5x4f11 := (gt54).2.2.2 11 (by omega)
  clear gt54
  have gt55 : Al w y5 (w.heap.size + 1 + 1) 3 (fun j => [X, Y, D].getD j 0) := hF5.get (x := (w.heap.size + 1 + 1, 3, (fun j => [X, Y, D].getD j 0))) (by simp)
  have ct5x5c0 := (gt55).2.2.1 0 (by omega)
  have ct5x5f0 := (gt55).2.2.2 0 (by omega)
  have ct5x5c1 := (gt55).2.2.1 1 (by omega)
  have ct5x5f1 := (gt55).2.2.2 1 (by omega)
  have ct5x5c2 := (gt55).2.2.1 2 (by omega)
  have ct5x5f2 := (gt55).2.2.2 2 (by omega)
  clear gt55
  refine hK.out _ _ ?_ (fun hHeld => ?_)
  · (try dsimp only)
    (first | (go_simp; done) | (go_keep; done))
  clear hK K
  (try simp only [Act.put, List.setIfInBounds_toArray, List.set_cons_zero, List.set_cons_succ])
  refine wpAnyH_done (by kernel_rfl) ?_ _
  go_wp2_with fail
  exact bodyPost_ret (v := .tuple #[bodyW V, bodyW U, s3 X Y D]) (by simp [results, Try.results15, go_sem, *]) rfl ⟨V, U, X, Y, D, rfl, hXY, hF5.done⟩
end Go.Proofs.Ytpgoicdblbpcaaa
