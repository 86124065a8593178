/- The draw of a box. -/
import Derived.Test.YtbngdlbecdloiaaB22
import Derived.Test.YtbngdlbecdloiaaB4
import Derived.Deep.RegionHeld3
import Derived.Deep.DeepCutAuto
set_option maxHeartbeats 16000000
set_option maxRecDepth 20000
namespace Go.Proofs.Ytbngdlbecdloiaa
open Go.RowKit
set_option linter.unusedVariables false
set_option linter.unusedSimpArgs false
/-- a number of a box that was drawn -/
def Bp (x : Int) : Prop := -20000 ≤ x ∧ x ≤ 20000
theorem Bp.mk {x : Int} (h : -20000 ≤ x ∧ x ≤ 20000) : Bp x := h
def f014 : Nat → Int := fun j => [0, 1, 4].getD j 0
theorem BL.n3 {w ws : World} {rb p : Nat} {L : Bls} (h : BL w ws rb p L) : BL w (ws.alloc (.cells #[.int .i64 0, .int .i64 1, .int .i64 4] 3)) rb p ((ws.heap.size, 3, f014) :: L) :=
  h.new _ 3 f014 rfl (by intro i hi; rcases (show i = 0 ∨ i = 1 ∨ i = 2 by omega) with rfl | rfl | rfl <;> rfl)
set_option maxHeartbeats 400000 in
theorem one3 {w ws : World} {rb p b : Nat} {L : Bls} (h : BL w ws rb p L) (hm : (b, 3, f014) ∈ L) (hp : p ≤ 999000) :
    Calls Try.prog 35 #[.pointer (some ⟨rb, 0, none⟩), .slice (some ⟨b, 0, none⟩) 3 3] ws fun e w' => ∃ v : Int, e = .returned (.int .i64 v) ∧ 0 ≤ v ∧ v ≤ 4 ∧ BL w w' rb (p + 1) L := by
  have ha := h.get hm
  have hlo := h.lo
  have h1 : w.heap.size ≤ b := ha.1
  refine (one_g 0 4 rb p b 3 3 [0, 1, 4] _ h.rs hp (by simp) rfl (by omega) (by omega) (by omega) (fun i hi => ha.2.2.1 i hi)).mono ?_
  rintro e w' ⟨v, rfl, h0, h4, hr⟩
  exact ⟨v, rfl, h0, h4, h.call hr⟩
theorem pick3 {w ws : World} {rb p : Nat} {L : Bls} (h : BL w ws rb p L) (hp : p ≤ 999000) :
    Calls Try.prog 36 #[.pointer (some ⟨rb, 0, none⟩), .int .i64 256] ws fun e w' => ∃ v : Int, e = .returned (.int .i64 v) ∧ 0 ≤ v ∧ v ≤ 255 ∧ BL w w' rb (p + 1) L := by
  refine (pick_s rb p 256 _ h.rs hp (by omega) (by omega)).mono ?_
  rintro e w' ⟨v, rfl, h0, h4, hr⟩
  exact ⟨v, rfl, h0, by omega, h.call hr⟩
/-- the reader, the place and the result's block while a box is drawn -/
theorem ml14 {a b : Int} (h0 : 0 ≤ a) (h1 : a ≤ 255) (k0 : 0 ≤ b) (k1 : b ≤ 4) : (0 ≤ a * b ∧ a * b ≤ 1020) ∧ IntKind.i64.wrap (a * b) = a * b := by
  have q0 := Int.mul_nonneg h0 k0
  have q1 : a * b ≤ 255 * 4 := Int.mul_le_mul h1 k1 k0 (by omega)
  exact ⟨⟨q0, by omega⟩, i64w (by omega)⟩
theorem abf {w wz : World} {rb p ab : Nat} {x y : Int} {L : Bls} (h : BL w wz rb p L) (hm : (ab, 2, (fun j => [x, y].getD j 0)) ∈ L) : wz.cell? ⟨ab, 0, none⟩ = some (.int .i64 x) ∧ wz.cell? ⟨ab, 1, none⟩ = some (.int .i64 y) :=
  ⟨(h.get hm).2.2.1 0 (show 0 < 2 by decide), (h.get hm).2.2.1 1 (show 1 < 2 by decide)⟩
theorem rsf {w wz : World} {rb p : Nat} {L : Bls} (h : BL w wz rb p L) (hr : (w.heap.size, 4, (fun _ => 0)) ∈ L) : (wz.cell? ⟨w.heap.size, 0, none⟩ = some (.int .i64 0) ∧ wz.cell? ⟨w.heap.size, 1, none⟩ = some (.int .i64 0) ∧ wz.cell? ⟨w.heap.size, 2, none⟩ = some (.int .i64 0) ∧ wz.cell? ⟨w.heap.size, 3, none⟩ = some (.int .i64 0)) ∧ wz.frozen? ⟨w.heap.size, 0, none⟩ = false ∧ wz.frozen? ⟨w.heap.size, 1, none⟩ = false ∧ wz.frozen? ⟨w.heap.size, 2, none⟩ = false ∧ wz.frozen? ⟨w.heap.size, 3, none⟩ = false :=
  have k := (h.get hr).2.2
  ⟨⟨k.1 0 (show 0 < 4 by decide), k.1 1 (show 1 < 4 by decide), k.1 2 (show 2 < 4 by decide), k.1 3 (show 3 < 4 by decide)⟩, k.2 0 (show 0 < 4 by decide), k.2 1 (show 1 < 4 by decide), k.2 2 (show 2 < 4 by decide), k.2 3 (show 3 < 4 by decide)⟩
theorem box_fin {w wz : World} {rb p p1 ab : Nat} {x y : Int} {L : Bls} (h : BL w wz rb p L) (hm : (ab, 2, (fun j => [x, y].getD j 0)) ∈ L) (hr : (w.heap.size, 4, (fun _ => 0)) ∈ L) (hab : w.heap.size < ab) (hp : p ≤ p1) (X Y : Int) :
    RB w ((((wz.setCell ⟨w.heap.size, 0, none⟩ (.int .i64 x)).setCell ⟨w.heap.size, 1, none⟩ (.int .i64 y)).setCell ⟨w.heap.size, 2, none⟩ (.int .i64 X)).setCell ⟨w.heap.size, 3, none⟩ (.int .i64 Y)) rb p1 ∧ ((((wz.setCell ⟨w.heap.size, 0, none⟩ (.int .i64 x)).setCell ⟨w.heap.size, 1, none⟩ (.int .i64 y)).setCell ⟨w.heap.size, 2, none⟩ (.int .i64 X)).setCell ⟨w.heap.size, 3, none⟩ (.int .i64 Y)).cell? ⟨w.heap.size, 0, none⟩ = some (.int .i64 x) ∧ ((((wz.setCell ⟨w.heap.size, 0, none⟩ (.int .i64 x)).setCell ⟨w.heap.size, 1, none⟩ (.int .i64 y)).setCell ⟨w.heap.size, 2, none⟩ (.int .i64 X)).setCell ⟨w.heap.size, 3, none⟩ (.int .i64 Y)).cell? ⟨w.heap.size, 1, none⟩ = some (.int .i64 y) ∧ ((((wz.setCell ⟨w.heap.size, 0, none⟩ (.int .i64 x)).setCell ⟨w.heap.size, 1, none⟩ (.int .i64 y)).setCell ⟨w.heap.size, 2, none⟩ (.int .i64 X)).setCell ⟨w.heap.size, 3, none⟩ (.int .i64 Y)).cell? ⟨w.heap.size, 2, none⟩ = some (.int .i64 X) ∧ ((((wz.setCell ⟨w.heap.size, 0, none⟩ (.int .i64 x)).setCell ⟨w.heap.size, 1, none⟩ (.int .i64 y)).setCell ⟨w.heap.size, 2, none⟩ (.int .i64 X)).setCell ⟨w.heap.size, 3, none⟩ (.int .i64 Y)).cell? ⟨w.heap.size, 3, none⟩ = some (.int .i64 Y) ∧ ((((wz.setCell ⟨w.heap.size, 0, none⟩ (.int .i64 x)).setCell ⟨w.heap.size, 1, none⟩ (.int .i64 y)).setCell ⟨w.heap.size, 2, none⟩ (.int .i64 X)).setCell ⟨w.heap.size, 3, none⟩ (.int .i64 Y)).cell? ⟨ab, 0, none⟩ = some (.int .i64 x) ∧ ((((wz.setCell ⟨w.heap.size, 0, none⟩ (.int .i64 x)).setCell ⟨w.heap.size, 1, none⟩ (.int .i64 y)).setCell ⟨w.heap.size, 2, none⟩ (.int .i64 X)).setCell ⟨w.heap.size, 3, none⟩ (.int .i64 Y)).cell? ⟨ab, 1, none⟩ = some (.int .i64 y) := by
  have hset := cset_map
  have hlt := h.lo
  obtain ⟨c0, c1⟩ := abf h hm
  have z0 : wz.cell? ⟨w.heap.size, 0, none⟩ = some (.int .i64 0) := (h.get hr).2.2.1 0 (show 0 < 4 by decide)
  have z1 : wz.cell? ⟨w.heap.size, 1, none⟩ = some (.int .i64 0) := (h.get hr).2.2.1 1 (show 1 < 4 by decide)
  have z2 : wz.cell? ⟨w.heap.size, 2, none⟩ = some (.int .i64 0) := (h.get hr).2.2.1 2 (show 2 < 4 by decide)
  have z3 : wz.cell? ⟨w.heap.size, 3, none⟩ = some (.int .i64 0) := (h.get hr).2.2.1 3 (show 3 < 4 by decide)
  have hn1 : ¬ ab = w.heap.size := by omega
  have hn2 : ¬ w.heap.size = ab := by omega
  exact ⟨RB.mk ((((h.but.setNew (Nat.le_refl _) _).setNew (Nat.le_refl _) _).setNew (Nat.le_refl _) _).setNew (Nat.le_refl _) _) (((((h.rs.mono hp).setNew hlt _).setNew hlt _).setNew hlt _).setNew hlt _), by go_simp, by go_simp, by go_simp, by go_simp, by go_simp, by go_simp⟩
set_option maxRecDepth 20000 in
set_option maxHeartbeats 8000000 in
theorem l11Box_k (rb p : Nat) (w : World) (hs0 : RS w rb p) (hp : p ≤ 990000) :
    Calls Try.prog 56 #[.pointer (some ⟨rb, 0, none⟩)] w fun e w' => ∃ a b c d : Int, e = .returned (b4 a b c d) ∧ ((Bp a ∧ Bp b) ∧ Bp c ∧ Bp d) ∧ (a ≤ c ∧ b ≤ d) ∧ RB w w' rb (p + 600) := by
  have hlt := hs0.lt
  have hset := cset_map
  have hD : BL w (w.alloc (.cells #[.int .i64 0, .int .i64 0, .int .i64 0, .int .i64 0] 29)) rb p [(w.heap.size, 4, (fun _ => 0))] := (BL.start hs0).new _ 4 (fun _ => 0) rfl (by intro i hi; rcases (show i = 0 ∨ i = 1 ∨ i = 2 ∨ i = 3 by omega) with rfl | rfl | rfl | rfl <;> rfl)
  go_enter Try.func56, Try.ntmps56
  go_upto_region 1 with fail
  generalize w.alloc (.cells #[.int .i64 0, .int .i64 0, .int .i64 0, .int .i64 0] 29) = w0 at hD ⊢
  go_cut [3] (fun s3 wc => ∃ (ab : Nat) (x y : Int), s3 = .pointer (some ⟨ab, 0, none⟩) ∧ w.heap.size < ab ∧ (-10000 ≤ x ∧ x ≤ 10000 ∧ -10000 ≤ y ∧ y ≤ 10000) ∧ BL w wc rb (p + 500) [(ab, 2, (fun j => [x, y].getD j 0)), (w.heap.size, 4, (fun _ => 0))])
  case first =>
    go_wp2_with (go_at_call 69; refine (l11Place_s rb p _ (by exact hD.rs) (by omega)).mono ?_; rintro e w1 ⟨x, y, rfl, hd1, hr1⟩)
    go_meet
    have hD1 := hD.call hr1
    have q1 : w.heap.size < w1.heap.size := hD1.lt (x := (w.heap.size, 4, (fun _ => 0))) (by simp)
    unfold Bm at hd1
    exact ⟨_, x, y, rfl, q1, by omega, (hD1.mono (by omega)).new _ 2 (fun j => [x, y].getD j 0) rfl (by intro i hi; rcases (show i = 0 ∨ i = 1 by omega) with rfl | rfl <;> rfl)⟩
  case rest =>
  clear hD
  obtain ⟨ab, x, y, rfl, hab, ⟨hx0, hx1, hy0, hy1⟩, hD⟩ := hcut
  have hn1 : ¬ ab = w.heap.size := by omega
  have hn2 : ¬ w.heap.size = ab := by omega
  obtain ⟨c0, c1⟩ := abf (ab := ab) (x := x) (y := y) hD (by simp)
  go_upto_region 2 with fail
  refine wp_region_held_drew (S := fun w' => w'.cell? ⟨ab, 0, none⟩ = some (.int .i64 x) ∧ w'.cell? ⟨ab, 1, none⟩ = some (.int .i64 y)) (by kernel_rfl) ?_ (fun hHeld => ?_)
  · (try dsimp only)
    (first | (go_simp; done) | (go_keep; done))
  refine tq 0 hHeld ?_
  refine tq 1 hHeld ?_
  refine tq 2 hHeld ?_
  refine tq 3 hHeld ?_
  refine tq 5 hHeld ?_
  refine tq 10 hHeld ?_
  refine tq 11 hHeld ?_
  refine tq 12 hHeld ?_
  refine tq 14 hHeld ?_
  refine wpAnyH_ready (rs := [4, 6, 15]) (by kernel_rfl) (by simp) ?_
  refine AllReadyH.cons rfl (fun K hK => ?_) (AllReadyH.cons rfl (fun K hK => ?_) (AllReadyH.cons rfl (fun K hK => ?_) AllReadyH.nil))
  · (go_simp
     replace hD := hD.drew
     (go_at_call 36; refine (pick3 hD (by omega)).mono ?_; rintro e w4 ⟨v4, rfl, va4, vb4, hD2⟩)
     clear c0 c1
     replace hD := hD2
     clear hD2
     obtain ⟨c0, c1⟩ := abf (ab := ab) (x := x) (y := y) hD (by simp)
     (try go_wp2_with fail)
     refine tr hK (fun hHeld => ?_)
     clear hK K)
    refine wpAnyH_ready (rs := [6, 15]) (by kernel_rfl) (by simp) ?_
    refine AllReadyH.cons rfl (fun K hK => ?_) (AllReadyH.cons rfl (fun K hK => ?_) AllReadyH.nil)
    · (go_simp
       clear c0 c1
       replace hD := hD.n3
       generalize w4.alloc (Obj.cells #[.int .i64 0, .int .i64 1, .int .i64 4] 3) = w6 at hD ⊢
       generalize w4.heap.size = b6 at hD ⊢
       obtain ⟨c0, c1⟩ := abf (ab := ab) (x := x) (y := y) hD (by simp)
       refine tr hK (fun hHeld => ?_)
       clear hK K)
      refine wpAnyH_ready (rs := [7, 15]) (by kernel_rfl) (by simp) ?_
      refine AllReadyH.cons rfl (fun K hK => ?_) (AllReadyH.cons rfl (fun K hK => ?_) AllReadyH.nil)
      · (go_simp
         (go_at_call 35; refine (one3 (b := b6) hD (by simp) (by omega)).mono ?_; rintro e w7 ⟨v7, rfl, va7, vb7, hD2⟩)
         clear c0 c1
         replace hD := hD2
         clear hD2
         obtain ⟨c0, c1⟩ := abf (ab := ab) (x := x) (y := y) hD (by simp)
         obtain ⟨hm7, hw7⟩ := ml14 va4 vb4 va7 vb7
         have hs7 : IntKind.i64.wrap (x + v4 * v7) = x + v4 * v7 := i64w (by omega)
         (try go_wp2_with fail)
         refine tr hK (fun hHeld => ?_)
         clear hK K)
        refine tq 8 hHeld ?_
        refine tq 9 hHeld ?_
        refine wpAnyH_ready (rs := [13, 15]) (by kernel_rfl) (by simp) ?_
        refine AllReadyH.cons rfl (fun K hK => ?_) (AllReadyH.cons rfl (fun K hK => ?_) AllReadyH.nil)
        · (go_simp
           (go_at_call 36; refine (pick3 hD (by omega)).mono ?_; rintro e w13 ⟨v13, rfl, va13, vb13, hD2⟩)
           clear c0 c1
           replace hD := hD2
           clear hD2
           obtain ⟨c0, c1⟩ := abf (ab := ab) (x := x) (y := y) hD (by simp)
           (try go_wp2_with fail)
           refine tr hK (fun hHeld => ?_)
           clear hK K)
          refine tc 15 fun K hK => ?_
          (go_simp
           clear c0 c1
           replace hD := hD.n3
           generalize w13.alloc (Obj.cells #[.int .i64 0, .int .i64 1, .int .i64 4] 3) = w15 at hD ⊢
           generalize w13.heap.size = b15 at hD ⊢
           obtain ⟨c0, c1⟩ := abf (ab := ab) (x := x) (y := y) hD (by simp)
           refine tr hK (fun hHeld => ?_)
           clear hK K)
          refine tc 16 fun K hK => ?_
          (go_simp
           (go_at_call 35; refine (one3 (b := b15) hD (by simp) (by omega)).mono ?_; rintro e w16 ⟨v16, rfl, va16, vb16, hD2⟩)
           clear c0 c1
           replace hD := hD2
           clear hD2
           obtain ⟨c0, c1⟩ := abf (ab := ab) (x := x) (y := y) hD (by simp)
           obtain ⟨hm16, hw16⟩ := ml14 va13 vb13 va16 vb16
           have hs16 : IntKind.i64.wrap (y + v13 * v16) = y + v13 * v16 := i64w (by omega)
           (try go_wp2_with fail)
           refine tr hK (fun hHeld => ?_)
           clear hK K)
          refine tq 17 hHeld ?_
          refine tq 18 hHeld ?_
          refine tq 19 hHeld ?_
          refine tq 20 hHeld ?_
          refine tc 21 fun K hK => ?_
          (obtain ⟨⟨z0, z1, z2, z3⟩, f0, f1, f2, f3⟩ := rsf hD (by simp)
           go_simp
           obtain ⟨hR, r0, r1, r2, r3, s0, s1⟩ := box_fin (ab := ab) (x := x) (y := y) (p1 := p + 600) hD (by simp) (by simp) hab (by omega) (x + v4 * v7) (y + v13 * v16)
           clear hD c0 c1 z0 z1 z2 z3 f0 f1 f2 f3
           generalize ((((w16.setCell ⟨w.heap.size, 0, none⟩ (.int .i64 x)).setCell ⟨w.heap.size, 1, none⟩ (.int .i64 y)).setCell ⟨w.heap.size, 2, none⟩ (.int .i64 (x + v4 * v7))).setCell ⟨w.heap.size, 3, none⟩ (.int .i64 (y + v13 * v16))) = w9 at hR r0 r1 r2 r3 s0 s1 ⊢
           refine tr hK (fun hHeld => ?_)
           clear hK K)
          refine wpAnyH_done (by kernel_rfl) ?_ _
          go_wp2_with fail
          exact bodyPost_ret (v := b4 x y (x + v4 * v7) (y + v13 * v16)) (by simp [results, Try.results56, go_sem, r0, r1, r2, r3]) rfl ⟨_, _, _, _, rfl, ⟨⟨Bp.mk (by omega), Bp.mk (by omega)⟩, Bp.mk (by omega), Bp.mk (by omega)⟩, ⟨by omega, by omega⟩, hR⟩
        · (go_simp
           clear c0 c1
           replace hD := hD.n3
           generalize w7.alloc (Obj.cells #[.int .i64 0, .int .i64 1, .int .i64 4] 3) = w15 at hD ⊢
           generalize w7.heap.size = b15 at hD ⊢
           obtain ⟨c0, c1⟩ := abf (ab := ab) (x := x) (y := y) hD (by simp)
           refine tr hK (fun hHeld => ?_)
           clear hK K)
          refine tc 13 fun K hK => ?_
          (go_simp
           (go_at_call 36; refine (pick3 hD (by omega)).mono ?_; rintro e w13 ⟨v13, rfl, va13, vb13, hD2⟩)
           clear c0 c1
           replace hD := hD2
           clear hD2
           obtain ⟨c0, c1⟩ := abf (ab := ab) (x := x) (y := y) hD (by simp)
           (try go_wp2_with fail)
           refine tr hK (fun hHeld => ?_)
           clear hK K)
          refine tc 16 fun K hK => ?_
          (go_simp
           (go_at_call 35; refine (one3 (b := b15) hD (by simp) (by omega)).mono ?_; rintro e w16 ⟨v16, rfl, va16, vb16, hD2⟩)
           clear c0 c1
           replace hD := hD2
           clear hD2
           obtain ⟨c0, c1⟩ := abf (ab := ab) (x := x) (y := y) hD (by simp)
           obtain ⟨hm16, hw16⟩ := ml14 va13 vb13 va16 vb16
           have hs16 : IntKind.i64.wrap (y + v13 * v16) = y + v13 * v16 := i64w (by omega)
           (try go_wp2_with fail)
           refine tr hK (fun hHeld => ?_)
           clear hK K)
          refine tq 17 hHeld ?_
          refine tq 18 hHeld ?_
          refine tq 19 hHeld ?_
          refine tq 20 hHeld ?_
          refine tc 21 fun K hK => ?_
          (obtain ⟨⟨z0, z1, z2, z3⟩, f0, f1, f2, f3⟩ := rsf hD (by simp)
           go_simp
           obtain ⟨hR, r0, r1, r2, r3, s0, s1⟩ := box_fin (ab := ab) (x := x) (y := y) (p1 := p + 600) hD (by simp) (by simp) hab (by omega) (x + v4 * v7) (y + v13 * v16)
           clear hD c0 c1 z0 z1 z2 z3 f0 f1 f2 f3
           generalize ((((w16.setCell ⟨w.heap.size, 0, none⟩ (.int .i64 x)).setCell ⟨w.heap.size, 1, none⟩ (.int .i64 y)).setCell ⟨w.heap.size, 2, none⟩ (.int .i64 (x + v4 * v7))).setCell ⟨w.heap.size, 3, none⟩ (.int .i64 (y + v13 * v16))) = w9 at hR r0 r1 r2 r3 s0 s1 ⊢
           refine tr hK (fun hHeld => ?_)
           clear hK K)
          refine wpAnyH_done (by kernel_rfl) ?_ _
          go_wp2_with fail
          exact bodyPost_ret (v := b4 x y (x + v4 * v7) (y + v13 * v16)) (by simp [results, Try.results56, go_sem, r0, r1, r2, r3]) rfl ⟨_, _, _, _, rfl, ⟨⟨Bp.mk (by omega), Bp.mk (by omega)⟩, Bp.mk (by omega), Bp.mk (by omega)⟩, ⟨by omega, by omega⟩, hR⟩
      · (go_simp
         clear c0 c1
         replace hD := hD.n3
         generalize w6.alloc (Obj.cells #[.int .i64 0, .int .i64 1, .int .i64 4] 3) = w15 at hD ⊢
         generalize w6.heap.size = b15 at hD ⊢
         obtain ⟨c0, c1⟩ := abf (ab := ab) (x := x) (y := y) hD (by simp)
         refine tr hK (fun hHeld => ?_)
         clear hK K)
        refine tc 7 fun K hK => ?_
        (go_simp
         (go_at_call 35; refine (one3 (b := b6) hD (by simp) (by omega)).mono ?_; rintro e w7 ⟨v7, rfl, va7, vb7, hD2⟩)
         clear c0 c1
         replace hD := hD2
         clear hD2
         obtain ⟨c0, c1⟩ := abf (ab := ab) (x := x) (y := y) hD (by simp)
         obtain ⟨hm7, hw7⟩ := ml14 va4 vb4 va7 vb7
         have hs7 : IntKind.i64.wrap (x + v4 * v7) = x + v4 * v7 := i64w (by omega)
         (try go_wp2_with fail)
         refine tr hK (fun hHeld => ?_)
         clear hK K)
        refine tq 8 hHeld ?_
        refine tq 9 hHeld ?_
        refine tc 13 fun K hK => ?_
        (go_simp
         (go_at_call 36; refine (pick3 hD (by omega)).mono ?_; rintro e w13 ⟨v13, rfl, va13, vb13, hD2⟩)
         clear c0 c1
         replace hD := hD2
         clear hD2
         obtain ⟨c0, c1⟩ := abf (ab := ab) (x := x) (y := y) hD (by simp)
         (try go_wp2_with fail)
         refine tr hK (fun hHeld => ?_)
         clear hK K)
        refine tc 16 fun K hK => ?_
        (go_simp
         (go_at_call 35; refine (one3 (b := b15) hD (by simp) (by omega)).mono ?_; rintro e w16 ⟨v16, rfl, va16, vb16, hD2⟩)
         clear c0 c1
         replace hD := hD2
         clear hD2
         obtain ⟨c0, c1⟩ := abf (ab := ab) (x := x) (y := y) hD (by simp)
         obtain ⟨hm16, hw16⟩ := ml14 va13 vb13 va16 vb16
         have hs16 : IntKind.i64.wrap (y + v13 * v16) = y + v13 * v16 := i64w (by omega)
         (try go_wp2_with fail)
         refine tr hK (fun hHeld => ?_)
         clear hK K)
        refine tq 17 hHeld ?_
        refine tq 18 hHeld ?_
        refine tq 19 hHeld ?_
        refine tq 20 hHeld ?_
        refine tc 21 fun K hK => ?_
        (obtain ⟨⟨z0, z1, z2, z3⟩, f0, f1, f2, f3⟩ := rsf hD (by simp)
         go_simp
         obtain ⟨hR, r0, r1, r2, r3, s0, s1⟩ := box_fin (ab := ab) (x := x) (y := y) (p1 := p + 600) hD (by simp) (by simp) hab (by omega) (x + v4 * v7) (y + v13 * v16)
         clear hD c0 c1 z0 z1 z2 z3 f0 f1 f2 f3
         generalize ((((w16.setCell ⟨w.heap.size, 0, none⟩ (.int .i64 x)).setCell ⟨w.heap.size, 1, none⟩ (.int .i64 y)).setCell ⟨w.heap.size, 2, none⟩ (.int .i64 (x + v4 * v7))).setCell ⟨w.heap.size, 3, none⟩ (.int .i64 (y + v13 * v16))) = w9 at hR r0 r1 r2 r3 s0 s1 ⊢
         refine tr hK (fun hHeld => ?_)
         clear hK K)
        refine wpAnyH_done (by kernel_rfl) ?_ _
        go_wp2_with fail
        exact bodyPost_ret (v := b4 x y (x + v4 * v7) (y + v13 * v16)) (by simp [results, Try.results56, go_sem, r0, r1, r2, r3]) rfl ⟨_, _, _, _, rfl, ⟨⟨Bp.mk (by omega), Bp.mk (by omega)⟩, Bp.mk (by omega), Bp.mk (by omega)⟩, ⟨by omega, by omega⟩, hR⟩
    · (go_simp
       clear c0 c1
       replace hD := hD.n3
       generalize w4.alloc (Obj.cells #[.int .i64 0, .int .i64 1, .int .i64 4] 3) = w15 at hD ⊢
       generalize w4.heap.size = b15 at hD ⊢
       obtain ⟨c0, c1⟩ := abf (ab := ab) (x := x) (y := y) hD (by simp)
       refine tr hK (fun hHeld => ?_)
       clear hK K)
      refine tc 6 fun K hK => ?_
      (go_simp
       clear c0 c1
       replace hD := hD.n3
       generalize w15.alloc (Obj.cells #[.int .i64 0, .int .i64 1, .int .i64 4] 3) = w6 at hD ⊢
       generalize w15.heap.size = b6 at hD ⊢
       obtain ⟨c0, c1⟩ := abf (ab := ab) (x := x) (y := y) hD (by simp)
       refine tr hK (fun hHeld => ?_)
       clear hK K)
      refine tc 7 fun K hK => ?_
      (go_simp
       (go_at_call 35; refine (one3 (b := b6) hD (by simp) (by omega)).mono ?_; rintro e w7 ⟨v7, rfl, va7, vb7, hD2⟩)
       clear c0 c1
       replace hD := hD2
       clear hD2
       obtain ⟨c0, c1⟩ := abf (ab := ab) (x := x) (y := y) hD (by simp)
       obtain ⟨hm7, hw7⟩ := ml14 va4 vb4 va7 vb7
       have hs7 : IntKind.i64.wrap (x + v4 * v7) = x + v4 * v7 := i64w (by omega)
       (try go_wp2_with fail)
       refine tr hK (fun hHeld => ?_)
       clear hK K)
      refine tq 8 hHeld ?_
      refine tq 9 hHeld ?_
      refine tc 13 fun K hK => ?_
      (go_simp
       (go_at_call 36; refine (pick3 hD (by omega)).mono ?_; rintro e w13 ⟨v13, rfl, va13, vb13, hD2⟩)
       clear c0 c1
       replace hD := hD2
       clear hD2
       obtain ⟨c0, c1⟩ := abf (ab := ab) (x := x) (y := y) hD (by simp)
       (try go_wp2_with fail)
       refine tr hK (fun hHeld => ?_)
       clear hK K)
      refine tc 16 fun K hK => ?_
      (go_simp
       (go_at_call 35; refine (one3 (b := b15) hD (by simp) (by omega)).mono ?_; rintro e w16 ⟨v16, rfl, va16, vb16, hD2⟩)
       clear c0 c1
       replace hD := hD2
       clear hD2
       obtain ⟨c0, c1⟩ := abf (ab := ab) (x := x) (y := y) hD (by simp)
       obtain ⟨hm16, hw16⟩ := ml14 va13 vb13 va16 vb16
       have hs16 : IntKind.i64.wrap (y + v13 * v16) = y + v13 * v16 := i64w (by omega)
       (try go_wp2_with fail)
       refine tr hK (fun hHeld => ?_)
       clear hK K)
      refine tq 17 hHeld ?_
      refine tq 18 hHeld ?_
      refine tq 19 hHeld ?_
      refine tq 20 hHeld ?_
      refine tc 21 fun K hK => ?_
      (obtain ⟨⟨z0, z1, z2, z3⟩, f0, f1, f2, f3⟩ := rsf hD (by simp)
       go_simp
       obtain ⟨hR, r0, r1, r2, r3, s0, s1⟩ := box_fin (ab := ab) (x := x) (y := y) (p1 := p + 600) hD (by simp) (by simp) hab (by omega) (x + v4 * v7) (y + v13 * v16)
       clear hD c0 c1 z0 z1 z2 z3 f0 f1 f2 f3
       generalize ((((w16.setCell ⟨w.heap.size, 0, none⟩ (.int .i64 x)).setCell ⟨w.heap.size, 1, none⟩ (.int .i64 y)).setCell ⟨w.heap.size, 2, none⟩ (.int .i64 (x + v4 * v7))).setCell ⟨w.heap.size, 3, none⟩ (.int .i64 (y + v13 * v16))) = w9 at hR r0 r1 r2 r3 s0 s1 ⊢
       refine tr hK (fun hHeld => ?_)
       clear hK K)
      refine wpAnyH_done (by kernel_rfl) ?_ _
      go_wp2_with fail
      exact bodyPost_ret (v := b4 x y (x + v4 * v7) (y + v13 * v16)) (by simp [results, Try.results56, go_sem, r0, r1, r2, r3]) rfl ⟨_, _, _, _, rfl, ⟨⟨Bp.mk (by omega), Bp.mk (by omega)⟩, Bp.mk (by omega), Bp.mk (by omega)⟩, ⟨by omega, by omega⟩, hR⟩
  · (go_simp
     clear c0 c1
     replace hD := hD.n3.drew
     generalize (wc.alloc (Obj.cells #[.int .i64 0, .int .i64 1, .int .i64 4] 3)).drew = w6 at hD ⊢
     generalize wc.heap.size = b6 at hD ⊢
     obtain ⟨c0, c1⟩ := abf (ab := ab) (x := x) (y := y) hD (by simp)
     refine tr hK (fun hHeld => ?_)
     clear hK K)
    refine wpAnyH_ready (rs := [4, 15]) (by kernel_rfl) (by simp) ?_
    refine AllReadyH.cons rfl (fun K hK => ?_) (AllReadyH.cons rfl (fun K hK => ?_) AllReadyH.nil)
    · (go_simp
       (go_at_call 36; refine (pick3 hD (by omega)).mono ?_; rintro e w4 ⟨v4, rfl, va4, vb4, hD2⟩)
       clear c0 c1
       replace hD := hD2
       clear hD2
       obtain ⟨c0, c1⟩ := abf (ab := ab) (x := x) (y := y) hD (by simp)
       (try go_wp2_with fail)
       refine tr hK (fun hHeld => ?_)
       clear hK K)
      refine wpAnyH_ready (rs := [7, 15]) (by kernel_rfl) (by simp) ?_
      refine AllReadyH.cons rfl (fun K hK => ?_) (AllReadyH.cons rfl (fun K hK => ?_) AllReadyH.nil)
      · (go_simp
         (go_at_call 35; refine (one3 (b := b6) hD (by simp) (by omega)).mono ?_; rintro e w7 ⟨v7, rfl, va7, vb7, hD2⟩)
         clear c0 c1
         replace hD := hD2
         clear hD2
         obtain ⟨c0, c1⟩ := abf (ab := ab) (x := x) (y := y) hD (by simp)
         obtain ⟨hm7, hw7⟩ := ml14 va4 vb4 va7 vb7
         have hs7 : IntKind.i64.wrap (x + v4 * v7) = x + v4 * v7 := i64w (by omega)
         (try go_wp2_with fail)
         refine tr hK (fun hHeld => ?_)
         clear hK K)
        refine tq 8 hHeld ?_
        refine tq 9 hHeld ?_
        refine wpAnyH_ready (rs := [13, 15]) (by kernel_rfl) (by simp) ?_
        refine AllReadyH.cons rfl (fun K hK => ?_) (AllReadyH.cons rfl (fun K hK => ?_) AllReadyH.nil)
        · (go_simp
           (go_at_call 36; refine (pick3 hD (by omega)).mono ?_; rintro e w13 ⟨v13, rfl, va13, vb13, hD2⟩)
           clear c0 c1
           replace hD := hD2
           clear hD2
           obtain ⟨c0, c1⟩ := abf (ab := ab) (x := x) (y := y) hD (by simp)
           (try go_wp2_with fail)
           refine tr hK (fun hHeld => ?_)
           clear hK K)
          refine tc 15 fun K hK => ?_
          (go_simp
           clear c0 c1
           replace hD := hD.n3
           generalize w13.alloc (Obj.cells #[.int .i64 0, .int .i64 1, .int .i64 4] 3) = w15 at hD ⊢
           generalize w13.heap.size = b15 at hD ⊢
           obtain ⟨c0, c1⟩ := abf (ab := ab) (x := x) (y := y) hD (by simp)
           refine tr hK (fun hHeld => ?_)
           clear hK K)
          refine tc 16 fun K hK => ?_
          (go_simp
           (go_at_call 35; refine (one3 (b := b15) hD (by simp) (by omega)).mono ?_; rintro e w16 ⟨v16, rfl, va16, vb16, hD2⟩)
           clear c0 c1
           replace hD := hD2
           clear hD2
           obtain ⟨c0, c1⟩ := abf (ab := ab) (x := x) (y := y) hD (by simp)
           obtain ⟨hm16, hw16⟩ := ml14 va13 vb13 va16 vb16
           have hs16 : IntKind.i64.wrap (y + v13 * v16) = y + v13 * v16 := i64w (by omega)
           (try go_wp2_with fail)
           refine tr hK (fun hHeld => ?_)
           clear hK K)
          refine tq 17 hHeld ?_
          refine tq 18 hHeld ?_
          refine tq 19 hHeld ?_
          refine tq 20 hHeld ?_
          refine tc 21 fun K hK => ?_
          (obtain ⟨⟨z0, z1, z2, z3⟩, f0, f1, f2, f3⟩ := rsf hD (by simp)
           go_simp
           obtain ⟨hR, r0, r1, r2, r3, s0, s1⟩ := box_fin (ab := ab) (x := x) (y := y) (p1 := p + 600) hD (by simp) (by simp) hab (by omega) (x + v4 * v7) (y + v13 * v16)
           clear hD c0 c1 z0 z1 z2 z3 f0 f1 f2 f3
           generalize ((((w16.setCell ⟨w.heap.size, 0, none⟩ (.int .i64 x)).setCell ⟨w.heap.size, 1, none⟩ (.int .i64 y)).setCell ⟨w.heap.size, 2, none⟩ (.int .i64 (x + v4 * v7))).setCell ⟨w.heap.size, 3, none⟩ (.int .i64 (y + v13 * v16))) = w9 at hR r0 r1 r2 r3 s0 s1 ⊢
           refine tr hK (fun hHeld => ?_)
           clear hK K)
          refine wpAnyH_done (by kernel_rfl) ?_ _
          go_wp2_with fail
          exact bodyPost_ret (v := b4 x y (x + v4 * v7) (y + v13 * v16)) (by simp [results, Try.results56, go_sem, r0, r1, r2, r3]) rfl ⟨_, _, _, _, rfl, ⟨⟨Bp.mk (by omega), Bp.mk (by omega)⟩, Bp.mk (by omega), Bp.mk (by omega)⟩, ⟨by omega, by omega⟩, hR⟩
        · (go_simp
           clear c0 c1
           replace hD := hD.n3
           generalize w7.alloc (Obj.cells #[.int .i64 0, .int .i64 1, .int .i64 4] 3) = w15 at hD ⊢
           generalize w7.heap.size = b15 at hD ⊢
           obtain ⟨c0, c1⟩ := abf (ab := ab) (x := x) (y := y) hD (by simp)
           refine tr hK (fun hHeld => ?_)
           clear hK K)
          refine tc 13 fun K hK => ?_
          (go_simp
           (go_at_call 36; refine (pick3 hD (by omega)).mono ?_; rintro e w13 ⟨v13, rfl, va13, vb13, hD2⟩)
           clear c0 c1
           replace hD := hD2
           clear hD2
           obtain ⟨c0, c1⟩ := abf (ab := ab) (x := x) (y := y) hD (by simp)
           (try go_wp2_with fail)
           refine tr hK (fun hHeld => ?_)
           clear hK K)
          refine tc 16 fun K hK => ?_
          (go_simp
           (go_at_call 35; refine (one3 (b := b15) hD (by simp) (by omega)).mono ?_; rintro e w16 ⟨v16, rfl, va16, vb16, hD2⟩)
           clear c0 c1
           replace hD := hD2
           clear hD2
           obtain ⟨c0, c1⟩ := abf (ab := ab) (x := x) (y := y) hD (by simp)
           obtain ⟨hm16, hw16⟩ := ml14 va13 vb13 va16 vb16
           have hs16 : IntKind.i64.wrap (y + v13 * v16) = y + v13 * v16 := i64w (by omega)
           (try go_wp2_with fail)
           refine tr hK (fun hHeld => ?_)
           clear hK K)
          refine tq 17 hHeld ?_
          refine tq 18 hHeld ?_
          refine tq 19 hHeld ?_
          refine tq 20 hHeld ?_
          refine tc 21 fun K hK => ?_
          (obtain ⟨⟨z0, z1, z2, z3⟩, f0, f1, f2, f3⟩ := rsf hD (by simp)
           go_simp
           obtain ⟨hR, r0, r1, r2, r3, s0, s1⟩ := box_fin (ab := ab) (x := x) (y := y) (p1 := p + 600) hD (by simp) (by simp) hab (by omega) (x + v4 * v7) (y + v13 * v16)
           clear hD c0 c1 z0 z1 z2 z3 f0 f1 f2 f3
           generalize ((((w16.setCell ⟨w.heap.size, 0, none⟩ (.int .i64 x)).setCell ⟨w.heap.size, 1, none⟩ (.int .i64 y)).setCell ⟨w.heap.size, 2, none⟩ (.int .i64 (x + v4 * v7))).setCell ⟨w.heap.size, 3, none⟩ (.int .i64 (y + v13 * v16))) = w9 at hR r0 r1 r2 r3 s0 s1 ⊢
           refine tr hK (fun hHeld => ?_)
           clear hK K)
          refine wpAnyH_done (by kernel_rfl) ?_ _
          go_wp2_with fail
          exact bodyPost_ret (v := b4 x y (x + v4 * v7) (y + v13 * v16)) (by simp [results, Try.results56, go_sem, r0, r1, r2, r3]) rfl ⟨_, _, _, _, rfl, ⟨⟨Bp.mk (by omega), Bp.mk (by omega)⟩, Bp.mk (by omega), Bp.mk (by omega)⟩, ⟨by omega, by omega⟩, hR⟩
      · (go_simp
         clear c0 c1
         replace hD := hD.n3
         generalize w4.alloc (Obj.cells #[.int .i64 0, .int .i64 1, .int .i64 4] 3) = w15 at hD ⊢
         generalize w4.heap.size = b15 at hD ⊢
         obtain ⟨c0, c1⟩ := abf (ab := ab) (x := x) (y := y) hD (by simp)
         refine tr hK (fun hHeld => ?_)
         clear hK K)
        refine tc 7 fun K hK => ?_
        (go_simp
         (go_at_call 35; refine (one3 (b := b6) hD (by simp) (by omega)).mono ?_; rintro e w7 ⟨v7, rfl, va7, vb7, hD2⟩)
         clear c0 c1
         replace hD := hD2
         clear hD2
         obtain ⟨c0, c1⟩ := abf (ab := ab) (x := x) (y := y) hD (by simp)
         obtain ⟨hm7, hw7⟩ := ml14 va4 vb4 va7 vb7
         have hs7 : IntKind.i64.wrap (x + v4 * v7) = x + v4 * v7 := i64w (by omega)
         (try go_wp2_with fail)
         refine tr hK (fun hHeld => ?_)
         clear hK K)
        refine tq 8 hHeld ?_
        refine tq 9 hHeld ?_
        refine tc 13 fun K hK => ?_
        (go_simp
         (go_at_call 36; refine (pick3 hD (by omega)).mono ?_; rintro e w13 ⟨v13, rfl, va13, vb13, hD2⟩)
         clear c0 c1
         replace hD := hD2
         clear hD2
         obtain ⟨c0, c1⟩ := abf (ab := ab) (x := x) (y := y) hD (by simp)
         (try go_wp2_with fail)
         refine tr hK (fun hHeld => ?_)
         clear hK K)
        refine tc 16 fun K hK => ?_
        (go_simp
         (go_at_call 35; refine (one3 (b := b15) hD (by simp) (by omega)).mono ?_; rintro e w16 ⟨v16, rfl, va16, vb16, hD2⟩)
         clear c0 c1
         replace hD := hD2
         clear hD2
         obtain ⟨c0, c1⟩ := abf (ab := ab) (x := x) (y := y) hD (by simp)
         obtain ⟨hm16, hw16⟩ := ml14 va13 vb13 va16 vb16
         have hs16 : IntKind.i64.wrap (y + v13 * v16) = y + v13 * v16 := i64w (by omega)
         (try go_wp2_with fail)
         refine tr hK (fun hHeld => ?_)
         clear hK K)
        refine tq 17 hHeld ?_
        refine tq 18 hHeld ?_
        refine tq 19 hHeld ?_
        refine tq 20 hHeld ?_
        refine tc 21 fun K hK => ?_
        (obtain ⟨⟨z0, z1, z2, z3⟩, f0, f1, f2, f3⟩ := rsf hD (by simp)
         go_simp
         obtain ⟨hR, r0, r1, r2, r3, s0, s1⟩ := box_fin (ab := ab) (x := x) (y := y) (p1 := p + 600) hD (by simp) (by simp) hab (by omega) (x + v4 * v7) (y + v13 * v16)
         clear hD c0 c1 z0 z1 z2 z3 f0 f1 f2 f3
         generalize ((((w16.setCell ⟨w.heap.size, 0, none⟩ (.int .i64 x)).setCell ⟨w.heap.size, 1, none⟩ (.int .i64 y)).setCell ⟨w.heap.size, 2, none⟩ (.int .i64 (x + v4 * v7))).setCell ⟨w.heap.size, 3, none⟩ (.int .i64 (y + v13 * v16))) = w9 at hR r0 r1 r2 r3 s0 s1 ⊢
         refine tr hK (fun hHeld => ?_)
         clear hK K)
        refine wpAnyH_done (by kernel_rfl) ?_ _
        go_wp2_with fail
        exact bodyPost_ret (v := b4 x y (x + v4 * v7) (y + v13 * v16)) (by simp [results, Try.results56, go_sem, r0, r1, r2, r3]) rfl ⟨_, _, _, _, rfl, ⟨⟨Bp.mk (by omega), Bp.mk (by omega)⟩, Bp.mk (by omega), Bp.mk (by omega)⟩, ⟨by omega, by omega⟩, hR⟩
    · (go_simp
       clear c0 c1
       replace hD := hD.n3
       generalize w6.alloc (Obj.cells #[.int .i64 0, .int .i64 1, .int .i64 4] 3) = w15 at hD ⊢
       generalize w6.heap.size = b15 at hD ⊢
       obtain ⟨c0, c1⟩ := abf (ab := ab) (x := x) (y := y) hD (by simp)
       refine tr hK (fun hHeld => ?_)
       clear hK K)
      refine tc 4 fun K hK => ?_
      (go_simp
       (go_at_call 36; refine (pick3 hD (by omega)).mono ?_; rintro e w4 ⟨v4, rfl, va4, vb4, hD2⟩)
       clear c0 c1
       replace hD := hD2
       clear hD2
       obtain ⟨c0, c1⟩ := abf (ab := ab) (x := x) (y := y) hD (by simp)
       (try go_wp2_with fail)
       refine tr hK (fun hHeld => ?_)
       clear hK K)
      refine tc 7 fun K hK => ?_
      (go_simp
       (go_at_call 35; refine (one3 (b := b6) hD (by simp) (by omega)).mono ?_; rintro e w7 ⟨v7, rfl, va7, vb7, hD2⟩)
       clear c0 c1
       replace hD := hD2
       clear hD2
       obtain ⟨c0, c1⟩ := abf (ab := ab) (x := x) (y := y) hD (by simp)
       obtain ⟨hm7, hw7⟩ := ml14 va4 vb4 va7 vb7
       have hs7 : IntKind.i64.wrap (x + v4 * v7) = x + v4 * v7 := i64w (by omega)
       (try go_wp2_with fail)
       refine tr hK (fun hHeld => ?_)
       clear hK K)
      refine tq 8 hHeld ?_
      refine tq 9 hHeld ?_
      refine tc 13 fun K hK => ?_
      (go_simp
       (go_at_call 36; refine (pick3 hD (by omega)).mono ?_; rintro e w13 ⟨v13, rfl, va13, vb13, hD2⟩)
       clear c0 c1
       replace hD := hD2
       clear hD2
       obtain ⟨c0, c1⟩ := abf (ab := ab) (x := x) (y := y) hD (by simp)
       (try go_wp2_with fail)
       refine tr hK (fun hHeld => ?_)
       clear hK K)
      refine tc 16 fun K hK => ?_
      (go_simp
       (go_at_call 35; refine (one3 (b := b15) hD (by simp) (by omega)).mono ?_; rintro e w16 ⟨v16, rfl, va16, vb16, hD2⟩)
       clear c0 c1
       replace hD := hD2
       clear hD2
       obtain ⟨c0, c1⟩ := abf (ab := ab) (x := x) (y := y) hD (by simp)
       obtain ⟨hm16, hw16⟩ := ml14 va13 vb13 va16 vb16
       have hs16 : IntKind.i64.wrap (y + v13 * v16) = y + v13 * v16 := i64w (by omega)
       (try go_wp2_with fail)
       refine tr hK (fun hHeld => ?_)
       clear hK K)
      refine tq 17 hHeld ?_
      refine tq 18 hHeld ?_
      refine tq 19 hHeld ?_
      refine tq 20 hHeld ?_
      refine tc 21 fun K hK => ?_
      (obtain ⟨⟨z0, z1, z2, z3⟩, f0, f1, f2, f3⟩ := rsf hD (by simp)
       go_simp
       obtain ⟨hR, r0, r1, r2, r3, s0, s1⟩ := box_fin (ab := ab) (x := x) (y := y) (p1 := p + 600) hD (by simp) (by simp) hab (by omega) (x + v4 * v7) (y + v13 * v16)
       clear hD c0 c1 z0 z1 z2 z3 f0 f1 f2 f3
       generalize ((((w16.setCell ⟨w.heap.size, 0, none⟩ (.int .i64 x)).setCell ⟨w.heap.size, 1, none⟩ (.int .i64 y)).setCell ⟨w.heap.size, 2, none⟩ (.int .i64 (x + v4 * v7))).setCell ⟨w.heap.size, 3, none⟩ (.int .i64 (y + v13 * v16))) = w9 at hR r0 r1 r2 r3 s0 s1 ⊢
       refine tr hK (fun hHeld => ?_)
       clear hK K)
      refine wpAnyH_done (by kernel_rfl) ?_ _
      go_wp2_with fail
      exact bodyPost_ret (v := b4 x y (x + v4 * v7) (y + v13 * v16)) (by simp [results, Try.results56, go_sem, r0, r1, r2, r3]) rfl ⟨_, _, _, _, rfl, ⟨⟨Bp.mk (by omega), Bp.mk (by omega)⟩, Bp.mk (by omega), Bp.mk (by omega)⟩, ⟨by omega, by omega⟩, hR⟩
  · (go_simp
     clear c0 c1
     replace hD := hD.n3.drew
     generalize (wc.alloc (Obj.cells #[.int .i64 0, .int .i64 1, .int .i64 4] 3)).drew = w15 at hD ⊢
     generalize wc.heap.size = b15 at hD ⊢
     obtain ⟨c0, c1⟩ := abf (ab := ab) (x := x) (y := y) hD (by simp)
     refine tr hK (fun hHeld => ?_)
     clear hK K)
    refine wpAnyH_ready (rs := [4, 6]) (by kernel_rfl) (by simp) ?_
    refine AllReadyH.cons rfl (fun K hK => ?_) (AllReadyH.cons rfl (fun K hK => ?_) AllReadyH.nil)
    · (go_simp
       (go_at_call 36; refine (pick3 hD (by omega)).mono ?_; rintro e w4 ⟨v4, rfl, va4, vb4, hD2⟩)
       clear c0 c1
       replace hD := hD2
       clear hD2
       obtain ⟨c0, c1⟩ := abf (ab := ab) (x := x) (y := y) hD (by simp)
       (try go_wp2_with fail)
       refine tr hK (fun hHeld => ?_)
       clear hK K)
      refine tc 6 fun K hK => ?_
      (go_simp
       clear c0 c1
       replace hD := hD.n3
       generalize w4.alloc (Obj.cells #[.int .i64 0, .int .i64 1, .int .i64 4] 3) = w6 at hD ⊢
       generalize w4.heap.size = b6 at hD ⊢
       obtain ⟨c0, c1⟩ := abf (ab := ab) (x := x) (y := y) hD (by simp)
       refine tr hK (fun hHeld => ?_)
       clear hK K)
      refine tc 7 fun K hK => ?_
      (go_simp
       (go_at_call 35; refine (one3 (b := b6) hD (by simp) (by omega)).mono ?_; rintro e w7 ⟨v7, rfl, va7, vb7, hD2⟩)
       clear c0 c1
       replace hD := hD2
       clear hD2
       obtain ⟨c0, c1⟩ := abf (ab := ab) (x := x) (y := y) hD (by simp)
       obtain ⟨hm7, hw7⟩ := ml14 va4 vb4 va7 vb7
       have hs7 : IntKind.i64.wrap (x + v4 * v7) = x + v4 * v7 := i64w (by omega)
       (try go_wp2_with fail)
       refine tr hK (fun hHeld => ?_)
       clear hK K)
      refine tq 8 hHeld ?_
      refine tq 9 hHeld ?_
      refine tc 13 fun K hK => ?_
      (go_simp
       (go_at_call 36; refine (pick3 hD (by omega)).mono ?_; rintro e w13 ⟨v13, rfl, va13, vb13, hD2⟩)
       clear c0 c1
       replace hD := hD2
       clear hD2
       obtain ⟨c0, c1⟩ := abf (ab := ab) (x := x) (y := y) hD (by simp)
       (try go_wp2_with fail)
       refine tr hK (fun hHeld => ?_)
       clear hK K)
      refine tc 16 fun K hK => ?_
      (go_simp
       (go_at_call 35; refine (one3 (b := b15) hD (by simp) (by omega)).mono ?_; rintro e w16 ⟨v16, rfl, va16, vb16, hD2⟩)
       clear c0 c1
       replace hD := hD2
       clear hD2
       obtain ⟨c0, c1⟩ := abf (ab := ab) (x := x) (y := y) hD (by simp)
       obtain ⟨hm16, hw16⟩ := ml14 va13 vb13 va16 vb16
       have hs16 : IntKind.i64.wrap (y + v13 * v16) = y + v13 * v16 := i64w (by omega)
       (try go_wp2_with fail)
       refine tr hK (fun hHeld => ?_)
       clear hK K)
      refine tq 17 hHeld ?_
      refine tq 18 hHeld ?_
      refine tq 19 hHeld ?_
      refine tq 20 hHeld ?_
      refine tc 21 fun K hK => ?_
      (obtain ⟨⟨z0, z1, z2, z3⟩, f0, f1, f2, f3⟩ := rsf hD (by simp)
       go_simp
       obtain ⟨hR, r0, r1, r2, r3, s0, s1⟩ := box_fin (ab := ab) (x := x) (y := y) (p1 := p + 600) hD (by simp) (by simp) hab (by omega) (x + v4 * v7) (y + v13 * v16)
       clear hD c0 c1 z0 z1 z2 z3 f0 f1 f2 f3
       generalize ((((w16.setCell ⟨w.heap.size, 0, none⟩ (.int .i64 x)).setCell ⟨w.heap.size, 1, none⟩ (.int .i64 y)).setCell ⟨w.heap.size, 2, none⟩ (.int .i64 (x + v4 * v7))).setCell ⟨w.heap.size, 3, none⟩ (.int .i64 (y + v13 * v16))) = w9 at hR r0 r1 r2 r3 s0 s1 ⊢
       refine tr hK (fun hHeld => ?_)
       clear hK K)
      refine wpAnyH_done (by kernel_rfl) ?_ _
      go_wp2_with fail
      exact bodyPost_ret (v := b4 x y (x + v4 * v7) (y + v13 * v16)) (by simp [results, Try.results56, go_sem, r0, r1, r2, r3]) rfl ⟨_, _, _, _, rfl, ⟨⟨Bp.mk (by omega), Bp.mk (by omega)⟩, Bp.mk (by omega), Bp.mk (by omega)⟩, ⟨by omega, by omega⟩, hR⟩
    · (go_simp
       clear c0 c1
       replace hD := hD.n3
       generalize w15.alloc (Obj.cells #[.int .i64 0, .int .i64 1, .int .i64 4] 3) = w6 at hD ⊢
       generalize w15.heap.size = b6 at hD ⊢
       obtain ⟨c0, c1⟩ := abf (ab := ab) (x := x) (y := y) hD (by simp)
       refine tr hK (fun hHeld => ?_)
       clear hK K)
      refine tc 4 fun K hK => ?_
      (go_simp
       (go_at_call 36; refine (pick3 hD (by omega)).mono ?_; rintro e w4 ⟨v4, rfl, va4, vb4, hD2⟩)
       clear c0 c1
       replace hD := hD2
       clear hD2
       obtain ⟨c0, c1⟩ := abf (ab := ab) (x := x) (y := y) hD (by simp)
       (try go_wp2_with fail)
       refine tr hK (fun hHeld => ?_)
       clear hK K)
      refine tc 7 fun K hK => ?_
      (go_simp
       (go_at_call 35; refine (one3 (b := b6) hD (by simp) (by omega)).mono ?_; rintro e w7 ⟨v7, rfl, va7, vb7, hD2⟩)
       clear c0 c1
       replace hD := hD2
       clear hD2
       obtain ⟨c0, c1⟩ := abf (ab := ab) (x := x) (y := y) hD (by simp)
       obtain ⟨hm7, hw7⟩ := ml14 va4 vb4 va7 vb7
       have hs7 : IntKind.i64.wrap (x + v4 * v7) = x + v4 * v7 := i64w (by omega)
       (try go_wp2_with fail)
       refine tr hK (fun hHeld => ?_)
       clear hK K)
      refine tq 8 hHeld ?_
      refine tq 9 hHeld ?_
      refine tc 13 fun K hK => ?_
      (go_simp
       (go_at_call 36; refine (pick3 hD (by omega)).mono ?_; rintro e w13 ⟨v13, rfl, va13, vb13, hD2⟩)
       clear c0 c1
       replace hD := hD2
       clear hD2
       obtain ⟨c0, c1⟩ := abf (ab := ab) (x := x) (y := y) hD (by simp)
       (try go_wp2_with fail)
       refine tr hK (fun hHeld => ?_)
       clear hK K)
      refine tc 16 fun K hK => ?_
      (go_simp
       (go_at_call 35; refine (one3 (b := b15) hD (by simp) (by omega)).mono ?_; rintro e w16 ⟨v16, rfl, va16, vb16, hD2⟩)
       clear c0 c1
       replace hD := hD2
       clear hD2
       obtain ⟨c0, c1⟩ := abf (ab := ab) (x := x) (y := y) hD (by simp)
       obtain ⟨hm16, hw16⟩ := ml14 va13 vb13 va16 vb16
       have hs16 : IntKind.i64.wrap (y + v13 * v16) = y + v13 * v16 := i64w (by omega)
       (try go_wp2_with fail)
       refine tr hK (fun hHeld => ?_)
       clear hK K)
      refine tq 17 hHeld ?_
      refine tq 18 hHeld ?_
      refine tq 19 hHeld ?_
      refine tq 20 hHeld ?_
      refine tc 21 fun K hK => ?_
      (obtain ⟨⟨z0, z1, z2, z3⟩, f0, f1, f2, f3⟩ := rsf hD (by simp)
       go_simp
       obtain ⟨hR, r0, r1, r2, r3, s0, s1⟩ := box_fin (ab := ab) (x := x) (y := y) (p1 := p + 600) hD (by simp) (by simp) hab (by omega) (x + v4 * v7) (y + v13 * v16)
       clear hD c0 c1 z0 z1 z2 z3 f0 f1 f2 f3
       generalize ((((w16.setCell ⟨w.heap.size, 0, none⟩ (.int .i64 x)).setCell ⟨w.heap.size, 1, none⟩ (.int .i64 y)).setCell ⟨w.heap.size, 2, none⟩ (.int .i64 (x + v4 * v7))).setCell ⟨w.heap.size, 3, none⟩ (.int .i64 (y + v13 * v16))) = w9 at hR r0 r1 r2 r3 s0 s1 ⊢
       refine tr hK (fun hHeld => ?_)
       clear hK K)
      refine wpAnyH_done (by kernel_rfl) ?_ _
      go_wp2_with fail
      exact bodyPost_ret (v := b4 x y (x + v4 * v7) (y + v13 * v16)) (by simp [results, Try.results56, go_sem, r0, r1, r2, r3]) rfl ⟨_, _, _, _, rfl, ⟨⟨Bp.mk (by omega), Bp.mk (by omega)⟩, Bp.mk (by omega), Bp.mk (by omega)⟩, ⟨by omega, by omega⟩, hR⟩
theorem l11Box_s (rb p : Nat) (w : World) (hs0 : RS w rb p) (hp : p ≤ 990000) :
    Calls Try.prog 56 #[.pointer (some ⟨rb, 0, none⟩)] w fun e w' => ∃ a b c d : Int, e = .returned (b4 a b c d) ∧ ((Bp a ∧ Bp b) ∧ Bp c ∧ Bp d) ∧ RB w w' rb (p + 600) := by
  refine (l11Box_k rb p w hs0 hp).mono ?_
  rintro e w' ⟨a, b, c, d, h1, h2, -, h3⟩
  exact ⟨a, b, c, d, h1, h2, h3⟩
end Go.Proofs.Ytbngdlbecdloiaa
