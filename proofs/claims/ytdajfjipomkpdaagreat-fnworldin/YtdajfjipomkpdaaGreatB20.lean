/- Texts of a proof. -/
import Derived.Test.YtdajfjipomkpdaaGreatB15
import Derived.Test.YtdajfjipomkpdaaGreatB1
import Derived.Deep.RegionHeld3
import Derived.Deep.DeepCutAuto
import Derived.Test.YtdajfjipomkpdaaGreatB19
import Derived.Test.YtdajfjipomkpdaaGreatRows
import Derived.WalkKit
import Derived.JoinedOf
import Derived.ProofKit
namespace Go.Proofs.YtdajfjipomkpdaaGreat
open Go.RowKit
set_option linter.unusedVariables false
set_option linter.unusedSimpArgs false
def Bp (x : Int) : Prop := -20000 ≤ x ∧ x ≤ 20000
theorem Bp.mk {x : Int} (h : -20000 ≤ x ∧ x ≤ 20000) : Bp x := h
def f014 : Nat → Int := fun j => [0, 1, 4].getD j 0
theorem BL.n3 {w ws : World} {rb p : Nat} {L : Bls} (h : BL w ws rb p L) : BL w (ws.alloc (.cells #[.int .i64 0, .int .i64 1, .int .i64 4] 3)) rb p ((ws.heap.size, 3, f014) :: L) :=
  h.new _ 3 f014 rfl (by intro i hi; rcases (show i = 0 ∨ i = 1 ∨ i = 2 by omega) with rfl | rfl | rfl <;> rfl)
set_option maxHeartbeats 400000 in
theorem one3 {w ws : World} {rb p b : Nat} {L : Bls} (h : BL w ws rb p L) (hm : (b, 3, f014) ∈ L) (hp : p ≤ 999000) :
    Calls Tryz.prog 47 #[.pointer (some ⟨rb, 0, none⟩), .slice (some ⟨b, 0, none⟩) 3 3] ws fun e w' => ∃ v : Int, e = .returned (.int .i64 v) ∧ 0 ≤ v ∧ v ≤ 4 ∧ BL w w' rb (p + 1) L := by
  have ha := h.get hm
  have hlo := h.lo
  have h1 : w.heap.size ≤ b := ha.1
  refine (one_g 0 4 rb p b 3 3 [0, 1, 4] _ h.rs hp (by simp) rfl (by omega) (by omega) (by omega) (fun i hi => ha.2.2.1 i hi)).mono ?_
  rintro e w' ⟨v, rfl, h0, h4, hr⟩
  exact ⟨v, rfl, h0, h4, h.call hr⟩
theorem pick3 {w ws : World} {rb p : Nat} {L : Bls} (h : BL w ws rb p L) (hp : p ≤ 999000) :
    Calls Tryz.prog 39 #[.pointer (some ⟨rb, 0, none⟩), .int .i64 256] ws fun e w' => ∃ v : Int, e = .returned (.int .i64 v) ∧ 0 ≤ v ∧ v ≤ 255 ∧ BL w w' rb (p + 1) L := by
  refine (pick_s rb p 256 _ h.rs hp (by omega) (by omega)).mono ?_
  rintro e w' ⟨v, rfl, h0, h4, hr⟩
  exact ⟨v, rfl, h0, by omega, h.call hr⟩
theorem ml14 {a b : Int} (h0 : 0 ≤ a) (h1 : a ≤ 255) (k0 : 0 ≤ b) (k1 : b ≤ 4) : (0 ≤ a * b ∧ a * b ≤ 1020) ∧ IntKind.i64.wrap (a * b) = a * b := by
  have q0 := Int.mul_nonneg h0 k0
  have q1 : a * b ≤ 255 * 4 := Int.mul_le_mul h1 k1 k0 (by omega)
  exact ⟨⟨q0, by omega⟩, i64w (by omega)⟩
theorem abf {w wz : World} {rb p ab : Nat} {x y : Int} {L : Bls} (h : BL w wz rb p L) (hm : (ab, 2, (fun j => [x, y].getD j 0)) ∈ L) : wz.cell? ⟨ab, 0, none⟩ = some (.int .i64 x) ∧ wz.cell? ⟨ab, 1, none⟩ = some (.int .i64 y) :=
  ⟨(h.get hm).2.2.1 0 (show 0 < 2 by decide), (h.get hm).2.2.1 1 (show 1 < 2 by decide)⟩
theorem rsf {w wz : World} {rb p : Nat} {L : Bls} (h : BL w wz rb p L) (hr : (w.heap.size, 4, (fun _ => 0)) ∈ L) : (wz.cell? ⟨w.heap.size, 0, none⟩ = some (.int .i64 0) ∧ wz.cell? ⟨w.heap.size, 1, none⟩ = some (.int .i64 0) ∧ wz.cell? ⟨w.heap.size, 2, none⟩ = some (.int .i64 0) ∧ wz.cell? ⟨w.heap.size, 3, none⟩ = some (.int .i64 0)) ∧ wz.frozen? ⟨w.heap.size, 0, none⟩ = false ∧ wz.frozen? ⟨w.heap.size, 1, none⟩ = false ∧ wz.frozen? ⟨w.heap.size, 2, none⟩ = false ∧ wz.frozen? ⟨w.heap.size, 3, none⟩ = false :=
  have k := (h.get hr).2.2
  ⟨⟨k.1 0 (show 0 < 4 by decide), k.1 1 (show 1 < 4 by decide), k.1 2 (show 2 < 4 by decide), k.1 3 (show 3 < 4 by decide)⟩, k.2 0 (show 0 < 4 by decide), k.2 1 (show 1 < 4 by decide), k.2 2 (show 2 < 4 by decide), k.2 3 (show 3 < 4 by decide)⟩
theorem box_fin {w wz : World} {rb p p1 ab : Nat} {x y : Int} {L : Bls} (h : BL w wz rb p L) (hm : (ab, 2, (fun j => [x, y].getD j 0)) ∈ L) (hr : (w.heap.size, 4, (fun _ => 0)) ∈ L) (hab : w.heap.size < ab) (hp : p ≤ p1) (X Y : Int) :
    RB w ((((wz.setCell ⟨w.heap.size, 0, none⟩ (.int .i64 x)).setCell ⟨w.heap.size, 1, none⟩ (.int .i64 y)).setCell ⟨w.heap.size, 2, none⟩ (.int .i64 X)).setCell ⟨w.heap.size, 3, none⟩ (.int .i64 Y)) rb p1 ∧ ((((wz.setCell ⟨w.heap.size, 0, none⟩ (.int .i64 x)).setCell ⟨w.heap.size, 1, none⟩ (.int .i64 y)).setCell ⟨w.heap.size, 2, none⟩ (.int .i64 X)).setCell ⟨w.heap.size, 3, none⟩ (.int .i64 Y)).cell? ⟨w.heap.size, 0, none⟩ = some (.int .i64 x) ∧ ((((wz.setCell ⟨w.heap.size, 0, none⟩ (.int .i64 x)).setCell ⟨w.heap.size, 1, none⟩ (.int .i64 y)).setCell ⟨w.heap.size, 2, none⟩ (.int .i64 X)).setCell ⟨w.heap.size, 3, none⟩ (.int .i64 Y)).cell? ⟨w.heap.size, 1, none⟩ = some (.int .i64 y) ∧ ((((wz.setCell ⟨w.heap.size, 0, none⟩ (.int .i64 x)).setCell ⟨w.heap.size, 1, none⟩ (.int .i64 y)).setCell ⟨w.heap.size, 2, none⟩ (.int .i64 X)).setCell ⟨w.heap.size, 3, none⟩ (.int .i64 Y)).cell? ⟨w.heap.size, 2, none⟩ = some (.int .i64 X) ∧ ((((wz.setCell ⟨w.heap.size, 0, none⟩ (.int .i64 x)).setCell ⟨w.heap.size, 1, none⟩ (.int .i64 y)).setCell ⟨w.heap.size, 2, none⟩ (.int .i64 X)).setCell ⟨w.heap.size, 3, none⟩ (.int .i64 Y)).cell? ⟨w.heap.size, 3, none⟩ = some (.int .i64 Y) ∧ ((((wz.setCell ⟨w.heap.size, 0, none⟩ (.int .i64 x)).setCell ⟨w.heap.size, 1, none⟩ (.int .i64 y)).setCell ⟨w.heap.size, 2, none⟩ (.int .i64 X)).setCell ⟨w.heap.size, 3, none⟩ (.int .i64 Y)).cell? ⟨ab, 0, none⟩ = some (.int .i64 x) ∧ ((((wz.setCell ⟨w.heap.size, 0, none⟩ (.int .i64 x)).setCell ⟨w.heap.size, 1, none⟩ (.int .i64 y)).setCell ⟨w.heap.size, 2, none⟩ (.int .i64 X)).setCell ⟨w.heap.size, 3, none⟩ (.int .i64 Y)).cell? ⟨ab, 1, none⟩ = some (.int .i64 y) := by
  have hset := cset_map
  have hlt := h.lo
  obtain ⟨c0, c1⟩ := abf h hm
  have z0 : wz.cell? ⟨w.heap.size, 0, none⟩ = some (.int .i64 0) := (h.get hr).2.2.1 0 (show 0 < 4 by decide)
  have z1 : wz.cell? ⟨w.heap.size, 1, none⟩ = some (.int .i64 0) := (h.get hr).2.2.1 1 (show 1 < 4 by decide)
  have z2 : wz.cell? ⟨w.heap.size, 2, none⟩ = some (.int .i64 0) := (h.get hr).2.2.1 2 (show 2 < 4 by decide)
  have z3 : wz.cell? ⟨w.heap.size, 3, none⟩ = some (.int .i64 0) := (h.get hr).2.2.1 3 (show 3 < 4 by decide)
  have hn1 : ¬ ab = w.heap.size := by omega
  have hn2 : ¬ w.heap.size = ab := by omega
  exact ⟨RB.mk ((((h.but.setNew (Nat.le_refl _) _).setNew (Nat.le_refl _) _).setNew (Nat.le_refl _) _).setNew (Nat.le_refl _) _) (((((h.rs.mono hp).setNew hlt _).setNew hlt _).setNew hlt _).setNew hlt _), by go_simp, by go_simp, by go_simp, by go_simp, by go_simp, by go_simp⟩
set_option maxRecDepth 20000 in
set_option maxHeartbeats 8000000 in
theorem l11Box_s (rb p : Nat) (w : World) (hs0 : RS w rb p) (hp : p ≤ 990000) :
    Calls Tryz.prog 49 #[.pointer (some ⟨rb, 0, none⟩)] w fun e w' => ∃ a b c d : Int, e = .returned (b4 a b c d) ∧ ((Bp a ∧ Bp b) ∧ Bp c ∧ Bp d) ∧ RB w w' rb (p + 600) := by
  have hlt := hs0.lt
  have hset := cset_map
  have hD : BL w (w.alloc (.cells #[.int .i64 0, .int .i64 0, .int .i64 0, .int .i64 0] 30)) rb p [(w.heap.size, 4, (fun _ => 0))] := (BL.start hs0).new _ 4 (fun _ => 0) rfl (by intro i hi; rcases (show i = 0 ∨ i = 1 ∨ i = 2 ∨ i = 3 by omega) with rfl | rfl | rfl | rfl <;> rfl)
  go_enter Tryz.func49, Tryz.ntmps49
  go_upto_region 1 with fail
  generalize w.alloc (.cells #[.int .i64 0, .int .i64 0, .int .i64 0, .int .i64 0] 30) = w0 at hD ⊢
  go_cut [3] (fun s3 wc => ∃ (ab : Nat) (x y : Int), s3 = .pointer (some ⟨ab, 0, none⟩) ∧ w.heap.size < ab ∧ (-10000 ≤ x ∧ x ≤ 10000 ∧ -10000 ≤ y ∧ y ≤ 10000) ∧ BL w wc rb (p + 500) [(ab, 2, (fun j => [x, y].getD j 0)), (w.heap.size, 4, (fun _ => 0))])
  case first =>
    go_wp2_with (go_at_call 58; refine (l11Place_s rb p _ (by exact hD.rs) (by omega)).mono ?_; rintro e w1 ⟨x, y, rfl, hd1, hr1⟩)
    go_meet
    have hD1 := hD.call hr1
    have q1 : w.heap.size < w1.heap.size := hD1.lt (x := (w.heap.size, 4, (fun _ => 0))) (by simp)
    unfold Bm at hd1
    exact ⟨_, x, y, rfl, q1, by omega, (hD1.mono (by omega)).new _ 2 (fun j => [x, y].getD j 0) rfl (by intro i hi; rcases (show i = 0 ∨ i = 1 by omega) with rfl | rfl <;> rfl)⟩
  case rest =>
  clear hD
  obtain ⟨ab, x, y, rfl, hab, ⟨hx0, hx1, hy0, hy1⟩, hD⟩ := hcut
  have hn1 : ¬ ab = w.heap.size := by omega
  have hn2 : ¬ w.heap.size = ab := by omega
  obtain ⟨c0, c1⟩ := abf (ab := ab) (x := x) (y := y) hD (by simp)
  go_upto_region 2 with fail
  refine wp_region_held_drew (S := fun w' => w'.cell? ⟨ab, 0, none⟩ = some (.int .i64 x) ∧ w'.cell? ⟨ab, 1, none⟩ = some (.int .i64 y)) (by kernel_rfl) ?_ (fun hHeld => ?_)
  · (try dsimp only)
    (first | (go_simp; done) | (go_keep; done))
  refine tq 0 hHeld ?_
  refine tq 1 hHeld ?_
  refine tq 2 hHeld ?_
  refine tq 3 hHeld ?_
  refine tq 5 hHeld ?_
  refine tq 10 hHeld ?_
  refine tq 11 hHeld ?_
  refine tq 12 hHeld ?_
  refine tq 14 hHeld ?_
  refine wpAnyH_ready (rs := [4, 6, 15]) (by kernel_rfl) (by simp) ?_
  refine AllReadyH.cons rfl (fun K hK => ?_) (AllReadyH.cons rfl (fun K hK => ?_) (AllReadyH.cons rfl (fun K hK => ?_) AllReadyH.nil))
  · (go_simp
     replace hD := hD.drew
     (go_at_call 39; refine (pick3 hD (by omega)).mono ?_; rintro e w4 ⟨v4, rfl, va4, vb4, hD2⟩)
     clear c0 c1
     replace hD := hD2
     clear hD2
     obtain ⟨c0, c1⟩ := abf (ab := ab) (x := x) (y := y) hD (by simp)
     (try go_wp2_with fail)
     refine tr hK (fun hHeld => ?_)
     clear hK K)
    refine wpAnyH_ready (rs := [6, 15]) (by kernel_rfl) (by simp) ?_
    refine AllReadyH.cons rfl (fun K hK => ?_) (AllReadyH.cons rfl (fun K hK => ?_) AllReadyH.nil)
    · (go_simp
       clear c0 c1
       replace hD := hD.n3
       generalize w4.alloc (Obj.cells #[.int .i64 0, .int .i64 1, .int .i64 4] 3) = w6 at hD ⊢
       generalize w4.heap.size = b6 at hD ⊢
       obtain ⟨c0, c1⟩ := abf (ab := ab) (x := x) (y := y) hD (by simp)
       refine tr hK (fun hHeld => ?_)
       clear hK K)
      refine wpAnyH_ready (rs := [7, 15]) (by kernel_rfl) (by simp) ?_
      refine AllReadyH.cons rfl (fun K hK => ?_) (AllReadyH.cons rfl (fun K hK => ?_) AllReadyH.nil)
      · (go_simp
         (go_at_call 47; refine (one3 (b := b6) hD (by simp) (by omega)).mono ?_; rintro e w7 ⟨v7, rfl, va7, vb7, hD2⟩)
         clear c0 c1
         replace hD := hD2
         clear hD2
         obtain ⟨c0, c1⟩ := abf (ab := ab) (x := x) (y := y) hD (by simp)
         obtain ⟨hm7, hw7⟩ := ml14 va4 vb4 va7 vb7
         have hs7 : IntKind.i64.wrap (x + v4 * v7) = x + v4 * v7 := i64w (by omega)
         (try go_wp2_with fail)
         refine tr hK (fun hHeld => ?_)
         clear hK K)
        refine tq 8 hHeld ?_
        refine tq 9 hHeld ?_
        refine wpAnyH_ready (rs := [13, 15]) (by kernel_rfl) (by simp) ?_
        refine AllReadyH.cons rfl (fun K hK => ?_) (AllReadyH.cons rfl (fun K hK => ?_) AllReadyH.nil)
        · (go_simp
           (go_at_call 39; refine (pick3 hD (by omega)).mono ?_; rintro e w13 ⟨v13, rfl, va13, vb13, hD2⟩)
           clear c0 c1
           replace hD := hD2
           clear hD2
           obtain ⟨c0, c1⟩ := abf (ab := ab) (x := x) (y := y) hD (by simp)
           (try go_wp2_with fail)
           refine tr hK (fun hHeld => ?_)
           clear hK K)
          refine tc 15 fun K hK => ?_
          (go_simp
           clear c0 c1
           replace hD := hD.n3
           generalize w13.alloc (Obj.cells #[.int .i64 0, .int .i64 1, .int .i64 4] 3) = w15 at hD ⊢
           generalize w13.heap.size = b15 at hD ⊢
           obtain ⟨c0, c1⟩ := abf (ab := ab) (x := x) (y := y) hD (by simp)
           refine tr hK (fun hHeld => ?_)
           clear hK K)
          refine tc 16 fun K hK => ?_
          (go_simp
           (go_at_call 47; refine (one3 (b := b15) hD (by simp) (by omega)).mono ?_; rintro e w16 ⟨v16, rfl, va16, vb16, hD2⟩)
           clear c0 c1
           replace hD := hD2
           clear hD2
           obtain ⟨c0, c1⟩ := abf (ab := ab) (x := x) (y := y) hD (by simp)
           obtain ⟨hm16, hw16⟩ := ml14 va13 vb13 va16 vb16
           have hs16 : IntKind.i64.wrap (y + v13 * v16) = y + v13 * v16 := i64w (by omega)
           (try go_wp2_with fail)
           refine tr hK (fun hHeld => ?_)
           clear hK K)
          refine tq 17 hHeld ?_
          refine tq 18 hHeld ?_
          refine tq 19 hHeld ?_
          refine tq 20 hHeld ?_
          refine tc 21 fun K hK => ?_
          (obtain ⟨⟨z0, z1, z2, z3⟩, f0, f1, f2, f3⟩ := rsf hD (by simp)
           go_simp
           obtain ⟨hR, r0, r1, r2, r3, s0, s1⟩ := box_fin (ab := ab) (x := x) (y := y) (p1 := p + 600) hD (by simp) (by simp) hab (by omega) (x + v4 * v7) (y + v13 * v16)
           clear hD c0 c1 z0 z1 z2 z3 f0 f1 f2 f3
           generalize ((((w16.setCell ⟨w.heap.size, 0, none⟩ (.int .i64 x)).setCell ⟨w.heap.size, 1, none⟩ (.int .i64 y)).setCell ⟨w.heap.size, 2, none⟩ (.int .i64 (x + v4 * v7))).setCell ⟨w.heap.size, 3, none⟩ (.int .i64 (y + v13 * v16))) = w9 at hR r0 r1 r2 r3 s0 s1 ⊢
           refine tr hK (fun hHeld => ?_)
           clear hK K)
          refine wpAnyH_done (by kernel_rfl) ?_ _
          go_wp2_with fail
          exact bodyPost_ret (v := b4 x y (x + v4 * v7) (y + v13 * v16)) (by simp [results, Tryz.results49, go_sem, r0, r1, r2, r3]) rfl ⟨_, _, _, _, rfl, ⟨⟨Bp.mk (by omega), Bp.mk (by omega)⟩, Bp.mk (by omega), Bp.mk (by omega)⟩, hR⟩
        · (go_simp
           clear c0 c1
           replace hD := hD.n3
           generalize w7.alloc (Obj.cells #[.int .i64 0, .int .i64 1, .int .i64 4] 3) = w15 at hD ⊢
           generalize w7.heap.size = b15 at hD ⊢
           obtain ⟨c0, c1⟩ := abf (ab := ab) (x := x) (y := y) hD (by simp)
           refine tr hK (fun hHeld => ?_)
           clear hK K)
          refine tc 13 fun K hK => ?_
          (go_simp
           (go_at_call 39; refine (pick3 hD (by omega)).mono ?_; rintro e w13 ⟨v13, rfl, va13, vb13, hD2⟩)
           clear c0 c1
           replace hD := hD2
           clear hD2
           obtain ⟨c0, c1⟩ := abf (ab := ab) (x := x) (y := y) hD (by simp)
           (try go_wp2_with fail)
           refine tr hK (fun hHeld => ?_)
           clear hK K)
          refine tc 16 fun K hK => ?_
          (go_simp
           (go_at_call 47; refine (one3 (b := b15) hD (by simp) (by omega)).mono ?_; rintro e w16 ⟨v16, rfl, va16, vb16, hD2⟩)
           clear c0 c1
           replace hD := hD2
           clear hD2
           obtain ⟨c0, c1⟩ := abf (ab := ab) (x := x) (y := y) hD (by simp)
           obtain ⟨hm16, hw16⟩ := ml14 va13 vb13 va16 vb16
           have hs16 : IntKind.i64.wrap (y + v13 * v16) = y + v13 * v16 := i64w (by omega)
           (try go_wp2_with fail)
           refine tr hK (fun hHeld => ?_)
           clear hK K)
          refine tq 17 hHeld ?_
          refine tq 18 hHeld ?_
          refine tq 19 hHeld ?_
          refine tq 20 hHeld ?_
          refine tc 21 fun K hK => ?_
          (obtain ⟨⟨z0, z1, z2, z3⟩, f0, f1, f2, f3⟩ := rsf hD (by simp)
           go_simp
           obtain ⟨hR, r0, r1, r2, r3, s0, s1⟩ := box_fin (ab := ab) (x := x) (y := y) (p1 := p + 600) hD (by simp) (by simp) hab (by omega) (x + v4 * v7) (y + v13 * v16)
           clear hD c0 c1 z0 z1 z2 z3 f0 f1 f2 f3
           generalize ((((w16.setCell ⟨w.heap.size, 0, none⟩ (.int .i64 x)).setCell ⟨w.heap.size, 1, none⟩ (.int .i64 y)).setCell ⟨w.heap.size, 2, none⟩ (.int .i64 (x + v4 * v7))).setCell ⟨w.heap.size, 3, none⟩ (.int .i64 (y + v13 * v16))) = w9 at hR r0 r1 r2 r3 s0 s1 ⊢
           refine tr hK (fun hHeld => ?_)
           clear hK K)
          refine wpAnyH_done (by kernel_rfl) ?_ _
          go_wp2_with fail
          exact bodyPost_ret (v := b4 x y (x + v4 * v7) (y + v13 * v16)) (by simp [results, Tryz.results49, go_sem, r0, r1, r2, r3]) rfl ⟨_, _, _, _, rfl, ⟨⟨Bp.mk (by omega), Bp.mk (by omega)⟩, Bp.mk (by omega), Bp.mk (by omega)⟩, hR⟩
      · (go_simp
         clear c0 c1
         replace hD := hD.n3
         generalize w6.alloc (Obj.cells #[.int .i64 0, .int .i64 1, .int .i64 4] 3) = w15 at hD ⊢
         generalize w6.heap.size = b15 at hD ⊢
         obtain ⟨c0, c1⟩ := abf (ab := ab) (x := x) (y := y) hD (by simp)
         refine tr hK (fun hHeld => ?_)
         clear hK K)
        refine tc 7 fun K hK => ?_
        (go_simp
         (go_at_call 47; refine (one3 (b := b6) hD (by simp) (by omega)).mono ?_; rintro e w7 ⟨v7, rfl, va7, vb7, hD2⟩)
         clear c0 c1
         replace hD := hD2
         clear hD2
         obtain ⟨c0, c1⟩ := abf (ab := ab) (x := x) (y := y) hD (by simp)
         obtain ⟨hm7, hw7⟩ := ml14 va4 vb4 va7 vb7
         have hs7 : IntKind.i64.wrap (x + v4 * v7) = x + v4 * v7 := i64w (by omega)
         (try go_wp2_with fail)
         refine tr hK (fun hHeld => ?_)
         clear hK K)
        refine tq 8 hHeld ?_
        refine tq 9 hHeld ?_
        refine tc 13 fun K hK => ?_
        (go_simp
         (go_at_call 39; refine (pick3 hD (by omega)).mono ?_; rintro e w13 ⟨v13, rfl, va13, vb13, hD2⟩)
         clear c0 c1
         replace hD := hD2
         clear hD2
         obtain ⟨c0, c1⟩ := abf (ab := ab) (x := x) (y := y) hD (by simp)
         (try go_wp2_with fail)
         refine tr hK (fun hHeld => ?_)
         clear hK K)
        refine tc 16 fun K hK => ?_
        (go_simp
         (go_at_call 47; refine (one3 (b := b15) hD (by simp) (by omega)).mono ?_; rintro e w16 ⟨v16, rfl, va16, vb16, hD2⟩)
         clear c0 c1
         replace hD := hD2
         clear hD2
         obtain ⟨c0, c1⟩ := abf (ab := ab) (x := x) (y := y) hD (by simp)
         obtain ⟨hm16, hw16⟩ := ml14 va13 vb13 va16 vb16
         have hs16 : IntKind.i64.wrap (y + v13 * v16) = y + v13 * v16 := i64w (by omega)
         (try go_wp2_with fail)
         refine tr hK (fun hHeld => ?_)
         clear hK K)
        refine tq 17 hHeld ?_
        refine tq 18 hHeld ?_
        refine tq 19 hHeld ?_
        refine tq 20 hHeld ?_
        refine tc 21 fun K hK => ?_
        (obtain ⟨⟨z0, z1, z2, z3⟩, f0, f1, f2, f3⟩ := rsf hD (by simp)
         go_simp
         obtain ⟨hR, r0, r1, r2, r3, s0, s1⟩ := box_fin (ab := ab) (x := x) (y := y) (p1 := p + 600) hD (by simp) (by simp) hab (by omega) (x + v4 * v7) (y + v13 * v16)
         clear hD c0 c1 z0 z1 z2 z3 f0 f1 f2 f3
         generalize ((((w16.setCell ⟨w.heap.size, 0, none⟩ (.int .i64 x)).setCell ⟨w.heap.size, 1, none⟩ (.int .i64 y)).setCell ⟨w.heap.size, 2, none⟩ (.int .i64 (x + v4 * v7))).setCell ⟨w.heap.size, 3, none⟩ (.int .i64 (y + v13 * v16))) = w9 at hR r0 r1 r2 r3 s0 s1 ⊢
         refine tr hK (fun hHeld => ?_)
         clear hK K)
        refine wpAnyH_done (by kernel_rfl) ?_ _
        go_wp2_with fail
        exact bodyPost_ret (v := b4 x y (x + v4 * v7) (y + v13 * v16)) (by simp [results, Tryz.results49, go_sem, r0, r1, r2, r3]) rfl ⟨_, _, _, _, rfl, ⟨⟨Bp.mk (by omega), Bp.mk (by omega)⟩, Bp.mk (by omega), Bp.mk (by omega)⟩, hR⟩
    · (go_simp
       clear c0 c1
       replace hD := hD.n3
       generalize w4.alloc (Obj.cells #[.int .i64 0, .int .i64 1, .int .i64 4] 3) = w15 at hD ⊢
       generalize w4.heap.size = b15 at hD ⊢
       obtain ⟨c0, c1⟩ := abf (ab := ab) (x := x) (y := y) hD (by simp)
       refine tr hK (fun hHeld => ?_)
       clear hK K)
      refine tc 6 fun K hK => ?_
      (go_simp
       clear c0 c1
       replace hD := hD.n3
       generalize w15.alloc (Obj.cells #[.int .i64 0, .int .i64 1, .int .i64 4] 3) = w6 at hD ⊢
       generalize w15.heap.size = b6 at hD ⊢
       obtain ⟨c0, c1⟩ := abf (ab := ab) (x := x) (y := y) hD (by simp)
       refine tr hK (fun hHeld => ?_)
       clear hK K)
      refine tc 7 fun K hK => ?_
      (go_simp
       (go_at_call 47; refine (one3 (b := b6) hD (by simp) (by omega)).mono ?_; rintro e w7 ⟨v7, rfl, va7, vb7, hD2⟩)
       clear c0 c1
       replace hD := hD2
       clear hD2
       obtain ⟨c0, c1⟩ := abf (ab := ab) (x := x) (y := y) hD (by simp)
       obtain ⟨hm7, hw7⟩ := ml14 va4 vb4 va7 vb7
       have hs7 : IntKind.i64.wrap (x + v4 * v7) = x + v4 * v7 := i64w (by omega)
       (try go_wp2_with fail)
       refine tr hK (fun hHeld => ?_)
       clear hK K)
      refine tq 8 hHeld ?_
      refine tq 9 hHeld ?_
      refine tc 13 fun K hK => ?_
      (go_simp
       (go_at_call 39; refine (pick3 hD (by omega)).mono ?_; rintro e w13 ⟨v13, rfl, va13, vb13, hD2⟩)
       clear c0 c1
       replace hD := hD2
       clear hD2
       obtain ⟨c0, c1⟩ := abf (ab := ab) (x := x) (y := y) hD (by simp)
       (try go_wp2_with fail)
       refine tr hK (fun hHeld => ?_)
       clear hK K)
      refine tc 16 fun K hK => ?_
      (go_simp
       (go_at_call 47; refine (one3 (b := b15) hD (by simp) (by omega)).mono ?_; rintro e w16 ⟨v16, rfl, va16, vb16, hD2⟩)
       clear c0 c1
       replace hD := hD2
       clear hD2
       obtain ⟨c0, c1⟩ := abf (ab := ab) (x := x) (y := y) hD (by simp)
       obtain ⟨hm16, hw16⟩ := ml14 va13 vb13 va16 vb16
       have hs16 : IntKind.i64.wrap (y + v13 * v16) = y + v13 * v16 := i64w (by omega)
       (try go_wp2_with fail)
       refine tr hK (fun hHeld => ?_)
       clear hK K)
      refine tq 17 hHeld ?_
      refine tq 18 hHeld ?_
      refine tq 19 hHeld ?_
      refine tq 20 hHeld ?_
      refine tc 21 fun K hK => ?_
      (obtain ⟨⟨z0, z1, z2, z3⟩, f0, f1, f2, f3⟩ := rsf hD (by simp)
       go_simp
       obtain ⟨hR, r0, r1, r2, r3, s0, s1⟩ := box_fin (ab := ab) (x := x) (y := y) (p1 := p + 600) hD (by simp) (by simp) hab (by omega) (x + v4 * v7) (y + v13 * v16)
       clear hD c0 c1 z0 z1 z2 z3 f0 f1 f2 f3
       generalize ((((w16.setCell ⟨w.heap.size, 0, none⟩ (.int .i64 x)).setCell ⟨w.heap.size, 1, none⟩ (.int .i64 y)).setCell ⟨w.heap.size, 2, none⟩ (.int .i64 (x + v4 * v7))).setCell ⟨w.heap.size, 3, none⟩ (.int .i64 (y + v13 * v16))) = w9 at hR r0 r1 r2 r3 s0 s1 ⊢
       refine tr hK (fun hHeld => ?_)
       clear hK K)
      refine wpAnyH_done (by kernel_rfl) ?_ _
      go_wp2_with fail
      exact bodyPost_ret (v := b4 x y (x + v4 * v7) (y + v13 * v16)) (by simp [results, Tryz.results49, go_sem, r0, r1, r2, r3]) rfl ⟨_, _, _, _, rfl, ⟨⟨Bp.mk (by omega), Bp.mk (by omega)⟩, Bp.mk (by omega), Bp.mk (by omega)⟩, hR⟩
  · (go_simp
     clear c0 c1
     replace hD := hD.n3.drew
     generalize (wc.alloc (Obj.cells #[.int .i64 0, .int .i64 1, .int .i64 4] 3)).drew = w6 at hD ⊢
     generalize wc.heap.size = b6 at hD ⊢
     obtain ⟨c0, c1⟩ := abf (ab := ab) (x := x) (y := y) hD (by simp)
     refine tr hK (fun hHeld => ?_)
     clear hK K)
    refine wpAnyH_ready (rs := [4, 15]) (by kernel_rfl) (by simp) ?_
    refine AllReadyH.cons rfl (fun K hK => ?_) (AllReadyH.cons rfl (fun K hK => ?_) AllReadyH.nil)
    · (go_simp
       (go_at_call 39; refine (pick3 hD (by omega)).mono ?_; rintro e w4 ⟨v4, rfl, va4, vb4, hD2⟩)
       clear c0 c1
       replace hD := hD2
       clear hD2
       obtain ⟨c0, c1⟩ := abf (ab := ab) (x := x) (y := y) hD (by simp)
       (try go_wp2_with fail)
       refine tr hK (fun hHeld => ?_)
       clear hK K)
      refine wpAnyH_ready (rs := [7, 15]) (by kernel_rfl) (by simp) ?_
      refine AllReadyH.cons rfl (fun K hK => ?_) (AllReadyH.cons rfl (fun K hK => ?_) AllReadyH.nil)
      · (go_simp
         (go_at_call 47; refine (one3 (b := b6) hD (by simp) (by omega)).mono ?_; rintro e w7 ⟨v7, rfl, va7, vb7, hD2⟩)
         clear c0 c1
         replace hD := hD2
         clear hD2
         obtain ⟨c0, c1⟩ := abf (ab := ab) (x := x) (y := y) hD (by simp)
         obtain ⟨hm7, hw7⟩ := ml14 va4 vb4 va7 vb7
         have hs7 : IntKind.i64.wrap (x + v4 * v7) = x + v4 * v7 := i64w (by omega)
         (try go_wp2_with fail)
         refine tr hK (fun hHeld => ?_)
         clear hK K)
        refine tq 8 hHeld ?_
        refine tq 9 hHeld ?_
        refine wpAnyH_ready (rs := [13, 15]) (by kernel_rfl) (by simp) ?_
        refine AllReadyH.cons rfl (fun K hK => ?_) (AllReadyH.cons rfl (fun K hK => ?_) AllReadyH.nil)
        · (go_simp
           (go_at_call 39; refine (pick3 hD (by omega)).mono ?_; rintro e w13 ⟨v13, rfl, va13, vb13, hD2⟩)
           clear c0 c1
           replace hD := hD2
           clear hD2
           obtain ⟨c0, c1⟩ := abf (ab := ab) (x := x) (y := y) hD (by simp)
           (try go_wp2_with fail)
           refine tr hK (fun hHeld => ?_)
           clear hK K)
          refine tc 15 fun K hK => ?_
          (go_simp
           clear c0 c1
           replace hD := hD.n3
           generalize w13.alloc (Obj.cells #[.int .i64 0, .int .i64 1, .int .i64 4] 3) = w15 at hD ⊢
           generalize w13.heap.size = b15 at hD ⊢
           obtain ⟨c0, c1⟩ := abf (ab := ab) (x := x) (y := y) hD (by simp)
           refine tr hK (fun hHeld => ?_)
           clear hK K)
          refine tc 16 fun K hK => ?_
          (go_simp
           (go_at_call 47; refine (one3 (b := b15) hD (by simp) (by omega)).mono ?_; rintro e w16 ⟨v16, rfl, va16, vb16, hD2⟩)
           clear c0 c1
           replace hD := hD2
           clear hD2
           obtain ⟨c0, c1⟩ := abf (ab := ab) (x := x) (y := y) hD (by simp)
           obtain ⟨hm16, hw16⟩ := ml14 va13 vb13 va16 vb16
           have hs16 : IntKind.i64.wrap (y + v13 * v16) = y + v13 * v16 := i64w (by omega)
           (try go_wp2_with fail)
           refine tr hK (fun hHeld => ?_)
           clear hK K)
          refine tq 17 hHeld ?_
          refine tq 18 hHeld ?_
          refine tq 19 hHeld ?_
          refine tq 20 hHeld ?_
          refine tc 21 fun K hK => ?_
          (obtain ⟨⟨z0, z1, z2, z3⟩, f0, f1, f2, f3⟩ := rsf hD (by simp)
           go_simp
           obtain ⟨hR, r0, r1, r2, r3, s0, s1⟩ := box_fin (ab := ab) (x := x) (y := y) (p1 := p + 600) hD (by simp) (by simp) hab (by omega) (x + v4 * v7) (y + v13 * v16)
           clear hD c0 c1 z0 z1 z2 z3 f0 f1 f2 f3
           generalize ((((w16.setCell ⟨w.heap.size, 0, none⟩ (.int .i64 x)).setCell ⟨w.heap.size, 1, none⟩ (.int .i64 y)).setCell ⟨w.heap.size, 2, none⟩ (.int .i64 (x + v4 * v7))).setCell ⟨w.heap.size, 3, none⟩ (.int .i64 (y + v13 * v16))) = w9 at hR r0 r1 r2 r3 s0 s1 ⊢
           refine tr hK (fun hHeld => ?_)
           clear hK K)
          refine wpAnyH_done (by kernel_rfl) ?_ _
          go_wp2_with fail
          exact bodyPost_ret (v := b4 x y (x + v4 * v7) (y + v13 * v16)) (by simp [results, Tryz.results49, go_sem, r0, r1, r2, r3]) rfl ⟨_, _, _, _, rfl, ⟨⟨Bp.mk (by omega), Bp.mk (by omega)⟩, Bp.mk (by omega), Bp.mk (by omega)⟩, hR⟩
        · (go_simp
           clear c0 c1
           replace hD := hD.n3
           generalize w7.alloc (Obj.cells #[.int .i64 0, .int .i64 1, .int .i64 4] 3) = w15 at hD ⊢
           generalize w7.heap.size = b15 at hD ⊢
           obtain ⟨c0, c1⟩ := abf (ab := ab) (x := x) (y := y) hD (by simp)
           refine tr hK (fun hHeld => ?_)
           clear hK K)
          refine tc 13 fun K hK => ?_
          (go_simp
           (go_at_call 39; refine (pick3 hD (by omega)).mono ?_; rintro e w13 ⟨v13, rfl, va13, vb13, hD2⟩)
           clear c0 c1
           replace hD := hD2
           clear hD2
           obtain ⟨c0, c1⟩ := abf (ab := ab) (x := x) (y := y) hD (by simp)
           (try go_wp2_with fail)
           refine tr hK (fun hHeld => ?_)
           clear hK K)
          refine tc 16 fun K hK => ?_
          (go_simp
           (go_at_call 47; refine (one3 (b := b15) hD (by simp) (by omega)).mono ?_; rintro e w16 ⟨v16, rfl, va16, vb16, hD2⟩)
           clear c0 c1
           replace hD := hD2
           clear hD2
           obtain ⟨c0, c1⟩ := abf (ab := ab) (x := x) (y := y) hD (by simp)
           obtain ⟨hm16, hw16⟩ := ml14 va13 vb13 va16 vb16
           have hs16 : IntKind.i64.wrap (y + v13 * v16) = y + v13 * v16 := i64w (by omega)
           (try go_wp2_with fail)
           refine tr hK (fun hHeld => ?_)
           clear hK K)
          refine tq 17 hHeld ?_
          refine tq 18 hHeld ?_
          refine tq 19 hHeld ?_
          refine tq 20 hHeld ?_
          refine tc 21 fun K hK => ?_
          (obtain ⟨⟨z0, z1, z2, z3⟩, f0, f1, f2, f3⟩ := rsf hD (by simp)
           go_simp
           obtain ⟨hR, r0, r1, r2, r3, s0, s1⟩ := box_fin (ab := ab) (x := x) (y := y) (p1 := p + 600) hD (by simp) (by simp) hab (by omega) (x + v4 * v7) (y + v13 * v16)
           clear hD c0 c1 z0 z1 z2 z3 f0 f1 f2 f3
           generalize ((((w16.setCell ⟨w.heap.size, 0, none⟩ (.int .i64 x)).setCell ⟨w.heap.size, 1, none⟩ (.int .i64 y)).setCell ⟨w.heap.size, 2, none⟩ (.int .i64 (x + v4 * v7))).setCell ⟨w.heap.size, 3, none⟩ (.int .i64 (y + v13 * v16))) = w9 at hR r0 r1 r2 r3 s0 s1 ⊢
           refine tr hK (fun hHeld => ?_)
           clear hK K)
          refine wpAnyH_done (by kernel_rfl) ?_ _
          go_wp2_with fail
          exact bodyPost_ret (v := b4 x y (x + v4 * v7) (y + v13 * v16)) (by simp [results, Tryz.results49, go_sem, r0, r1, r2, r3]) rfl ⟨_, _, _, _, rfl, ⟨⟨Bp.mk (by omega), Bp.mk (by omega)⟩, Bp.mk (by omega), Bp.mk (by omega)⟩, hR⟩
      · (go_simp
         clear c0 c1
         replace hD := hD.n3
         generalize w4.alloc (Obj.cells #[.int .i64 0, .int .i64 1, .int .i64 4] 3) = w15 at hD ⊢
         generalize w4.heap.size = b15 at hD ⊢
         obtain ⟨c0, c1⟩ := abf (ab := ab) (x := x) (y := y) hD (by simp)
         refine tr hK (fun hHeld => ?_)
         clear hK K)
        refine tc 7 fun K hK => ?_
        (go_simp
         (go_at_call 47; refine (one3 (b := b6) hD (by simp) (by omega)).mono ?_; rintro e w7 ⟨v7, rfl, va7, vb7, hD2⟩)
         clear c0 c1
         replace hD := hD2
         clear hD2
         obtain ⟨c0, c1⟩ := abf (ab := ab) (x := x) (y := y) hD (by simp)
         obtain ⟨hm7, hw7⟩ := ml14 va4 vb4 va7 vb7
         have hs7 : IntKind.i64.wrap (x + v4 * v7) = x + v4 * v7 := i64w (by omega)
         (try go_wp2_with fail)
         refine tr hK (fun hHeld => ?_)
         clear hK K)
        refine tq 8 hHeld ?_
        refine tq 9 hHeld ?_
        refine tc 13 fun K hK => ?_
        (go_simp
         (go_at_call 39; refine (pick3 hD (by omega)).mono ?_; rintro e w13 ⟨v13, rfl, va13, vb13, hD2⟩)
         clear c0 c1
         replace hD := hD2
         clear hD2
         obtain ⟨c0, c1⟩ := abf (ab := ab) (x := x) (y := y) hD (by simp)
         (try go_wp2_with fail)
         refine tr hK (fun hHeld => ?_)
         clear hK K)
        refine tc 16 fun K hK => ?_
        (go_simp
         (go_at_call 47; refine (one3 (b := b15) hD (by simp) (by omega)).mono ?_; rintro e w16 ⟨v16, rfl, va16, vb16, hD2⟩)
         clear c0 c1
         replace hD := hD2
         clear hD2
         obtain ⟨c0, c1⟩ := abf (ab := ab) (x := x) (y := y) hD (by simp)
         obtain ⟨hm16, hw16⟩ := ml14 va13 vb13 va16 vb16
         have hs16 : IntKind.i64.wrap (y + v13 * v16) = y + v13 * v16 := i64w (by omega)
         (try go_wp2_with fail)
         refine tr hK (fun hHeld => ?_)
         clear hK K)
        refine tq 17 hHeld ?_
        refine tq 18 hHeld ?_
        refine tq 19 hHeld ?_
        refine tq 20 hHeld ?_
        refine tc 21 fun K hK => ?_
        (obtain ⟨⟨z0, z1, z2, z3⟩, f0, f1, f2, f3⟩ := rsf hD (by simp)
         go_simp
         obtain ⟨hR, r0, r1, r2, r3, s0, s1⟩ := box_fin (ab := ab) (x := x) (y := y) (p1 := p + 600) hD (by simp) (by simp) hab (by omega) (x + v4 * v7) (y + v13 * v16)
         clear hD c0 c1 z0 z1 z2 z3 f0 f1 f2 f3
         generalize ((((w16.setCell ⟨w.heap.size, 0, none⟩ (.int .i64 x)).setCell ⟨w.heap.size, 1, none⟩ (.int .i64 y)).setCell ⟨w.heap.size, 2, none⟩ (.int .i64 (x + v4 * v7))).setCell ⟨w.heap.size, 3, none⟩ (.int .i64 (y + v13 * v16))) = w9 at hR r0 r1 r2 r3 s0 s1 ⊢
         refine tr hK (fun hHeld => ?_)
         clear hK K)
        refine wpAnyH_done (by kernel_rfl) ?_ _
        go_wp2_with fail
        exact bodyPost_ret (v := b4 x y (x + v4 * v7) (y + v13 * v16)) (by simp [results, Tryz.results49, go_sem, r0, r1, r2, r3]) rfl ⟨_, _, _, _, rfl, ⟨⟨Bp.mk (by omega), Bp.mk (by omega)⟩, Bp.mk (by omega), Bp.mk (by omega)⟩, hR⟩
    · (go_simp
       clear c0 c1
       replace hD := hD.n3
       generalize w6.alloc (Obj.cells #[.int .i64 0, .int .i64 1, .int .i64 4] 3) = w15 at hD ⊢
       generalize w6.heap.size = b15 at hD ⊢
       obtain ⟨c0, c1⟩ := abf (ab := ab) (x := x) (y := y) hD (by simp)
       refine tr hK (fun hHeld => ?_)
       clear hK K)
      refine tc 4 fun K hK => ?_
      (go_simp
       (go_at_call 39; refine (pick3 hD (by omega)).mono ?_; rintro e w4 ⟨v4, rfl, va4, vb4, hD2⟩)
       clear c0 c1
       replace hD := hD2
       clear hD2
       obtain ⟨c0, c1⟩ := abf (ab := ab) (x := x) (y := y) hD (by simp)
       (try go_wp2_with fail)
       refine tr hK (fun hHeld => ?_)
       clear hK K)
      refine tc 7 fun K hK => ?_
      (go_simp
       (go_at_call 47; refine (one3 (b := b6) hD (by simp) (by omega)).mono ?_; rintro e w7 ⟨v7, rfl, va7, vb7, hD2⟩)
       clear c0 c1
       replace hD := hD2
       clear hD2
       obtain ⟨c0, c1⟩ := abf (ab := ab) (x := x) (y := y) hD (by simp)
       obtain ⟨hm7, hw7⟩ := ml14 va4 vb4 va7 vb7
       have hs7 : IntKind.i64.wrap (x + v4 * v7) = x + v4 * v7 := i64w (by omega)
       (try go_wp2_with fail)
       refine tr hK (fun hHeld => ?_)
       clear hK K)
      refine tq 8 hHeld ?_
      refine tq 9 hHeld ?_
      refine tc 13 fun K hK => ?_
      (go_simp
       (go_at_call 39; refine (pick3 hD (by omega)).mono ?_; rintro e w13 ⟨v13, rfl, va13, vb13, hD2⟩)
       clear c0 c1
       replace hD := hD2
       clear hD2
       obtain ⟨c0, c1⟩ := abf (ab := ab) (x := x) (y := y) hD (by simp)
       (try go_wp2_with fail)
       refine tr hK (fun hHeld => ?_)
       clear hK K)
      refine tc 16 fun K hK => ?_
      (go_simp
       (go_at_call 47; refine (one3 (b := b15) hD (by simp) (by omega)).mono ?_; rintro e w16 ⟨v16, rfl, va16, vb16, hD2⟩)
       clear c0 c1
       replace hD := hD2
       clear hD2
       obtain ⟨c0, c1⟩ := abf (ab := ab) (x := x) (y := y) hD (by simp)
       obtain ⟨hm16, hw16⟩ := ml14 va13 vb13 va16 vb16
       have hs16 : IntKind.i64.wrap (y + v13 * v16) = y + v13 * v16 := i64w (by omega)
       (try go_wp2_with fail)
       refine tr hK (fun hHeld => ?_)
       clear hK K)
      refine tq 17 hHeld ?_
      refine tq 18 hHeld ?_
      refine tq 19 hHeld ?_
      refine tq 20 hHeld ?_
      refine tc 21 fun K hK => ?_
      (obtain ⟨⟨z0, z1, z2, z3⟩, f0, f1, f2, f3⟩ := rsf hD (by simp)
       go_simp
       obtain ⟨hR, r0, r1, r2, r3, s0, s1⟩ := box_fin (ab := ab) (x := x) (y := y) (p1 := p + 600) hD (by simp) (by simp) hab (by omega) (x + v4 * v7) (y + v13 * v16)
       clear hD c0 c1 z0 z1 z2 z3 f0 f1 f2 f3
       generalize ((((w16.setCell ⟨w.heap.size, 0, none⟩ (.int .i64 x)).setCell ⟨w.heap.size, 1, none⟩ (.int .i64 y)).setCell ⟨w.heap.size, 2, none⟩ (.int .i64 (x + v4 * v7))).setCell ⟨w.heap.size, 3, none⟩ (.int .i64 (y + v13 * v16))) = w9 at hR r0 r1 r2 r3 s0 s1 ⊢
       refine tr hK (fun hHeld => ?_)
       clear hK K)
      refine wpAnyH_done (by kernel_rfl) ?_ _
      go_wp2_with fail
      exact bodyPost_ret (v := b4 x y (x + v4 * v7) (y + v13 * v16)) (by simp [results, Tryz.results49, go_sem, r0, r1, r2, r3]) rfl ⟨_, _, _, _, rfl, ⟨⟨Bp.mk (by omega), Bp.mk (by omega)⟩, Bp.mk (by omega), Bp.mk (by omega)⟩, hR⟩
  · (go_simp
     clear c0 c1
     replace hD := hD.n3.drew
     generalize (wc.alloc (Obj.cells #[.int .i64 0, .int .i64 1, .int .i64 4] 3)).drew = w15 at hD ⊢
     generalize wc.heap.size = b15 at hD ⊢
     obtain ⟨c0, c1⟩ := abf (ab := ab) (x := x) (y := y) hD (by simp)
     refine tr hK (fun hHeld => ?_)
     clear hK K)
    refine wpAnyH_ready (rs := [4, 6]) (by kernel_rfl) (by simp) ?_
    refine AllReadyH.cons rfl (fun K hK => ?_) (AllReadyH.cons rfl (fun K hK => ?_) AllReadyH.nil)
    · (go_simp
       (go_at_call 39; refine (pick3 hD (by omega)).mono ?_; rintro e w4 ⟨v4, rfl, va4, vb4, hD2⟩)
       clear c0 c1
       replace hD := hD2
       clear hD2
       obtain ⟨c0, c1⟩ := abf (ab := ab) (x := x) (y := y) hD (by simp)
       (try go_wp2_with fail)
       refine tr hK (fun hHeld => ?_)
       clear hK K)
      refine tc 6 fun K hK => ?_
      (go_simp
       clear c0 c1
       replace hD := hD.n3
       generalize w4.alloc (Obj.cells #[.int .i64 0, .int .i64 1, .int .i64 4] 3) = w6 at hD ⊢
       generalize w4.heap.size = b6 at hD ⊢
       obtain ⟨c0, c1⟩ := abf (ab := ab) (x := x) (y := y) hD (by simp)
       refine tr hK (fun hHeld => ?_)
       clear hK K)
      refine tc 7 fun K hK => ?_
      (go_simp
       (go_at_call 47; refine (one3 (b := b6) hD (by simp) (by omega)).mono ?_; rintro e w7 ⟨v7, rfl, va7, vb7, hD2⟩)
       clear c0 c1
       replace hD := hD2
       clear hD2
       obtain ⟨c0, c1⟩ := abf (ab := ab) (x := x) (y := y) hD (by simp)
       obtain ⟨hm7, hw7⟩ := ml14 va4 vb4 va7 vb7
       have hs7 : IntKind.i64.wrap (x + v4 * v7) = x + v4 * v7 := i64w (by omega)
       (try go_wp2_with fail)
       refine tr hK (fun hHeld => ?_)
       clear hK K)
      refine tq 8 hHeld ?_
      refine tq 9 hHeld ?_
      refine tc 13 fun K hK => ?_
      (go_simp
       (go_at_call 39; refine (pick3 hD (by omega)).mono ?_; rintro e w13 ⟨v13, rfl, va13, vb13, hD2⟩)
       clear c0 c1
       replace hD := hD2
       clear hD2
       obtain ⟨c0, c1⟩ := abf (ab := ab) (x := x) (y := y) hD (by simp)
       (try go_wp2_with fail)
       refine tr hK (fun hHeld => ?_)
       clear hK K)
      refine tc 16 fun K hK => ?_
      (go_simp
       (go_at_call 47; refine (one3 (b := b15) hD (by simp) (by omega)).mono ?_; rintro e w16 ⟨v16, rfl, va16, vb16, hD2⟩)
       clear c0 c1
       replace hD := hD2
       clear hD2
       obtain ⟨c0, c1⟩ := abf (ab := ab) (x := x) (y := y) hD (by simp)
       obtain ⟨hm16, hw16⟩ := ml14 va13 vb13 va16 vb16
       have hs16 : IntKind.i64.wrap (y + v13 * v16) = y + v13 * v16 := i64w (by omega)
       (try go_wp2_with fail)
       refine tr hK (fun hHeld => ?_)
       clear hK K)
      refine tq 17 hHeld ?_
      refine tq 18 hHeld ?_
      refine tq 19 hHeld ?_
      refine tq 20 hHeld ?_
      refine tc 21 fun K hK => ?_
      (obtain ⟨⟨z0, z1, z2, z3⟩, f0, f1, f2, f3⟩ := rsf hD (by simp)
       go_simp
       obtain ⟨hR, r0, r1, r2, r3, s0, s1⟩ := box_fin (ab := ab) (x := x) (y := y) (p1 := p + 600) hD (by simp) (by simp) hab (by omega) (x + v4 * v7) (y + v13 * v16)
       clear hD c0 c1 z0 z1 z2 z3 f0 f1 f2 f3
       generalize ((((w16.setCell ⟨w.heap.size, 0, none⟩ (.int .i64 x)).setCell ⟨w.heap.size, 1, none⟩ (.int .i64 y)).setCell ⟨w.heap.size, 2, none⟩ (.int .i64 (x + v4 * v7))).setCell ⟨w.heap.size, 3, none⟩ (.int .i64 (y + v13 * v16))) = w9 at hR r0 r1 r2 r3 s0 s1 ⊢
       refine tr hK (fun hHeld => ?_)
       clear hK K)
      refine wpAnyH_done (by kernel_rfl) ?_ _
      go_wp2_with fail
      exact bodyPost_ret (v := b4 x y (x + v4 * v7) (y + v13 * v16)) (by simp [results, Tryz.results49, go_sem, r0, r1, r2, r3]) rfl ⟨_, _, _, _, rfl, ⟨⟨Bp.mk (by omega), Bp.mk (by omega)⟩, Bp.mk (by omega), Bp.mk (by omega)⟩, hR⟩
    · (go_simp
       clear c0 c1
       replace hD := hD.n3
       generalize w15.alloc (Obj.cells #[.int .i64 0, .int .i64 1, .int .i64 4] 3) = w6 at hD ⊢
       generalize w15.heap.size = b6 at hD ⊢
       obtain ⟨c0, c1⟩ := abf (ab := ab) (x := x) (y := y) hD (by simp)
       refine tr hK (fun hHeld => ?_)
       clear hK K)
      refine tc 4 fun K hK => ?_
      (go_simp
       (go_at_call 39; refine (pick3 hD (by omega)).mono ?_; rintro e w4 ⟨v4, rfl, va4, vb4, hD2⟩)
       clear c0 c1
       replace hD := hD2
       clear hD2
       obtain ⟨c0, c1⟩ := abf (ab := ab) (x := x) (y := y) hD (by simp)
       (try go_wp2_with fail)
       refine tr hK (fun hHeld => ?_)
       clear hK K)
      refine tc 7 fun K hK => ?_
      (go_simp
       (go_at_call 47; refine (one3 (b := b6) hD (by simp) (by omega)).mono ?_; rintro e w7 ⟨v7, rfl, va7, vb7, hD2⟩)
       clear c0 c1
       replace hD := hD2
       clear hD2
       obtain ⟨c0, c1⟩ := abf (ab := ab) (x := x) (y := y) hD (by simp)
       obtain ⟨hm7, hw7⟩ := ml14 va4 vb4 va7 vb7
       have hs7 : IntKind.i64.wrap (x + v4 * v7) = x + v4 * v7 := i64w (by omega)
       (try go_wp2_with fail)
       refine tr hK (fun hHeld => ?_)
       clear hK K)
      refine tq 8 hHeld ?_
      refine tq 9 hHeld ?_
      refine tc 13 fun K hK => ?_
      (go_simp
       (go_at_call 39; refine (pick3 hD (by omega)).mono ?_; rintro e w13 ⟨v13, rfl, va13, vb13, hD2⟩)
       clear c0 c1
       replace hD := hD2
       clear hD2
       obtain ⟨c0, c1⟩ := abf (ab := ab) (x := x) (y := y) hD (by simp)
       (try go_wp2_with fail)
       refine tr hK (fun hHeld => ?_)
       clear hK K)
      refine tc 16 fun K hK => ?_
      (go_simp
       (go_at_call 47; refine (one3 (b := b15) hD (by simp) (by omega)).mono ?_; rintro e w16 ⟨v16, rfl, va16, vb16, hD2⟩)
       clear c0 c1
       replace hD := hD2
       clear hD2
       obtain ⟨c0, c1⟩ := abf (ab := ab) (x := x) (y := y) hD (by simp)
       obtain ⟨hm16, hw16⟩ := ml14 va13 vb13 va16 vb16
       have hs16 : IntKind.i64.wrap (y + v13 * v16) = y + v13 * v16 := i64w (by omega)
       (try go_wp2_with fail)
       refine tr hK (fun hHeld => ?_)
       clear hK K)
      refine tq 17 hHeld ?_
      refine tq 18 hHeld ?_
      refine tq 19 hHeld ?_
      refine tq 20 hHeld ?_
      refine tc 21 fun K hK => ?_
      (obtain ⟨⟨z0, z1, z2, z3⟩, f0, f1, f2, f3⟩ := rsf hD (by simp)
       go_simp
       obtain ⟨hR, r0, r1, r2, r3, s0, s1⟩ := box_fin (ab := ab) (x := x) (y := y) (p1 := p + 600) hD (by simp) (by simp) hab (by omega) (x + v4 * v7) (y + v13 * v16)
       clear hD c0 c1 z0 z1 z2 z3 f0 f1 f2 f3
       generalize ((((w16.setCell ⟨w.heap.size, 0, none⟩ (.int .i64 x)).setCell ⟨w.heap.size, 1, none⟩ (.int .i64 y)).setCell ⟨w.heap.size, 2, none⟩ (.int .i64 (x + v4 * v7))).setCell ⟨w.heap.size, 3, none⟩ (.int .i64 (y + v13 * v16))) = w9 at hR r0 r1 r2 r3 s0 s1 ⊢
       refine tr hK (fun hHeld => ?_)
       clear hK K)
      refine wpAnyH_done (by kernel_rfl) ?_ _
      go_wp2_with fail
      exact bodyPost_ret (v := b4 x y (x + v4 * v7) (y + v13 * v16)) (by simp [results, Tryz.results49, go_sem, r0, r1, r2, r3]) rfl ⟨_, _, _, _, rfl, ⟨⟨Bp.mk (by omega), Bp.mk (by omega)⟩, Bp.mk (by omega), Bp.mk (by omega)⟩, hR⟩
set_option maxHeartbeats 2000000 in
theorem l11AnyBox_s (rb p : Nat) (w : World) (hs0 : RS w rb p) (hp : p ≤ 988000) :
    Calls Tryz.prog 20 #[.pointer (some ⟨rb, 0, none⟩)] w fun e w' => ∃ a b c d : Int, e = .returned (b4 a b c d) ∧ ((Bn a ∧ Bn b) ∧ Bn c ∧ Bn d) ∧ RB w w' rb (p + 6000) := by
  have hlt := hs0.lt
  have hne : (w.heap.size = rb) = False := eq_false (by omega)
  have hset := cset_map
  go_enter Tryz.func20, Tryz.ntmps20
  go_wp2_with (first
    | (have _ := hr1; go_at_call 39; refine (pick_s rb (p + 2000) _ _ (by repeat (first | (with_reducible apply RS.setNew; rotate_left; (first | omega | (simp only [World.size_drew, World.size_alloc, World.size_setCell]; omega))) | with_reducible apply RS.alloc | (with_reducible apply RS.up hr1; omega) | (with_reducible apply RS.mono hs0; omega) | with_reducible apply RS.drew | with_reducible apply RS.drewN)) (by omega) (by omega) (by omega)).mono ?_; rintro e w2 ⟨v2, rfl, va2, vb2, hr2⟩; obtain ⟨hc2, hf2⟩ := RB.cells hr2; have hz2 := RB.size hr2; (try simp only [World.size_drew, World.size_alloc, World.size_setCell] at hc2 hf2 hz2); have hq2x0 : w.heap.size < w2.heap.size := (by omega); have ha2x0 : (w2.heap.size = w.heap.size) = False := eq_false (by omega); have hb2x0 : (w.heap.size = w2.heap.size) = False := eq_false (by omega); have he2x0 : (w.heap.size = rb) = False := eq_false (by omega); have hk2x0 := fun o => hc2 (w.heap.size) o (by omega) (by omega); have hj2x0 := fun o => hf2 (w.heap.size) o (by omega) (by omega); have hq2x1 : w1.heap.size < w2.heap.size := (by omega); have ha2x1 : (w2.heap.size = w1.heap.size) = False := eq_false (by omega); have hb2x1 : (w1.heap.size = w2.heap.size) = False := eq_false (by omega); have he2x1 : (w1.heap.size = rb) = False := eq_false (by omega); have hk2x1 := fun o => hc2 (w1.heap.size) o (by omega) (by omega); have hj2x1 := fun o => hf2 (w1.heap.size) o (by omega) (by omega))
    | (have _ := hr2; go_at_call 47; refine (one_s (-1000000001) 1 rb (p + 3000) _ _ _ _ _ (by repeat (first | (with_reducible apply RS.setNew; rotate_left; (first | omega | (simp only [World.size_drew, World.size_alloc, World.size_setCell]; omega))) | with_reducible apply RS.alloc | (with_reducible apply RS.up hr2; omega) | (with_reducible apply RS.mono hs0; omega) | with_reducible apply RS.drew | with_reducible apply RS.drewN)) (by omega) (by repeat (first | exact AllBd.nil | refine AllBd.cons (by omega) (by omega) ?_)) (by rfl) (by omega) (by omega)).mono ?_; rintro e w3 ⟨v3, rfl, va3, vb3, hr3⟩; obtain ⟨hc3, hf3⟩ := RB.cells hr3; have hz3 := RB.size hr3; (try simp only [World.size_drew, World.size_alloc, World.size_setCell] at hc3 hf3 hz3); have hq3x0 : w.heap.size < w3.heap.size := (by omega); have ha3x0 : (w3.heap.size = w.heap.size) = False := eq_false (by omega); have hb3x0 : (w.heap.size = w3.heap.size) = False := eq_false (by omega); have he3x0 : (w.heap.size = rb) = False := eq_false (by omega); have hk3x0 := fun o => hc3 (w.heap.size) o (by omega) (by omega); have hj3x0 := fun o => hf3 (w.heap.size) o (by omega) (by omega); have hq3x1 : w1.heap.size < w3.heap.size := (by omega); have ha3x1 : (w3.heap.size = w1.heap.size) = False := eq_false (by omega); have hb3x1 : (w1.heap.size = w3.heap.size) = False := eq_false (by omega); have he3x1 : (w1.heap.size = rb) = False := eq_false (by omega); have hk3x1 := fun o => hc3 (w1.heap.size) o (by omega) (by omega); have hj3x1 := fun o => hf3 (w1.heap.size) o (by omega) (by omega))
    | (go_at_call 49; refine (l11Box_s rb (p + 1000) _ (by repeat (first | (with_reducible apply RS.setNew; rotate_left; (first | omega | (simp only [World.size_drew, World.size_alloc, World.size_setCell]; omega))) | with_reducible apply RS.alloc | (with_reducible apply RS.mono hs0; omega) | with_reducible apply RS.drew | with_reducible apply RS.drewN)) (by omega)).mono ?_; rintro e w1 ⟨a1, b1, c1, d1, rfl, hd1, hr1⟩; obtain ⟨hc1, hf1⟩ := RB.cells hr1; have hz1 := RB.size hr1; (try simp only [World.size_drew, World.size_alloc, World.size_setCell] at hc1 hf1 hz1); have hq1x0 : w.heap.size < w1.heap.size := (by omega); have ha1x0 : (w1.heap.size = w.heap.size) = False := eq_false (by omega); have hb1x0 : (w.heap.size = w1.heap.size) = False := eq_false (by omega); have he1x0 : (w.heap.size = rb) = False := eq_false (by omega); have hk1x0 := fun o => hc1 (w.heap.size) o (by omega) (by omega); have hj1x0 := fun o => hf1 (w.heap.size) o (by omega) (by omega); obtain ⟨⟨⟨a1a, a1b⟩, ⟨b1a, b1b⟩⟩, ⟨c1a, c1b⟩, ⟨d1a, d1b⟩⟩ := hd1))
  · exact bodyPost_ret (v := b4 a1 b1 (a1 - 1) d1) (by simp [results, Tryz.results20, go_sem, *]) rfl ⟨_, _, _, _, rfl, ⟨⟨Bn.mk ⟨by omega, by omega⟩, Bn.mk ⟨by omega, by omega⟩⟩, Bn.mk ⟨by omega, by omega⟩, Bn.mk ⟨by omega, by omega⟩⟩, RB.mk (by repeat (first | (with_reducible apply But.setNew; rotate_left; (first | omega | (simp only [World.size_drew, World.size_alloc, World.size_setCell]; omega))) | with_reducible apply But.alloc | with_reducible apply But.trans (k := RB.but hr2) | with_reducible apply But.trans (k := RB.but hr1) | with_reducible apply But.refl | with_reducible apply But.drewN | with_reducible apply But.drew)) (by repeat (first | (with_reducible apply RS.setNew; rotate_left; (first | omega | (simp only [World.size_drew, World.size_alloc, World.size_setCell]; omega))) | with_reducible apply RS.alloc | (with_reducible apply RS.up hr2; omega) | (with_reducible apply RS.up hr1; omega) | (with_reducible apply RS.mono hs0; omega) | with_reducible apply RS.drew | with_reducible apply RS.drewN))⟩
  · exact bodyPost_ret (v := b4 a1 v3 c1 d1) (by simp [results, Tryz.results20, go_sem, *]) rfl ⟨_, _, _, _, rfl, ⟨⟨Bn.mk ⟨by omega, by omega⟩, Bn.mk ⟨by omega, by omega⟩⟩, Bn.mk ⟨by omega, by omega⟩, Bn.mk ⟨by omega, by omega⟩⟩, RB.mk (by repeat (first | (with_reducible apply But.setNew; rotate_left; (first | omega | (simp only [World.size_drew, World.size_alloc, World.size_setCell]; omega))) | with_reducible apply But.alloc | with_reducible apply But.trans (k := RB.but hr3) | with_reducible apply But.trans (k := RB.but hr2) | with_reducible apply But.trans (k := RB.but hr1) | with_reducible apply But.refl | with_reducible apply But.drewN | with_reducible apply But.drew)) (by repeat (first | (with_reducible apply RS.setNew; rotate_left; (first | omega | (simp only [World.size_drew, World.size_alloc, World.size_setCell]; omega))) | with_reducible apply RS.alloc | (with_reducible apply RS.up hr3; omega) | (with_reducible apply RS.up hr2; omega) | (with_reducible apply RS.up hr1; omega) | (with_reducible apply RS.mono hs0; omega) | with_reducible apply RS.drew | with_reducible apply RS.drewN))⟩
  · exact bodyPost_ret (v := b4 a1 b1 1000000000 1000000000) (by simp [results, Tryz.results20, go_sem, *]) rfl ⟨_, _, _, _, rfl, ⟨⟨Bn.mk ⟨by omega, by omega⟩, Bn.mk ⟨by omega, by omega⟩⟩, Bn.mk ⟨by omega, by omega⟩, Bn.mk ⟨by omega, by omega⟩⟩, RB.mk (by repeat (first | (with_reducible apply But.setNew; rotate_left; (first | omega | (simp only [World.size_drew, World.size_alloc, World.size_setCell]; omega))) | with_reducible apply But.alloc | with_reducible apply But.trans (k := RB.but hr2) | with_reducible apply But.trans (k := RB.but hr1) | with_reducible apply But.refl | with_reducible apply But.drewN | with_reducible apply But.drew)) (by repeat (first | (with_reducible apply RS.setNew; rotate_left; (first | omega | (simp only [World.size_drew, World.size_alloc, World.size_setCell]; omega))) | with_reducible apply RS.alloc | (with_reducible apply RS.up hr2; omega) | (with_reducible apply RS.up hr1; omega) | (with_reducible apply RS.mono hs0; omega) | with_reducible apply RS.drew | with_reducible apply RS.drewN))⟩
  · exact bodyPost_ret (v := b4 a1 b1 c1 d1) (by simp [results, Tryz.results20, go_sem, *]) rfl ⟨_, _, _, _, rfl, ⟨⟨Bn.mk ⟨by omega, by omega⟩, Bn.mk ⟨by omega, by omega⟩⟩, Bn.mk ⟨by omega, by omega⟩, Bn.mk ⟨by omega, by omega⟩⟩, RB.mk (by repeat (first | (with_reducible apply But.setNew; rotate_left; (first | omega | (simp only [World.size_drew, World.size_alloc, World.size_setCell]; omega))) | with_reducible apply But.alloc | with_reducible apply But.trans (k := RB.but hr2) | with_reducible apply But.trans (k := RB.but hr1) | with_reducible apply But.refl | with_reducible apply But.drewN | with_reducible apply But.drew)) (by repeat (first | (with_reducible apply RS.setNew; rotate_left; (first | omega | (simp only [World.size_drew, World.size_alloc, World.size_setCell]; omega))) | with_reducible apply RS.alloc | (with_reducible apply RS.up hr2; omega) | (with_reducible apply RS.up hr1; omega) | (with_reducible apply RS.mono hs0; omega) | with_reducible apply RS.drew | with_reducible apply RS.drewN))⟩
set_option maxRecDepth 20000 in
set_option maxHeartbeats 8000000 in
theorem drawWorldIn_w (ac : Option Addr) (len cap : Nat) (w : World) (hb : Bytes w ac len cap) :
    Calls Tryz.prog 5 #[.slice ac len cap] w fun e w' => ∃ (T P : Int) (a : Option Addr) (n c : Nat) (U : Nat → Int) (a' : Option Addr) (m c' : Nat) (Q : Nat → Int) (x y u v : Int), e = .returned (.tuple #[worldW T P a n c a' m c', b4 x y u v]) ∧ (n ≤ 13 ∧ m ≤ 433) ∧ OutW w w' a n c U a' m c' Q := by
  have hset := cset_map
  have hE0 : Below w.heap.size w ((w.alloc (.cells #[.int .i64 0, .int .i64 0, .slice none 0 0, .slice none 0 0] 26)).alloc (.cells #[.int .i64 0, .int .i64 0, .int .i64 0, .int .i64 0] 30)) := ((Below.refl _ _).alloc (Nat.le_refl _) _).alloc (by simp) _
  have hb0 := hb.on hE0
  have hR : Wb ((w.alloc (.cells #[.int .i64 0, .int .i64 0, .slice none 0 0, .slice none 0 0] 26)).alloc (.cells #[.int .i64 0, .int .i64 0, .int .i64 0, .int .i64 0] 30)) w.heap.size (.int .i64 0) (.int .i64 0) (.slice none 0 0) (.slice none 0 0) := (Wb.new w _ _ _ _).on (balloc _ _)
  have hS : Xb ((w.alloc (.cells #[.int .i64 0, .int .i64 0, .slice none 0 0, .slice none 0 0] 26)).alloc (.cells #[.int .i64 0, .int .i64 0, .int .i64 0, .int .i64 0] 30)) (w.heap.size + 1) 0 0 0 0 := by have q := Xb.new (w.alloc (.cells #[.int .i64 0, .int .i64 0, .slice none 0 0, .slice none 0 0] 26)) 0 0 0 0; rw [show (w.alloc (.cells #[.int .i64 0, .int .i64 0, .slice none 0 0, .slice none 0 0] 26)).heap.size = w.heap.size + 1 by simp] at q; exact q
  have hz : ((w.alloc (.cells #[.int .i64 0, .int .i64 0, .slice none 0 0, .slice none 0 0] 26)).alloc (.cells #[.int .i64 0, .int .i64 0, .int .i64 0, .int .i64 0] 30)).heap.size = w.heap.size + 1 + 1 := by simp
  go_enter Tryz.func5, Tryz.ntmps5
  go_upto_region 1 with fail
  generalize ((w.alloc (.cells #[.int .i64 0, .int .i64 0, .slice none 0 0, .slice none 0 0] 26)).alloc (.cells #[.int .i64 0, .int .i64 0, .int .i64 0, .int .i64 0] 30)) = w0 at hE0 hb0 hR hS hz ⊢
  go_cut [4] (fun s4 wc => ∃ rb : Nat, s4 = .pointer (some ⟨rb, 0, none⟩) ∧ w.heap.size + 1 < rb ∧ rb < wc.heap.size ∧ RS wc rb 0 ∧ Below w.heap.size w wc ∧ Wb wc w.heap.size (.int .i64 0) (.int .i64 0) (.slice none 0 0) (.slice none 0 0) ∧ Xb wc (w.heap.size + 1) 0 0 0 0)
  case first =>
    go_wp2_with (go_at_call 18; refine (l1Open_rb _ _ _ _ hb0).mono ?_; rintro e w1 ⟨rfl, hr1, hbel⟩)
    go_meet
    rw [hz] at hr1
    exact ⟨w.heap.size + 1 + 1, rfl, by omega, (RS.of hr1).lt, RS.of hr1, hE0.trans (hbel.mono hE0.size), hR.on hbel, hS.on hbel⟩
  case rest =>
  clear hE0 hb0 hR hS hz
  obtain ⟨rb, rfl, hlo, hrl, hrs, hbel, hR, hS⟩ := hcut
  go_wp2_with (first
    | (have _ := hD; go_at_call 20; refine (l11AnyBox_s rb 71100 _ (by exact hD.rs.mono (by omega)) (by omega)).mono ?_; rintro e w3 ⟨x, y, u, v, rfl, hxy, hr3⟩; have hR3 := (hR.but hD.but (by omega)).but (RB.but hr3) (by omega); have hS3 := (hS.but hD.but (by omega)).but (RB.but hr3) (by omega); have y0 := hR3.vb.c0; have y1 := hR3.vb.c1; have y2 := hR3.vb.c2; have y3 := hR3.vb.c3; have yf := hR3.vb.f; have z0 := hS3.c0; have z1 := hS3.c1; have z2 := hS3.c2; have z3 := hS3.c3; have zf := hS3.f; have hN1 : ¬ w.heap.size = w.heap.size + 1 := (by omega); have hN2 : ¬ w.heap.size + 1 = w.heap.size := (by omega))
    | (go_at_call 19; refine (l11AnyWorld_w rb 0 _ (by exact hrs) (by omega)).mono ?_; rintro e w2 ⟨T, P, a, n, c, U, a', m, c', Q, rfl, ⟨hn, hm⟩, hD⟩))
  have hk := hD.but
  have hk3 := RB.but hr3
  have l1 := hD.lo
  have l2 := hD.hi
  have l4 := hk.size
  have l5 := hk3.size
  have l6 := hbel.size
  have o1 := (hD.ob.but hk3 (by omega)).base (B := w.heap.size + 1 + 1) (by omega)
  have o2 := (hD.op.but hk3 (by omega)).base (B := w.heap.size + 1 + 1) (by omega)
  have hb3 := (hbel.trans (hk.below (by omega) hbel.size)).trans (hk3.below (by omega) (by omega))
  have p1' : OwnL ((((((((w3.setCell ⟨w.heap.size, 0, none⟩ (.int .i64 T)).setCell ⟨w.heap.size, 1, none⟩ (.int .i64 P)).setCell ⟨w.heap.size, 2, none⟩ (.slice a n c)).setCell ⟨w.heap.size, 3, none⟩ (.slice a' m c')).setCell ⟨w.heap.size + 1, 0, none⟩ (.int .i64 x)).setCell ⟨w.heap.size + 1, 1, none⟩ (.int .i64 y)).setCell ⟨w.heap.size + 1, 2, none⟩ (.int .i64 u)).setCell ⟨w.heap.size + 1, 3, none⟩ (.int .i64 v)) (w.heap.size + 1 + 1) 43 12 (.slice a n c) n U := ((((((((o1.setO (b := w.heap.size) (o := 0) (by omega) _).setO (b := w.heap.size) (o := 1) (by omega) _).setO (b := w.heap.size) (o := 2) (by omega) _).setO (b := w.heap.size) (o := 3) (by omega) _).setO (b := w.heap.size + 1) (o := 0) (by omega) _).setO (b := w.heap.size + 1) (o := 1) (by omega) _).setO (b := w.heap.size + 1) (o := 2) (by omega) _).setO (b := w.heap.size + 1) (o := 3) (by omega) _)
  have p2' : OwnL ((((((((w3.setCell ⟨w.heap.size, 0, none⟩ (.int .i64 T)).setCell ⟨w.heap.size, 1, none⟩ (.int .i64 P)).setCell ⟨w.heap.size, 2, none⟩ (.slice a n c)).setCell ⟨w.heap.size, 3, none⟩ (.slice a' m c')).setCell ⟨w.heap.size + 1, 0, none⟩ (.int .i64 x)).setCell ⟨w.heap.size + 1, 1, none⟩ (.int .i64 y)).setCell ⟨w.heap.size + 1, 2, none⟩ (.int .i64 u)).setCell ⟨w.heap.size + 1, 3, none⟩ (.int .i64 v)) (w.heap.size + 1 + 1) 59 2 (.slice a' m c') m Q := ((((((((o2.setO (b := w.heap.size) (o := 0) (by omega) _).setO (b := w.heap.size) (o := 1) (by omega) _).setO (b := w.heap.size) (o := 2) (by omega) _).setO (b := w.heap.size) (o := 3) (by omega) _).setO (b := w.heap.size + 1) (o := 0) (by omega) _).setO (b := w.heap.size + 1) (o := 1) (by omega) _).setO (b := w.heap.size + 1) (o := 2) (by omega) _).setO (b := w.heap.size + 1) (o := 3) (by omega) _)
  have hb4' : Below w.heap.size w ((((((((w3.setCell ⟨w.heap.size, 0, none⟩ (.int .i64 T)).setCell ⟨w.heap.size, 1, none⟩ (.int .i64 P)).setCell ⟨w.heap.size, 2, none⟩ (.slice a n c)).setCell ⟨w.heap.size, 3, none⟩ (.slice a' m c')).setCell ⟨w.heap.size + 1, 0, none⟩ (.int .i64 x)).setCell ⟨w.heap.size + 1, 1, none⟩ (.int .i64 y)).setCell ⟨w.heap.size + 1, 2, none⟩ (.int .i64 u)).setCell ⟨w.heap.size + 1, 3, none⟩ (.int .i64 v)) := ((((((((hb3.setCell (p := ⟨w.heap.size, 0, none⟩) (Nat.le_refl _) _).setCell (p := ⟨w.heap.size, 1, none⟩) (Nat.le_refl _) _).setCell (p := ⟨w.heap.size, 2, none⟩) (Nat.le_refl _) _).setCell (p := ⟨w.heap.size, 3, none⟩) (Nat.le_refl _) _).setCell (p := ⟨w.heap.size + 1, 0, none⟩) (Nat.le_succ _) _).setCell (p := ⟨w.heap.size + 1, 1, none⟩) (Nat.le_succ _) _).setCell (p := ⟨w.heap.size + 1, 2, none⟩) (Nat.le_succ _) _).setCell (p := ⟨w.heap.size + 1, 3, none⟩) (Nat.le_succ _) _)
  have q1 : Wb ((((w3.setCell ⟨w.heap.size, 0, none⟩ (.int .i64 T)).setCell ⟨w.heap.size, 1, none⟩ (.int .i64 P)).setCell ⟨w.heap.size, 2, none⟩ (.slice a n c)).setCell ⟨w.heap.size, 3, none⟩ (.slice a' m c')) w.heap.size (.int .i64 T) (.int .i64 P) (.slice a n c) (.slice a' m c') := (((hR3.set0 _).set1 _).set2 _).set3 _
  have q2 : Wb ((((((((w3.setCell ⟨w.heap.size, 0, none⟩ (.int .i64 T)).setCell ⟨w.heap.size, 1, none⟩ (.int .i64 P)).setCell ⟨w.heap.size, 2, none⟩ (.slice a n c)).setCell ⟨w.heap.size, 3, none⟩ (.slice a' m c')).setCell ⟨w.heap.size + 1, 0, none⟩ (.int .i64 x)).setCell ⟨w.heap.size + 1, 1, none⟩ (.int .i64 y)).setCell ⟨w.heap.size + 1, 2, none⟩ (.int .i64 u)).setCell ⟨w.heap.size + 1, 3, none⟩ (.int .i64 v)) w.heap.size (.int .i64 T) (.int .i64 P) (.slice a n c) (.slice a' m c') := (((q1.far (by omega) _).far (by omega) _).far (by omega) _).far (by omega) _
  have q3 : Xb ((((((((w3.setCell ⟨w.heap.size, 0, none⟩ (.int .i64 T)).setCell ⟨w.heap.size, 1, none⟩ (.int .i64 P)).setCell ⟨w.heap.size, 2, none⟩ (.slice a n c)).setCell ⟨w.heap.size, 3, none⟩ (.slice a' m c')).setCell ⟨w.heap.size + 1, 0, none⟩ (.int .i64 x)).setCell ⟨w.heap.size + 1, 1, none⟩ (.int .i64 y)).setCell ⟨w.heap.size + 1, 2, none⟩ (.int .i64 u)).setCell ⟨w.heap.size + 1, 3, none⟩ (.int .i64 v)) (w.heap.size + 1) x y u v := ((((hS3.far (by omega) _).far (by omega) _).far (by omega) _).far (by omega) _).put x y u v
  clear y0 y1 y2 y3 yf z0 z1 z2 z3 zf hR3 hS3 hR hS q1 hb3 o1 o2
  generalize ((((((((w3.setCell ⟨w.heap.size, 0, none⟩ (.int .i64 T)).setCell ⟨w.heap.size, 1, none⟩ (.int .i64 P)).setCell ⟨w.heap.size, 2, none⟩ (.slice a n c)).setCell ⟨w.heap.size, 3, none⟩ (.slice a' m c')).setCell ⟨w.heap.size + 1, 0, none⟩ (.int .i64 x)).setCell ⟨w.heap.size + 1, 1, none⟩ (.int .i64 y)).setCell ⟨w.heap.size + 1, 2, none⟩ (.int .i64 u)).setCell ⟨w.heap.size + 1, 3, none⟩ (.int .i64 v)) = w9 at q2 q3 p1' p2' hb4' ⊢
  have y0 := q2.vb.c0
  have y1 := q2.vb.c1
  have y2 := q2.vb.c2
  have y3 := q2.vb.c3
  have yf := q2.vb.f
  have z0 := q3.c0
  have z1 := q3.c1
  have z2 := q3.c2
  have z3 := q3.c3
  have zf := q3.f
  exact bodyPost_ret (v := .tuple #[worldW T P a n c a' m c', b4 x y u v]) (by simp [results, Tryz.results5, go_sem, y0, y1, y2, y3, z0, z1, z2, z3]) rfl ⟨T, P, a, n, c, U, a', m, c', Q, x, y, u, v, rfl, ⟨hn, hm⟩, hb4', p1'.base (by omega), p2'.base (by omega), OwnL.neT p1' p2' (by decide)⟩
theorem bok_bd {a b c d : Int} (h : bokB a b c d = true) : ((-1000000000 ≤ a ∧ a ≤ 1000000000) ∧ (-1000000000 ≤ b ∧ b ≤ 1000000000)) ∧ ((-1000000000 ≤ c ∧ c ≤ 1000000000) ∧ (-1000000000 ≤ d ∧ d ≤ 1000000000)) := by
  unfold bokB vokB at h
  simp only [Bool.and_eq_true, decide_eq_true_eq] at h
  omega
theorem meet_all {U : Nat → Int} {k : Nat} (h : bodyB (fun j => U (k * 12 + j)) = true) : meetAt (-1000000000) (-1000000000) 1000000000 1000000000 U k = true := by
  unfold bodyB at h
  simp only [Bool.and_eq_true] at h
  have q := sb_ok h.2.1 h.2.2.1
  have b := bok_bd q
  unfold meetAt sbX
  rw [q]
  have e1 : bokB (-1000000000) (-1000000000) 1000000000 1000000000 = true := by decide
  rw [e1]
  unfold leB
  simp only [Bool.true_and, Bool.and_eq_true, decide_eq_true_eq]
  omega
set_option maxRecDepth 20000 in
set_option maxHeartbeats 8000000 in
theorem fnWorldIn_walk (ac : Option Addr) (len cap : Nat) (w : World) (hb : Bytes w ac len cap) :
    Calls Tryz.prog 3 #[.slice ac len cap] w fun e w' => e = .returned (.bool true) ∧ Below w.heap.size w w' := by
  have hset := cset_map
  by_cases hlen : 1048576 < len
  · have hl : (1048576 : Int) < (len : Int) := by omega
    go_enter Tryz.func3, Tryz.ntmps3
    go_wp2_with fail
    go_ret
    exact ⟨rfl, Below.refl _ _⟩
  have hl : ¬ (1048576 : Int) < (len : Int) := by omega
  go_enter Tryz.func3, Tryz.ntmps3
  go_upto_region 3 with fail
  go_cut [3, 4] (fun s3 s4 wc => ∃ (b3 b4' : Nat) (T P : Int) (a : Option Addr) (n c : Nat) (U : Nat → Int) (a' : Option Addr) (m c' : Nat) (Q : Nat → Int) (x y u v : Int), s3 = .pointer (some ⟨b3, 0, none⟩) ∧ s4 = .pointer (some ⟨b4', 0, none⟩) ∧ (n ≤ 13 ∧ m ≤ 433) ∧ Below w.heap.size w wc ∧ Wv wc b3 T P a n c U a' m c' Q ∧ Xb wc b4' x y u v)
  case first =>
    go_wp2_with (go_at_call 5; refine (drawWorldIn_w _ _ _ _ hb).mono ?_; rintro e w1 ⟨T, P, a, n, c, U, a', m, c', Q, x, y, u, v, rfl, ⟨hn, hm⟩, hO⟩)
    go_meet
    have hV := Wv.new (T := T) (P := P) hO
    have hE : Below w1.heap.size w1 (w1.alloc (.cells #[.int .i64 T, .int .i64 P, .slice a n c, .slice a' m c'] 26)) := balloc _ _
    have hX := Xb.new (w1.alloc (.cells #[.int .i64 T, .int .i64 P, .slice a n c, .slice a' m c'] 26)) x y u v
    rw [show (w1.alloc (.cells #[.int .i64 T, .int .i64 P, .slice a n c, .slice a' m c'] 26)).heap.size = w1.heap.size + 1 by simp] at hX
    exact ⟨_, _, T, P, a, n, c, U, a', m, c', Q, x, y, u, v, rfl, rfl, ⟨hn, hm⟩, (hO.bel.trans (hE.mono hO.bel.size)).alloc (by simp; have := hO.bel.size; omega) _, hV.on (balloc _ _), hX⟩
  case rest =>
  obtain ⟨b3, b4', T, P, a, n, c, U, a', m, c', Q, x, y, u, v, rfl, rfl, ⟨hn, hm⟩, bel, hL, hX⟩ := hcut
  have hlen13 := idsA_len T P n U m Q (meetAt x y u v U)
  obtain ⟨LL, hLL0⟩ : ∃ L, (idsA T P n U m Q (meetAt x y u v U)) = L := ⟨_, rfl⟩
  rw [hLL0] at hlen13
  have hLL : Shut ((idsA T P n U m Q (meetAt x y u v U)) = LL) := hLL0
  clear hLL0
  have d0 := hL.d.vb.c0
  have d1 := hL.d.vb.c1
  have d2 := hL.d.vb.c2
  have d3 := hL.d.vb.c3
  have df := hL.d.vb.f
  have z0 := hX.c0
  have z1 := hX.c1
  have z2 := hX.c2
  have z3 := hX.c3
  have zf := hX.f
  go_upto_region 4 with fail
  go_cut [5] (fun s5 wc => ∃ (a5 : Option Addr) (N c5 : Nat), s5 = .slice a5 N c5 ∧ LL.length = N ∧ Below w.heap.size w wc ∧ Wv wc b3 T P a n c U a' m c' Q ∧ Xb wc b4' x y u v ∧ Flat wc a5 (N * 1) (ofL LL))
  case first =>
    go_wp2_with (go_at_call 6; refine (worldIn_q T P a n c U a' m c' Q x y u v _ hL.fb hL.fp (by omega) (by omega)).mono ?_; rintro e w2 ⟨a5, N, c5, rfl, hN, hO⟩)
    go_meet
    rw [hLL.out] at hN hO
    have hb2 := hO.bel
    exact ⟨a5, N, c5, rfl, by omega, bel.trans (hb2.mono bel.size), hL.on hb2, hX.on hb2, hO.own.flat⟩
  case rest =>
  clear d0 d1 d2 d3 df z0 z1 z2 z3 zf bel hL hX
  obtain ⟨a5, N, c5, rfl, hN, bel, hL, hX, hF⟩ := hcut
  obtain ⟨OK, hOK0⟩ : ∃ b, worldB T P n U m Q = b := ⟨_, rfl⟩
  obtain ⟨BK, hBK0⟩ : ∃ b, bokB x y u v = b := ⟨_, rfl⟩
  have hOK : Shut (worldB T P n U m Q = OK) := hOK0
  have hBK : Shut (bokB x y u v = BK) := hBK0
  clear hOK0 hBK0
  have d0 := hL.d.vb.c0
  have d1 := hL.d.vb.c1
  have d2 := hL.d.vb.c2
  have d3 := hL.d.vb.c3
  have df := hL.d.vb.f
  have z0 := hX.c0
  have z1 := hX.c1
  have z2 := hX.c2
  have z3 := hX.c3
  have zf := hX.f
  go_upto_region 5 with fail
  go_cut [35] (fun s35 wc => s35 = .bool (!(OK && BK)) ∧ Below w.heap.size w wc ∧ Wv wc b3 T P a n c U a' m c' Q ∧ Xb wc b4' x y u v ∧ Flat wc a5 (N * 1) (ofL LL))
  case first =>
    cases OK with
    | false =>
      go_wp2_with (first
        | (have _ := hb3; go_at_call 9; refine (sWorldOk_q T P a n c U a' m c' Q _ (hL.fb.below (hO6.bel.trans (hb3.mono hO6.bel.size))) (hL.fp.below (hO6.bel.trans (hb3.mono hO6.bel.size))) (by omega) (by omega) false hOK.out).mono ?_; rintro e w4 ⟨rfl, hb4⟩)
        | (have hN6' := hN6; go_at_call 7; rw [hLL.out] at hN6 hO6; obtain rfl : N6 = N := (by omega); refine (pqInts_same a5 a6 N6 c5 c6 (ofL LL) _ (hF.below hO6.bel) hO6.own.flat (by omega)).mono ?_; rintro e w3 ⟨rfl, hb3⟩; clear d0 d1 d2 d3 df z0 z1 z2 z3 zf; have hL3 := hL.on (hO6.bel.trans (hb3.mono hO6.bel.size)); have hX3 := hX.on (hO6.bel.trans (hb3.mono hO6.bel.size)); have d0 := hL3.d.vb.c0; have d1 := hL3.d.vb.c1; have d2 := hL3.d.vb.c2; have d3 := hL3.d.vb.c3; have df := hL3.d.vb.f; have z0 := hX3.c0; have z1 := hX3.c1; have z2 := hX3.c2; have z3 := hX3.c3; have zf := hX3.f)
        | (go_at_call 8; refine (sWorldIn_q T P a n c U a' m c' Q x y u v _ hL.fb hL.fp (by omega) (by omega)).mono ?_; rintro e w2 ⟨a6, N6, c6, rfl, hN6, hO6⟩))
      go_meet
      have hb34 := (hO6.bel.trans (hb3.mono hO6.bel.size)).trans (hb4.mono (Nat.le_trans hO6.bel.size hb3.size))
      exact ⟨rfl, bel.trans (hb34.mono bel.size), hL.on hb34, hX.on hb34, hF.below hb34⟩
    | true =>
      go_wp2_with (first
        | (have _ := hb4; go_at_call 10; refine (sBoxOk_q x y u v BK _ hBK.out).mono ?_; rintro e w5 ⟨rfl, hb5⟩)
        | (have _ := hb3; go_at_call 9; refine (sWorldOk_q T P a n c U a' m c' Q _ (hL.fb.below (hO6.bel.trans (hb3.mono hO6.bel.size))) (hL.fp.below (hO6.bel.trans (hb3.mono hO6.bel.size))) (by omega) (by omega) true hOK.out).mono ?_; rintro e w4 ⟨rfl, hb4⟩; clear d0 d1 d2 d3 df z0 z1 z2 z3 zf; have hX4 := hX3.on hb4; have z0 := hX4.c0; have z1 := hX4.c1; have z2 := hX4.c2; have z3 := hX4.c3; have zf := hX4.f)
        | (have hN6' := hN6; go_at_call 7; rw [hLL.out] at hN6 hO6; obtain rfl : N6 = N := (by omega); refine (pqInts_same a5 a6 N6 c5 c6 (ofL LL) _ (hF.below hO6.bel) hO6.own.flat (by omega)).mono ?_; rintro e w3 ⟨rfl, hb3⟩; clear d0 d1 d2 d3 df z0 z1 z2 z3 zf; have hL3 := hL.on (hO6.bel.trans (hb3.mono hO6.bel.size)); have hX3 := hX.on (hO6.bel.trans (hb3.mono hO6.bel.size)); have d0 := hL3.d.vb.c0; have d1 := hL3.d.vb.c1; have d2 := hL3.d.vb.c2; have d3 := hL3.d.vb.c3; have df := hL3.d.vb.f; have z0 := hX3.c0; have z1 := hX3.c1; have z2 := hX3.c2; have z3 := hX3.c3; have zf := hX3.f)
        | (go_at_call 8; refine (sWorldIn_q T P a n c U a' m c' Q x y u v _ hL.fb hL.fp (by omega) (by omega)).mono ?_; rintro e w2 ⟨a6, N6, c6, rfl, hN6, hO6⟩))
      go_meet
      have hb34 := ((hO6.bel.trans (hb3.mono hO6.bel.size)).trans (hb4.mono (Nat.le_trans hO6.bel.size hb3.size))).trans (hb5.mono (Nat.le_trans (Nat.le_trans hO6.bel.size hb3.size) hb4.size))
      exact ⟨by simp, bel.trans (hb34.mono bel.size), hL.on hb34, hX.on hb34, hF.below hb34⟩
  case rest =>
  clear d0 d1 d2 d3 df z0 z1 z2 z3 zf bel hL hX hF
  obtain ⟨rfl, bel, hL, hX, hF⟩ := hcut
  have d0 := hL.d.vb.c0
  have d1 := hL.d.vb.c1
  have d2 := hL.d.vb.c2
  have d3 := hL.d.vb.c3
  have df := hL.d.vb.f
  have z0 := hX.c0
  have z1 := hX.c1
  have z2 := hX.c2
  have z3 := hX.c3
  have zf := hX.f
  cases hOB : (OK && BK) with
  | false =>
    go_wp2_with (first | (have hN6' := hN6; go_at_call 7; rw [hLL.out] at hN6 hO6; obtain rfl : N6 = N := (by omega); refine (pqInts_same a5 a6 N6 c5 c6 (ofL LL) _ (hF.below hO6.bel) hO6.own.flat (by omega)).mono ?_; rintro e w3 ⟨rfl, hb3⟩) | (go_at_call 8; refine (sWorldIn_q T P a n c U a' m c' Q x y u v _ hL.fb hL.fp (by omega) (by omega)).mono ?_; rintro e w2 ⟨a6, N6, c6, rfl, hN6, hO6⟩))
    have hb34 := hO6.bel.trans (hb3.mono hO6.bel.size)
    go_ret
    exact ⟨rfl, bel.trans (hb34.mono bel.size)⟩
  | true =>
    simp only [Bool.and_eq_true] at hOB
    obtain ⟨rfl, rfl⟩ := hOB
    have hB := Bods.of (bods_of_world hOK.out)
    have hLI : Shut (LL = idL (meetAt x y u v U) U n) := by show _ = _; rw [← hLL.out]; unfold idsA; rw [hOK.out]; rfl
    clear d0 d1 d2 d3 df z0 z1 z2 z3 zf
    go_upto_region 9 with fail
    go_loopw [6, 7] (fun s6 s7 wr => ∃ (k q : Nat), k ≤ n ∧ s7 = .int .i64 (k : Int) ∧ s6 = .int .i64 (q : Int) ∧ (idL (meetAt x y u v U) U k).length = q ∧ Below w.heap.size w wr ∧ Wv wr b3 T P a n c U a' m c' Q ∧ Xb wr b4' x y u v ∧ Flat wr a5 (N * 1) (ofL LL)) (fun _ s7 _ => n - (intOf s7).toNat)
    case atStart => exact ⟨0, 0, Nat.zero_le _, rfl, rfl, rfl, bel, hL, hX, hF⟩
    case round =>
      clear bel hL hX hF
      obtain ⟨k, q, hk, rfl, rfl, hq0, bel, hL, hX, hF⟩ := hrel
      have hq : Shut ((idL (meetAt x y u v U) U k).length = q) := hq0
      clear hq0
      have d0 := hL.d.vb.c0
      have d1 := hL.d.vb.c1
      have d2 := hL.d.vb.c2
      have d3 := hL.d.vb.c3
      have df := hL.d.vb.f
      have z0 := hX.c0
      have z1 := hX.c1
      have z2 := hX.c2
      have z3 := hX.c3
      have zf := hX.f
      by_cases hlt : k < n
      · have hkn : (k : Int) < (n : Int) := by omega
        obtain ⟨g0, o0, eg0, _, _⟩ := hL.fb (by omega)
        subst eg0
        obtain ⟨g0', o0', eg0, _, hc0⟩ := hL.fb (by omega)
        cases eg0
        have t1 : wr.cell? ⟨g0, o0 + k * 12 + 1, none⟩ = some (.int .i64 (U (k * 12 + 1))) := by have q := hc0 (k * 12 + 1) (by omega); simpa [Nat.add_assoc] using q
        have t2 : wr.cell? ⟨g0, o0 + k * 12 + 2, none⟩ = some (.int .i64 (U (k * 12 + 2))) := by have q := hc0 (k * 12 + 2) (by omega); simpa [Nat.add_assoc] using q
        have t3 : wr.cell? ⟨g0, o0 + k * 12 + 3, none⟩ = some (.int .i64 (U (k * 12 + 3))) := by have q := hc0 (k * 12 + 3) (by omega); simpa [Nat.add_assoc] using q
        have t4 : wr.cell? ⟨g0, o0 + k * 12 + 4, none⟩ = some (.int .i64 (U (k * 12 + 4))) := by have q := hc0 (k * 12 + 4) (by omega); simpa [Nat.add_assoc] using q
        have t5 : wr.cell? ⟨g0, o0 + k * 12 + 5, none⟩ = some (.int .i64 (U (k * 12 + 5))) := by have q := hc0 (k * 12 + 5) (by omega); simpa [Nat.add_assoc] using q
        clear hc0
        obtain ⟨MB, hMB0⟩ : ∃ b, meetAt x y u v U k = b := ⟨_, rfl⟩
        have hMB : Shut (meetAt x y u v U k = MB) := hMB0
        clear hMB0
        go_upto_region 11 with fail
        go_cut [62] (fun s62 wc => s62 = .bool MB ∧ Below w.heap.size w wc ∧ Wv wc b3 T P (some ⟨g0, o0, none⟩) n c U a' m c' Q ∧ Xb wc b4' x y u v ∧ Flat wc a5 (N * 1) (ofL LL))
        case first =>
          refine wp_region_held_drew (S := fun w' => w'.cell? ⟨b3, 2, none⟩ = some (.slice (some ⟨g0, o0, none⟩) n c) ∧ w'.cell? ⟨g0, o0 + k * 12 + 1, none⟩ = some (.int .i64 (U (k * 12 + 1))) ∧ w'.cell? ⟨g0, o0 + k * 12 + 2, none⟩ = some (.int .i64 (U (k * 12 + 2))) ∧ w'.cell? ⟨g0, o0 + k * 12 + 3, none⟩ = some (.int .i64 (U (k * 12 + 3))) ∧ w'.cell? ⟨g0, o0 + k * 12 + 4, none⟩ = some (.int .i64 (U (k * 12 + 4))) ∧ w'.cell? ⟨g0, o0 + k * 12 + 5, none⟩ = some (.int .i64 (U (k * 12 + 5))) ∧ w'.cell? ⟨b4', 0, none⟩ = some (.int .i64 x) ∧ w'.cell? ⟨b4', 1, none⟩ = some (.int .i64 y) ∧ w'.cell? ⟨b4', 2, none⟩ = some (.int .i64 u) ∧ w'.cell? ⟨b4', 3, none⟩ = some (.int .i64 v)) (by kernel_rfl) ?_ (fun hHeld => ?_)
          · (try dsimp only)
            (first | (go_simp; done) | (go_keep; done))
          refine tq 0 hHeld ?_
          refine tq 1 hHeld ?_
          refine tq 2 hHeld ?_
          refine tq 3 hHeld ?_
          refine tq 4 hHeld ?_
          refine tq 5 hHeld ?_
          refine tq 6 hHeld ?_
          refine tq 7 hHeld ?_
          refine tq 8 hHeld ?_
          refine tq 9 hHeld ?_
          refine tq 10 hHeld ?_
          refine tq 11 hHeld ?_
          refine tq 13 hHeld ?_
          refine tc 12 fun K hK => ?_
          (go_simp
           (go_at_call 12; refine (shapeBounds_any (U (k * 12 + 1)) (U (k * 12 + 2)) (U (k * 12 + 3)) (U (k * 12 + 4)) (U (k * 12 + 5)) _).mono ?_; rintro e w6 ⟨rfl, hb6⟩)
           have hb6 := hb6.ofDr
           have bel1 := bel.trans (hb6.mono bel.size)
           have hL1 := hL.on hb6
           have hX1 := hX.on hb6
           have hF1 := hF.below hb6
           clear bel hL hX hF t1 t2 t3 t4 t5 d0 d1 d2 d3 df z0 z1 z2 z3 zf
           have bel := bel1
           have hL := hL1
           have hX := hX1
           have hF := hF1
           clear bel1 hL1 hX1 hF1 hb6
           obtain ⟨g0', o0', eg0, _, hc0⟩ := hL.fb (by omega)
           cases eg0
           have t1 : w6.cell? ⟨g0, o0 + k * 12 + 1, none⟩ = some (.int .i64 (U (k * 12 + 1))) := by have q := hc0 (k * 12 + 1) (by omega); simpa [Nat.add_assoc] using q
           have t2 : w6.cell? ⟨g0, o0 + k * 12 + 2, none⟩ = some (.int .i64 (U (k * 12 + 2))) := by have q := hc0 (k * 12 + 2) (by omega); simpa [Nat.add_assoc] using q
           have t3 : w6.cell? ⟨g0, o0 + k * 12 + 3, none⟩ = some (.int .i64 (U (k * 12 + 3))) := by have q := hc0 (k * 12 + 3) (by omega); simpa [Nat.add_assoc] using q
           have t4 : w6.cell? ⟨g0, o0 + k * 12 + 4, none⟩ = some (.int .i64 (U (k * 12 + 4))) := by have q := hc0 (k * 12 + 4) (by omega); simpa [Nat.add_assoc] using q
           have t5 : w6.cell? ⟨g0, o0 + k * 12 + 5, none⟩ = some (.int .i64 (U (k * 12 + 5))) := by have q := hc0 (k * 12 + 5) (by omega); simpa [Nat.add_assoc] using q
           clear hc0
           have d0 := hL.d.vb.c0
           have d1 := hL.d.vb.c1
           have d2 := hL.d.vb.c2
           have d3 := hL.d.vb.c3
           have df := hL.d.vb.f
           have z0 := hX.c0
           have z1 := hX.c1
           have z2 := hX.c2
           have z3 := hX.c3
           have zf := hX.f
           (try go_wp2_with fail)
           refine tr hK (fun hHeld => ?_)
           clear hK K)
          refine tc 14 fun K hK => ?_
          (go_simp
           (go_at_call 11; refine (boxMeets_q _ _ _ _ x y u v MB _ hMB.out).mono ?_; rintro e w7 ⟨rfl, hb7⟩)
           have bel1 := bel.trans (hb7.mono bel.size)
           have hL1 := hL.on hb7
           have hX1 := hX.on hb7
           have hF1 := hF.below hb7
           clear bel hL hX hF t1 t2 t3 t4 t5 d0 d1 d2 d3 df z0 z1 z2 z3 zf
           have bel := bel1
           have hL := hL1
           have hX := hX1
           have hF := hF1
           clear bel1 hL1 hX1 hF1 hb7
           obtain ⟨g0', o0', eg0, _, hc0⟩ := hL.fb (by omega)
           cases eg0
           have t1 : w7.cell? ⟨g0, o0 + k * 12 + 1, none⟩ = some (.int .i64 (U (k * 12 + 1))) := by have q := hc0 (k * 12 + 1) (by omega); simpa [Nat.add_assoc] using q
           have t2 : w7.cell? ⟨g0, o0 + k * 12 + 2, none⟩ = some (.int .i64 (U (k * 12 + 2))) := by have q := hc0 (k * 12 + 2) (by omega); simpa [Nat.add_assoc] using q
           have t3 : w7.cell? ⟨g0, o0 + k * 12 + 3, none⟩ = some (.int .i64 (U (k * 12 + 3))) := by have q := hc0 (k * 12 + 3) (by omega); simpa [Nat.add_assoc] using q
           have t4 : w7.cell? ⟨g0, o0 + k * 12 + 4, none⟩ = some (.int .i64 (U (k * 12 + 4))) := by have q := hc0 (k * 12 + 4) (by omega); simpa [Nat.add_assoc] using q
           have t5 : w7.cell? ⟨g0, o0 + k * 12 + 5, none⟩ = some (.int .i64 (U (k * 12 + 5))) := by have q := hc0 (k * 12 + 5) (by omega); simpa [Nat.add_assoc] using q
           clear hc0
           have d0 := hL.d.vb.c0
           have d1 := hL.d.vb.c1
           have d2 := hL.d.vb.c2
           have d3 := hL.d.vb.c3
           have df := hL.d.vb.f
           have z0 := hX.c0
           have z1 := hX.c1
           have z2 := hX.c2
           have z3 := hX.c3
           have zf := hX.f
           (try go_wp2_with fail)
           refine tr hK (fun hHeld => ?_)
           clear hK K)
          refine wpAnyH_done (by kernel_rfl) ?_ _
          go_wp2_with fail
          go_meet
          exact ⟨rfl, bel, hL, hX, hF⟩
        case rest =>
        clear bel hL hX hF t1 t2 t3 t4 t5 d0 d1 d2 d3 df z0 z1 z2 z3 zf
        obtain ⟨rfl, bel, hL, hX, hF⟩ := hcut
        cases MB with
        | false =>
          have hq2 : Shut ((idL (meetAt x y u v U) U (k + 1)).length = q) := by show _ = _; rw [idL_no hMB.out]; exact hq.out
          clear hq hMB
          go_wp2_with fail
          go_roundw
          case rel => exact ⟨k + 1, q, by omega, by go_num, rfl, hq2.out, bel, hL, hX, hF⟩
          case measure => simp [intOf]; omega
        | true =>
          obtain ⟨r, hr⟩ := pre_idL (meetAt x y u v U) U (k + 1) n (by omega)
          have h1 : LL = (idL (meetAt x y u v U) U k ++ [U (k * 12)]) ++ r := by rw [hLI.out, hr, idL_yes hMB.out]
          have h2 := hq.out
          have hqN : q < N := by rw [← hN, h1, List.length_append, List.length_append, h2]; simp; omega
          have hat : ofL LL q = U (k * 12) := by rw [h1, ofL_l (by rw [List.length_append, h2]; simp), ofL_r (by omega), h2, Nat.sub_self]; rfl
          have hq2 : Shut ((idL (meetAt x y u v U) U (k + 1)).length = q + 1) := by show _ = _; rw [idL_yes hMB.out, List.length_append, h2]; rfl
          clear h1 h2 hr hq hMB
          obtain ⟨g5, o5, e5, _, hc5⟩ := hF (by omega)
          have r5 : wc.cell? ⟨g5, o5 + q, none⟩ = some (.int .i64 (U (k * 12))) := by have z := hc5 q (by omega); rw [hat] at z; exact z
          clear hc5 hat
          subst e5
          obtain ⟨g0', o0', eg0, _, hc0⟩ := hL.fb (by omega)
          cases eg0
          have t0 : wc.cell? ⟨g0, o0 + k * 12, none⟩ = some (.int .i64 (U (k * 12))) := by have q := hc0 (k * 12 + 0) (by omega); simpa [Nat.add_assoc] using q
          clear hc0
          have d2 := hL.d.vb.c2
          have hqi : (q : Int) < (N : Int) := by omega
          have hge : ¬ (N : Int) ≤ (q : Int) := by omega
          have hev : (U (k * 12) != U (k * 12)) = false := by simp
          have hw1 : IntKind.i64.wrap ((q : Int) + 1) = (q : Int) + 1 := i64w (by omega)
          go_upto_region 12 with fail
          refine wp_region_held_drew (S := fun w' => w'.cell? ⟨b3, 2, none⟩ = some (.slice (some ⟨g0, o0, none⟩) n c) ∧ w'.cell? ⟨g0, o0 + k * 12, none⟩ = some (.int .i64 (U (k * 12))) ∧ w'.cell? ⟨g5, o5 + q, none⟩ = some (.int .i64 (U (k * 12)))) (by kernel_rfl) ?_ (fun hHeld => ?_)
          · (try dsimp only)
            (first | (go_simp; done) | (go_keep; done))
          refine tq 0 hHeld ?_
          refine tq 1 hHeld ?_
          refine tq 2 hHeld ?_
          refine tq 3 hHeld ?_
          refine tq 4 hHeld ?_
          refine tq 5 hHeld ?_
          refine tq 6 hHeld ?_
          refine tq 7 hHeld ?_
          refine tq 8 hHeld ?_
          refine tq 9 hHeld ?_
          refine tq 10 hHeld ?_
          refine tq 11 hHeld ?_
          refine tq 12 hHeld ?_
          refine tq 13 hHeld ?_
          refine tq 14 hHeld ?_
          refine tq 15 hHeld ?_
          refine tq 16 hHeld ?_
          refine wpAnyH_done (by kernel_rfl) ?_ _
          go_wp2_with fail
          have hdr : Below wc.heap.size wc wc.drew := Below.drew (Below.refl _ _)
          go_roundw
          case rel => exact ⟨k + 1, q + 1, by omega, by go_num, by first | rfl | go_num, hq2.out, bel.trans (hdr.mono bel.size), hL.on hdr, hX.on hdr, hF.below hdr⟩
          case measure => simp [intOf]; omega
      · obtain rfl : k = n := by omega
        obtain rfl : q = N := by rw [← hN, hLI.out]; exact hq.out.symm
        have eq1 : ((q : Int) == (q : Int)) = true := by simp
        have ek1 : ((k : Int) == (k : Int)) = true := by simp
        have hall : (idsA T P k U m Q (meetAt (-1000000000) (-1000000000) 1000000000 1000000000 U)).length = k := by
          unfold idsA
          rw [hOK.out, cond_true]
          exact idL_all k (fun j hj => meet_all (hB.ok j hj))
        have hall' : Shut ((idsA T P k U m Q (meetAt (-1000000000) (-1000000000) 1000000000 1000000000 U)).length = k) := hall
        clear hall
        go_wp2_with (go_at_call 6; refine (worldIn_q T P a k c U a' m c' Q (-1000000000) (-1000000000) 1000000000 1000000000 _ hL.fb hL.fp (by omega) (by omega)).mono ?_; rintro e w8 ⟨a8, N8, c8, rfl, hN8, hO8⟩; rw [hall'.out] at hN8; obtain rfl : N8 = k := (by omega); clear hN8; have hL8 := hL.on hO8.bel; clear d0 d1 d2 d3 df z0 z1 z2 z3 zf; have d0 := hL8.d.vb.c0; have d1 := hL8.d.vb.c1; have d2 := hL8.d.vb.c2; have d3 := hL8.d.vb.c3; have df := hL8.d.vb.f)
        go_ret
        exact ⟨rfl, bel.trans (hO8.bel.mono bel.size)⟩
end Go.Proofs.YtdajfjipomkpdaaGreat
namespace Go.Proofs.YtdajfjipomkpdaaGreat
theorem head_cut {l : List (List Char)} {c : List Char} (h : (l.head? == some c) = true) : ∃ rest, l = c :: rest := by
  cases l with
  | nil => simp at h
  | cons a r => simp at h; exact ⟨r, by rw [h]⟩
theorem strip_cut (rest : List (List Char)) : stripLifts liftWords ("cut".toList :: rest) = ([], "cut".toList :: rest) := by kernel_rfl
theorem make_of {P : Program} {l : List Char} (h0 : P.initOrder.toList = l) (h1 : ((behindMainWord (wordsSigns l)).head? == some "cut".toList) = true) : P.make = some .cut := by
  obtain ⟨rest, hr⟩ := head_cut h1
  unfold Program.make
  rw [h0, hr]
  rfl
theorem headLifts_of {P : Program} {l : List Char} (h0 : P.initOrder.toList = l) (h1 : ((behindMainWord (wordsSigns l)).head? == some "cut".toList) = true) : P.headLifts = [] := by
  obtain ⟨rest, hr⟩ := head_cut h1
  unfold Program.headLifts
  rw [h0, hr, strip_cut]
  rfl
theorem liftsFinal_of {P : Program} {l : List Char} (h0 : P.initOrder.toList = l) (h1 : ((behindMainWord (wordsSigns l)).head? == some "cut".toList) = true) : P.liftsFinal = false := by
  have hh := headLifts_of h0 h1
  obtain ⟨rest, hr⟩ := head_cut h1
  unfold Program.liftsFinal
  rw [h0, hr, hh]
  rfl
theorem mayEnter_of {P : Program} {l : List Char} (h0 : P.initOrder.toList = l) (h1 : ((behindMainWord (wordsSigns l)).head? == some "cut".toList) = true) (h2 : P.laysLater = false) (h3 : P.bearsReflect = false) (h4 : P.doorFits [] = true) : P.mayEnter = true := by
  obtain ⟨rest, hr⟩ := head_cut h1
  unfold Program.mayEnter
  rw [h0, hr]
  simp only [strip_cut, h2, h3, h4]
  simp
end Go.Proofs.YtdajfjipomkpdaaGreat
namespace Go.Proofs.YtdajfjipomkpdaaGreat
set_option maxRecDepth 100000
def ordL : { l : List Char // Tryz.prog.initOrder = String.ofList l } := ⟨_, rfl⟩
theorem ordT : Tryz.prog.initOrder.toList = ordL.1 := (congrArg String.toList ordL.2).trans String.toList_ofList
theorem headE : ((behindMainWord (wordsSigns ordL.1)).head? == some "cut".toList) = true := by kernel_rfl
theorem makeT : Tryz.prog.make = some .cut := make_of ordT headE
theorem liftsFinalT : Tryz.prog.liftsFinal = false := liftsFinal_of ordT headE
theorem laysLaterT : Tryz.prog.laysLater = false := by kernel_rfl
theorem bearsReflectT : Tryz.prog.bearsReflect = false := by kernel_rfl
theorem doorFitsT : Tryz.prog.doorFits [] = true := by kernel_rfl
theorem mayEnterT : Tryz.prog.mayEnter = true := mayEnter_of ordT headE laysLaterT bearsReflectT doorFitsT
theorem ownT : ownKnob Tryz.prog.godebug = none := by kernel_rfl
theorem laidOutT : laidOutB Tryz.prog = true := by kernel_rfl
theorem mapsRowedT : mapsRowed Tryz.prog = true := by kernel_rfl
theorem stopsHeardT : Tryz.prog.stopsHeard = true := by kernel_rfl
theorem plainKeysT : Tryz.prog.plainKeys = true := by kernel_rfl
end Go.Proofs.YtdajfjipomkpdaaGreat
