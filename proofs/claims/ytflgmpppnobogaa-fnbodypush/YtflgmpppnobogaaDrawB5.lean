/- The draw of a body and a drive. -/
import Derived.Test.YtflgmpppnobogaaDrawB4
import Derived.Deep.RegionHeld3
import Derived.Deep.DeepCutAuto
namespace Go.Proofs.Ytflgmpppnobogaa
open Go.RowKit
set_option linter.unusedVariables false
set_option linter.unusedSimpArgs false

theorem Al.upne {rb : Nat} {w0 w w' : World} {ab n : Nat} {V : Nat → Int} (h : Al w0 w ab n V) (hne : ab ≠ rb) (k : But rb w w') : Al w0 w' ab n V := by
  obtain ⟨h1, h2, h3, h4⟩ := h
  exact ⟨h1, Nat.lt_of_lt_of_le h2 k.size, fun i hi => (k.cell (p := ⟨ab, i, none⟩) h2 hne).trans (h3 i hi), fun i hi => (k.frozen (p := ⟨ab, i, none⟩) h2 hne).trans (h4 i hi)⟩
def PN (P : Nat → Int) : Prop := ∀ j, j < 2 → Bn (P j)
/-- what lies where while a body and a drive are drawn -/
structure DP (w w' : World) (rb p ab pb : Nat) (V P : Nat → Int) : Prop where
  rs : RS w' rb p
  bel : Below w.heap.size w w'
  r1 : Al w w' w.heap.size 12 (fun _ => 0)
  r2 : Al w w' (w.heap.size + 1) 2 (fun _ => 0)
  bod : Al w w' ab 12 V
  vec : Al w w' pb 2 P
  l1 : w.heap.size + 1 < rb
  l2 : rb < ab
  l3 : ab < pb
  bf : BN V
  pf : PN P
theorem DP.call {w w' w1 : World} {rb p p1 ab pb : Nat} {V P : Nat → Int} (h : DP w w' rb p ab pb V P) (k : RB w' w1 rb p1) : DP w w1 rb p1 ab pb V P := by
  have l1 := h.l1
  have l2 := h.l2
  have l3 := h.l3
  exact ⟨RS.of k, h.bel.trans (k.but.below (by omega) h.bel.size), h.r1.upne (by omega) k.but, h.r2.upne (by omega) k.but, h.bod.upne (by omega) k.but, h.vec.upne (by omega) k.but, l1, l2, l3, h.bf, h.pf⟩
theorem DP.mono {w w' : World} {rb p p1 ab pb : Nat} {V P : Nat → Int} (h : DP w w' rb p ab pb V P) (k : p ≤ p1) : DP w w' rb p1 ab pb V P :=
  ⟨h.rs.mono k, h.bel, h.r1, h.r2, h.bod, h.vec, h.l1, h.l2, h.l3, h.bf, h.pf⟩
theorem DP.set {w w' : World} {rb p ab pb : Nat} {V P : Nat → Int} (h : DP w w' rb p ab pb V P) (k : Nat) (hk : k < 2) (v : Int) (hv : Bn v) :
    DP w (w'.setCell ⟨pb, k, none⟩ (.int .i64 v)) rb p ab pb V (fun j => if j = k then v else P j) := by
  have l1 := h.l1
  have l2 := h.l2
  have l3 := h.l3
  refine ⟨h.rs.setNew (by simp; omega) _, h.bel.setCell (by simp; omega) _, h.r1.far (by omega) _, h.r2.far (by omega) _, h.bod.far (by omega) _, h.vec.set k hk v, l1, l2, l3, h.bf, ?_⟩
  intro j hj
  by_cases e : j = k
  · simp only [e, if_true]; exact hv
  · simp only [e, if_false]; exact h.pf j hj

set_option maxHeartbeats 16000000 in
theorem drawBodyPush_any (a : Option Addr) (len cap : Nat) (w : World) (hb : Bytes w a len cap) :
    Calls Try.prog 23 #[.slice a len cap] w fun e w' => ∃ (V : Nat → Int) (p q : Int), e = .returned (.tuple #[bodyW V, vv p q]) ∧ BN V ∧ Bn p ∧ Bn q ∧ Below w.heap.size w w' := by
  have hset := cset_map
  have hb' := hb.below (((Below.refl _ _).alloc (Nat.le_refl _) (.cells #[.int .i64 0, .int .i64 0, .int .i64 0, .int .i64 0, .int .i64 0, .int .i64 0, .int .i64 0, .int .i64 0, .int .i64 0, .int .i64 0, .int .i64 0, .int .i64 0] 28)).alloc (by simp) (.cells #[.int .i64 0, .int .i64 0] 26))
  go_enter Try.func23, Try.ntmps23
  go_upto_region 1 with fail
  have r1 : Al w ((w.alloc (.cells #[.int .i64 0, .int .i64 0, .int .i64 0, .int .i64 0, .int .i64 0, .int .i64 0, .int .i64 0, .int .i64 0, .int .i64 0, .int .i64 0, .int .i64 0, .int .i64 0] 28)).alloc (.cells #[.int .i64 0, .int .i64 0] 26)) w.heap.size 12 (fun _ => 0) := (Al.new (Nat.le_refl _) (by intro i hi; rcases (show i = 0 ∨ i = 1 ∨ i = 2 ∨ i = 3 ∨ i = 4 ∨ i = 5 ∨ i = 6 ∨ i = 7 ∨ i = 8 ∨ i = 9 ∨ i = 10 ∨ i = 11 by omega) with rfl | rfl | rfl | rfl | rfl | rfl | rfl | rfl | rfl | rfl | rfl | rfl <;> rfl) (V := fun _ => 0)).belw (but_bel rfl) (by simp)
  have r2 : Al w ((w.alloc (.cells #[.int .i64 0, .int .i64 0, .int .i64 0, .int .i64 0, .int .i64 0, .int .i64 0, .int .i64 0, .int .i64 0, .int .i64 0, .int .i64 0, .int .i64 0, .int .i64 0] 28)).alloc (.cells #[.int .i64 0, .int .i64 0] 26)) (w.heap.size + 1) 2 (fun _ => 0) := by
    have h := Al.new (w0 := w) (w := w.alloc (.cells #[.int .i64 0, .int .i64 0, .int .i64 0, .int .i64 0, .int .i64 0, .int .i64 0, .int .i64 0, .int .i64 0, .int .i64 0, .int .i64 0, .int .i64 0, .int .i64 0] 28)) (cs := #[.int .i64 0, .int .i64 0]) (t := 26) (n := 2) (V := fun _ => 0) (by simp) (by intro i hi; rcases (show i = 0 ∨ i = 1 by omega) with rfl | rfl <;> rfl)
    simpa using h
  have hbl : Below w.heap.size w ((w.alloc (.cells #[.int .i64 0, .int .i64 0, .int .i64 0, .int .i64 0, .int .i64 0, .int .i64 0, .int .i64 0, .int .i64 0, .int .i64 0, .int .i64 0, .int .i64 0, .int .i64 0] 28)).alloc (.cells #[.int .i64 0, .int .i64 0] 26)) := ((Below.refl _ _).alloc (Nat.le_refl _) _).alloc (by simp) _
  have hsz : w.heap.size + 1 < ((w.alloc (.cells #[.int .i64 0, .int .i64 0, .int .i64 0, .int .i64 0, .int .i64 0, .int .i64 0, .int .i64 0, .int .i64 0, .int .i64 0, .int .i64 0, .int .i64 0, .int .i64 0] 28)).alloc (.cells #[.int .i64 0, .int .i64 0] 26)).heap.size := by simp
  generalize ((w.alloc (.cells #[.int .i64 0, .int .i64 0, .int .i64 0, .int .i64 0, .int .i64 0, .int .i64 0, .int .i64 0, .int .i64 0, .int .i64 0, .int .i64 0, .int .i64 0, .int .i64 0] 28)).alloc (.cells #[.int .i64 0, .int .i64 0] 26)) = w0 at *
  go_cut [4] (fun s4 wc => s4 = .pointer (some ⟨w0.heap.size, 0, none⟩) ∧ RS wc w0.heap.size 0 ∧ Below w0.heap.size w0 wc)
  case first =>
    go_wp2_with (go_at_call 42; refine (l1Open_rb _ _ _ _ hb').mono ?_; rintro e w1 ⟨rfl, hr1, hbel⟩)
    go_meet
    exact ⟨rfl, RS.of hr1, hbel⟩
  case rest =>
  obtain ⟨rfl, hr1, hbel⟩ := hcut
  have c1 := r1.belw hbel (by omega)
  have c2 := r2.belw hbel (by omega)
  have cb := hbl.trans (hbel.mono (by omega))
  have cl : w0.heap.size < wc.heap.size := hr1.lt
  clear hb' hb r1 r2 hbl hbel
  go_upto_region 2 with fail
  go_cut [5] (fun s5 wc => ∃ (ab : Nat) (V : Nat → Int), s5 = .pointer (some ⟨ab, 0, none⟩) ∧ RS wc w0.heap.size 3000 ∧ Below w.heap.size w wc ∧ Al w wc w.heap.size 12 (fun _ => 0) ∧ Al w wc (w.heap.size + 1) 2 (fun _ => 0) ∧ Al w wc ab 12 V ∧ BN V ∧ w0.heap.size < ab)
  case first =>
    go_wp2_with (go_at_call 41; refine (l11AnyBody_s w0.heap.size 0 _ (by exact hr1) (by omega)).mono ?_; rintro e w2 ⟨V2, rfl, hd2, hr2⟩)
    go_meet
    have hk := RB.but hr2
    have hz := hk.size
    have hbm : Below w.heap.size w w2 := cb.trans (hk.below (by omega) cb.size)
    exact ⟨_, V2, rfl, (RS.of hr2).alloc _, hbm.alloc hbm.size _, (c1.upne (by omega) hk).belw (but_bel rfl) (by omega), (c2.upne (by omega) hk).belw (but_bel rfl) (by omega), Al.new hbm.size (by intro i hi; rcases (show i = 0 ∨ i = 1 ∨ i = 2 ∨ i = 3 ∨ i = 4 ∨ i = 5 ∨ i = 6 ∨ i = 7 ∨ i = 8 ∨ i = 9 ∨ i = 10 ∨ i = 11 by omega) with rfl | rfl | rfl | rfl | rfl | rfl | rfl | rfl | rfl | rfl | rfl | rfl <;> rfl), hd2, by omega⟩
  case rest =>
  clear c1 c2 cb cl hr1
  obtain ⟨ab, V, rfl, hr1, cb, c1, c2, cv, hbn, hab⟩ := hcut
  have cl := cv.2.1
  go_upto_region 3 with fail
  go_cut [6] (fun s6 wc => ∃ (pb : Nat) (P : Nat → Int), s6 = .pointer (some ⟨pb, 0, none⟩) ∧ DP w wc w0.heap.size 4100 ab pb V P)
  case first =>
    go_wp2_with (go_at_call 53; refine (l11Drive_s w0.heap.size 3000 _ _ (by exact hr1) (by omega) (by omega)).mono ?_; rintro e w6 ⟨x6, y6, rfl, hd6, hr6⟩)
    go_meet
    have hk := RB.but hr6
    have hz := hk.size
    have hbm : Below w.heap.size w w6 := cb.trans (hk.below (by omega) cb.size)
    have hpn : PN (fun j => [x6, y6].getD j 0) := by
      intro j hj
      rcases (show j = 0 ∨ j = 1 by omega) with rfl | rfl
      · exact (show Bn x6 from ⟨by omega, by omega⟩)
      · exact (show Bn y6 from ⟨by omega, by omega⟩)
    exact ⟨_, fun j => [x6, y6].getD j 0, rfl, (RS.up hr6 (by omega)).alloc _, hbm.alloc hbm.size _, (c1.upne (by omega) hk).belw (but_bel rfl) (by omega), (c2.upne (by omega) hk).belw (but_bel rfl) (by omega), (cv.upne (by omega) hk).belw (but_bel rfl) (by omega), Al.new hbm.size (by intro i hi; rcases (show i = 0 ∨ i = 1 by omega) with rfl | rfl <;> rfl), by omega, by omega, by omega, hbn, hpn⟩
  case rest =>
  clear hr1 cb c1 c2 cv cl
  obtain ⟨pb, P, rfl, hD⟩ := hcut
  go_upto_region 4 with fail
  go_cut [14] (fun s14 wc => ∃ (v7 : Int), s14 = .int .i64 v7 ∧ DP w wc w0.heap.size 4200 ab pb V P)
  case first =>
    go_wp2_with (go_at_call 54; refine (pick_s w0.heap.size (4100) _ _ (by exact hD.rs) (by omega) (by omega) (by omega)).mono ?_; rintro e w7 ⟨v7, rfl, va7, vb7, hr7⟩)
    go_meet
    exact ⟨_, rfl, (hD.call hr7).mono (by omega)⟩
  case rest =>
  clear hD
  obtain ⟨v7, rfl, hD⟩ := hcut
  have hD7 := hD.mono (p1 := 5000) (by omega)
  have kc0 := (hD7.vec).2.2.1 0 (by omega)
  have kf0 := (hD7.vec).2.2.2 0 (by omega)
  have kc1 := (hD7.vec).2.2.1 1 (by omega)
  have kf1 := (hD7.vec).2.2.2 1 (by omega)
  go_upto_region 9 with (go_at_call 55; refine (one_s (-20000001) 20000001 w0.heap.size (4200) _ _ _ _ _ (by exact hD.rs) (by omega) (by repeat (first | exact AllBd.nil | refine AllBd.cons (by omega) (by omega) ?_)) (by rfl) (by omega) (by omega)).mono ?_; rintro e w8 ⟨v8, rfl, va8, vb8, hr8⟩; have hD8 := (hD.call hr8).mono (p1 := 5000) (by omega); have mc0 := (hD8.vec).2.2.1 0 (by omega); have mf0 := (hD8.vec).2.2.2 0 (by omega); have mc1 := (hD8.vec).2.2.1 1 (by omega); have mf1 := (hD8.vec).2.2.2 1 (by omega))
  · clear kc0 kf0 kc1 kf1
    clear mc0 mf0 mc1 mf1
    have hE := (hD8.set 0 (by omega) v8 ⟨by omega, by omega⟩)
    generalize (w8.setCell ⟨pb, 0, none⟩ (.int .i64 v8)) = wx at hE ⊢
    obtain ⟨Vx, Px, hE⟩ : ∃ Vx Px, DP w wx w0.heap.size 5000 ab pb Vx Px := ⟨_, _, hE⟩
    clear hD hD7 hD8
    have h0 := hE
    have ec0 := (hE.bod).2.2.1 0 (by omega)
    have ef0 := (hE.bod).2.2.2 0 (by omega)
    have ec1 := (hE.bod).2.2.1 1 (by omega)
    have ef1 := (hE.bod).2.2.2 1 (by omega)
    have ec2 := (hE.bod).2.2.1 2 (by omega)
    have ef2 := (hE.bod).2.2.2 2 (by omega)
    have ec3 := (hE.bod).2.2.1 3 (by omega)
    have ef3 := (hE.bod).2.2.2 3 (by omega)
    have ec4 := (hE.bod).2.2.1 4 (by omega)
    have ef4 := (hE.bod).2.2.2 4 (by omega)
    have ec5 := (hE.bod).2.2.1 5 (by omega)
    have ef5 := (hE.bod).2.2.2 5 (by omega)
    have ec6 := (hE.bod).2.2.1 6 (by omega)
    have ef6 := (hE.bod).2.2.2 6 (by omega)
    have ec7 := (hE.bod).2.2.1 7 (by omega)
    have ef7 := (hE.bod).2.2.2 7 (by omega)
    have ec8 := (hE.bod).2.2.1 8 (by omega)
    have ef8 := (hE.bod).2.2.2 8 (by omega)
    have ec9 := (hE.bod).2.2.1 9 (by omega)
    have ef9 := (hE.bod).2.2.2 9 (by omega)
    have ec10 := (hE.bod).2.2.1 10 (by omega)
    have ef10 := (hE.bod).2.2.2 10 (by omega)
    have ec11 := (hE.bod).2.2.1 11 (by omega)
    have ef11 := (hE.bod).2.2.2 11 (by omega)
    have rc0 := (hE.r1).2.2.1 0 (by omega)
    have rf0 := (hE.r1).2.2.2 0 (by omega)
    have rc1 := (hE.r1).2.2.1 1 (by omega)
    have rf1 := (hE.r1).2.2.2 1 (by omega)
    have rc2 := (hE.r1).2.2.1 2 (by omega)
    have rf2 := (hE.r1).2.2.2 2 (by omega)
    have rc3 := (hE.r1).2.2.1 3 (by omega)
    have rf3 := (hE.r1).2.2.2 3 (by omega)
    have rc4 := (hE.r1).2.2.1 4 (by omega)
    have rf4 := (hE.r1).2.2.2 4 (by omega)
    have rc5 := (hE.r1).2.2.1 5 (by omega)
    have rf5 := (hE.r1).2.2.2 5 (by omega)
    have rc6 := (hE.r1).2.2.1 6 (by omega)
    have rf6 := (hE.r1).2.2.2 6 (by omega)
    have rc7 := (hE.r1).2.2.1 7 (by omega)
    have rf7 := (hE.r1).2.2.2 7 (by omega)
    have rc8 := (hE.r1).2.2.1 8 (by omega)
    have rf8 := (hE.r1).2.2.2 8 (by omega)
    have rc9 := (hE.r1).2.2.1 9 (by omega)
    have rf9 := (hE.r1).2.2.2 9 (by omega)
    have rc10 := (hE.r1).2.2.1 10 (by omega)
    have rf10 := (hE.r1).2.2.2 10 (by omega)
    have rc11 := (hE.r1).2.2.1 11 (by omega)
    have rf11 := (hE.r1).2.2.2 11 (by omega)
    have pc0 := (hE.vec).2.2.1 0 (by omega)
    have pf0 := (hE.vec).2.2.2 0 (by omega)
    have pc1 := (hE.vec).2.2.1 1 (by omega)
    have pf1 := (hE.vec).2.2.2 1 (by omega)
    have qc0 := (hE.r2).2.2.1 0 (by omega)
    have qf0 := (hE.r2).2.2.2 0 (by omega)
    have qc1 := (hE.r2).2.2.1 1 (by omega)
    have qf1 := (hE.r2).2.2.2 1 (by omega)
    have l1 := hE.l1
    have l2 := hE.l2
    have l3 := hE.l3
    have n1 : (w.heap.size = ab) = False := eq_false (by omega)
    have n2 : (w.heap.size = pb) = False := eq_false (by omega)
    have n3 : (w.heap.size + 1 = ab) = False := eq_false (by omega)
    have n4 : (w.heap.size + 1 = pb) = False := eq_false (by omega)
    have n5 : (ab = w.heap.size) = False := eq_false (by omega)
    have n6 : (pb = w.heap.size) = False := eq_false (by omega)
    have n7 : (ab = w.heap.size + 1) = False := eq_false (by omega)
    have n8 : (pb = w.heap.size + 1) = False := eq_false (by omega)
    refine wp_region_held_drew (S := fun w' => w'.cell? ⟨ab, 0, none⟩ = some (.int .i64 (Vx 0)) ∧ w'.cell? ⟨ab, 1, none⟩ = some (.int .i64 (Vx 1)) ∧ w'.cell? ⟨ab, 2, none⟩ = some (.int .i64 (Vx 2)) ∧ w'.cell? ⟨ab, 3, none⟩ = some (.int .i64 (Vx 3)) ∧ w'.cell? ⟨ab, 4, none⟩ = some (.int .i64 (Vx 4)) ∧ w'.cell? ⟨ab, 5, none⟩ = some (.int .i64 (Vx 5)) ∧ w'.cell? ⟨ab, 6, none⟩ = some (.int .i64 (Vx 6)) ∧ w'.cell? ⟨ab, 7, none⟩ = some (.int .i64 (Vx 7)) ∧ w'.cell? ⟨ab, 8, none⟩ = some (.int .i64 (Vx 8)) ∧ w'.cell? ⟨ab, 9, none⟩ = some (.int .i64 (Vx 9)) ∧ w'.cell? ⟨ab, 10, none⟩ = some (.int .i64 (Vx 10)) ∧ w'.cell? ⟨ab, 11, none⟩ = some (.int .i64 (Vx 11)) ∧ w'.cell? ⟨pb, 0, none⟩ = some (.int .i64 (Px 0)) ∧ w'.cell? ⟨pb, 1, none⟩ = some (.int .i64 (Px 1))) (by kernel_rfl) ?_ (fun hHeld => ?_)
    · (try dsimp only)
      (first | (go_simp; done) | (go_keep; done))
    (refine wpAnyH_take (i := 0) (oi := { dst := some 27, op := Go.Op.load 28 (Go.Operand.tmp 5), type := 28, pos := "l11_draw.go:529", after := #[], guard := none }) (v := ?_) rfl (by kernel_rfl) (by kernel_rfl) (by kernel_rfl) (fun _ _ _ h => h) (Or.inl ⟨by rfl, ?_⟩) hHeld ?_; rotate_left; (focus ((intro w hSw; (try dsimp only at hSw); go_simp); (try with_reducible rfl); done)); (try simp only [Act.put, List.setIfInBounds_toArray, List.set_cons_zero, List.set_cons_succ]))
    (refine wpAnyH_take (i := 1) (oi := { dst := some 28, op := Go.Op.load 26 (Go.Operand.tmp 6), type := 26, pos := "l11_draw.go:529", after := #[{ on := 2, ground := Go.Ground.gcOnly Go.Departure.lateStores }], guard := none }) (v := ?_) rfl (by kernel_rfl) (by kernel_rfl) (by kernel_rfl) (fun _ _ _ h => h) (Or.inl ⟨by rfl, ?_⟩) hHeld ?_; rotate_left; (focus ((intro w hSw; (try dsimp only at hSw); go_simp); (try with_reducible rfl); done)); (try simp only [Act.put, List.setIfInBounds_toArray, List.set_cons_zero, List.set_cons_succ]))
    (refine wpAnyH_ready (rs := [2]) (by kernel_rfl) (by simp) ?_; refine AllReadyH.cons (o := { dst := none, op := Go.Op.store 28 (Go.Operand.tmp 2) (Go.Operand.tmp 27), type := 0, pos := "l11_draw.go:529", after := #[{ on := 0, ground := Go.Ground.data }, { on := 0, ground := Go.Ground.phase }, { on := 1, ground := Go.Ground.textOnly Go.Departure.lateStores }], guard := none }) rfl (fun K hK => ?_) AllReadyH.nil; go_simp; refine hK.out _ _ ?_ (fun hHeld => ?_); (focus ((try dsimp only); (first | (go_simp; done) | (go_keep; done)))); clear hK K; (try simp only [Act.put, List.setIfInBounds_toArray, List.set_cons_zero, List.set_cons_succ]))
    (refine wpAnyH_ready (rs := [3]) (by kernel_rfl) (by simp) ?_; refine AllReadyH.cons (o := { dst := none, op := Go.Op.store 26 (Go.Operand.tmp 3) (Go.Operand.tmp 28), type := 0, pos := "l11_draw.go:529", after := #[{ on := 1, ground := Go.Ground.data }, { on := 2, ground := Go.Ground.chain }, { on := 0, ground := Go.Ground.phase }, { on := 1, ground := Go.Ground.phase }, { on := 2, ground := Go.Ground.phase }], guard := none }) rfl (fun K hK => ?_) AllReadyH.nil; go_simp; refine hK.out _ _ ?_ (fun hHeld => ?_); (focus ((try dsimp only); (first | (go_simp; done) | (go_keep; done)))); clear hK K; (try simp only [Act.put, List.setIfInBounds_toArray, List.set_cons_zero, List.set_cons_succ]))
    refine wpAnyH_done (by kernel_rfl) ?_ _
    go_wp2_with fail
    refine bodyPost_ret (v := .tuple #[bodyW Vx, vv (Px 0) (Px 1)]) (by simp [results, Try.results23, go_sem, *]) rfl ⟨Vx, Px 0, Px 1, rfl, hE.bf, hE.pf 0 (by omega), hE.pf 1 (by omega), ?_⟩
    exact ((((((((((((((hE.bel.setCell (by simp) _).setCell (by simp) _).setCell (by simp) _).setCell (by simp) _).setCell (by simp) _).setCell (by simp) _).setCell (by simp) _).setCell (by simp) _).setCell (by simp) _).setCell (by simp) _).setCell (by simp) _).setCell (by simp) _).setCell (by simp) _).setCell (by simp) _).drew
  · clear kc0 kf0 kc1 kf1
    clear mc0 mf0 mc1 mf1
    have hE := (hD8.set 1 (by omega) v8 ⟨by omega, by omega⟩)
    generalize (w8.setCell ⟨pb, 1, none⟩ (.int .i64 v8)) = wx at hE ⊢
    obtain ⟨Vx, Px, hE⟩ : ∃ Vx Px, DP w wx w0.heap.size 5000 ab pb Vx Px := ⟨_, _, hE⟩
    clear hD hD7 hD8
    have h0 := hE
    have ec0 := (hE.bod).2.2.1 0 (by omega)
    have ef0 := (hE.bod).2.2.2 0 (by omega)
    have ec1 := (hE.bod).2.2.1 1 (by omega)
    have ef1 := (hE.bod).2.2.2 1 (by omega)
    have ec2 := (hE.bod).2.2.1 2 (by omega)
    have ef2 := (hE.bod).2.2.2 2 (by omega)
    have ec3 := (hE.bod).2.2.1 3 (by omega)
    have ef3 := (hE.bod).2.2.2 3 (by omega)
    have ec4 := (hE.bod).2.2.1 4 (by omega)
    have ef4 := (hE.bod).2.2.2 4 (by omega)
    have ec5 := (hE.bod).2.2.1 5 (by omega)
    have ef5 := (hE.bod).2.2.2 5 (by omega)
    have ec6 := (hE.bod).2.2.1 6 (by omega)
    have ef6 := (hE.bod).2.2.2 6 (by omega)
    have ec7 := (hE.bod).2.2.1 7 (by omega)
    have ef7 := (hE.bod).2.2.2 7 (by omega)
    have ec8 := (hE.bod).2.2.1 8 (by omega)
    have ef8 := (hE.bod).2.2.2 8 (by omega)
    have ec9 := (hE.bod).2.2.1 9 (by omega)
    have ef9 := (hE.bod).2.2.2 9 (by omega)
    have ec10 := (hE.bod).2.2.1 10 (by omega)
    have ef10 := (hE.bod).2.2.2 10 (by omega)
    have ec11 := (hE.bod).2.2.1 11 (by omega)
    have ef11 := (hE.bod).2.2.2 11 (by omega)
    have rc0 := (hE.r1).2.2.1 0 (by omega)
    have rf0 := (hE.r1).2.2.2 0 (by omega)
    have rc1 := (hE.r1).2.2.1 1 (by omega)
    have rf1 := (hE.r1).2.2.2 1 (by omega)
    have rc2 := (hE.r1).2.2.1 2 (by omega)
    have rf2 := (hE.r1).2.2.2 2 (by omega)
    have rc3 := (hE.r1).2.2.1 3 (by omega)
    have rf3 := (hE.r1).2.2.2 3 (by omega)
    have rc4 := (hE.r1).2.2.1 4 (by omega)
    have rf4 := (hE.r1).2.2.2 4 (by omega)
    have rc5 := (hE.r1).2.2.1 5 (by omega)
    have rf5 := (hE.r1).2.2.2 5 (by omega)
    have rc6 := (hE.r1).2.2.1 6 (by omega)
    have rf6 := (hE.r1).2.2.2 6 (by omega)
    have rc7 := (hE.r1).2.2.1 7 (by omega)
    have rf7 := (hE.r1).2.2.2 7 (by omega)
    have rc8 := (hE.r1).2.2.1 8 (by omega)
    have rf8 := (hE.r1).2.2.2 8 (by omega)
    have rc9 := (hE.r1).2.2.1 9 (by omega)
    have rf9 := (hE.r1).2.2.2 9 (by omega)
    have rc10 := (hE.r1).2.2.1 10 (by omega)
    have rf10 := (hE.r1).2.2.2 10 (by omega)
    have rc11 := (hE.r1).2.2.1 11 (by omega)
    have rf11 := (hE.r1).2.2.2 11 (by omega)
    have pc0 := (hE.vec).2.2.1 0 (by omega)
    have pf0 := (hE.vec).2.2.2 0 (by omega)
    have pc1 := (hE.vec).2.2.1 1 (by omega)
    have pf1 := (hE.vec).2.2.2 1 (by omega)
    have qc0 := (hE.r2).2.2.1 0 (by omega)
    have qf0 := (hE.r2).2.2.2 0 (by omega)
    have qc1 := (hE.r2).2.2.1 1 (by omega)
    have qf1 := (hE.r2).2.2.2 1 (by omega)
    have l1 := hE.l1
    have l2 := hE.l2
    have l3 := hE.l3
    have n1 : (w.heap.size = ab) = False := eq_false (by omega)
    have n2 : (w.heap.size = pb) = False := eq_false (by omega)
    have n3 : (w.heap.size + 1 = ab) = False := eq_false (by omega)
    have n4 : (w.heap.size + 1 = pb) = False := eq_false (by omega)
    have n5 : (ab = w.heap.size) = False := eq_false (by omega)
    have n6 : (pb = w.heap.size) = False := eq_false (by omega)
    have n7 : (ab = w.heap.size + 1) = False := eq_false (by omega)
    have n8 : (pb = w.heap.size + 1) = False := eq_false (by omega)
    refine wp_region_held_drew (S := fun w' => w'.cell? ⟨ab, 0, none⟩ = some (.int .i64 (Vx 0)) ∧ w'.cell? ⟨ab, 1, none⟩ = some (.int .i64 (Vx 1)) ∧ w'.cell? ⟨ab, 2, none⟩ = some (.int .i64 (Vx 2)) ∧ w'.cell? ⟨ab, 3, none⟩ = some (.int .i64 (Vx 3)) ∧ w'.cell? ⟨ab, 4, none⟩ = some (.int .i64 (Vx 4)) ∧ w'.cell? ⟨ab, 5, none⟩ = some (.int .i64 (Vx 5)) ∧ w'.cell? ⟨ab, 6, none⟩ = some (.int .i64 (Vx 6)) ∧ w'.cell? ⟨ab, 7, none⟩ = some (.int .i64 (Vx 7)) ∧ w'.cell? ⟨ab, 8, none⟩ = some (.int .i64 (Vx 8)) ∧ w'.cell? ⟨ab, 9, none⟩ = some (.int .i64 (Vx 9)) ∧ w'.cell? ⟨ab, 10, none⟩ = some (.int .i64 (Vx 10)) ∧ w'.cell? ⟨ab, 11, none⟩ = some (.int .i64 (Vx 11)) ∧ w'.cell? ⟨pb, 0, none⟩ = some (.int .i64 (Px 0)) ∧ w'.cell? ⟨pb, 1, none⟩ = some (.int .i64 (Px 1))) (by kernel_rfl) ?_ (fun hHeld => ?_)
    · (try dsimp only)
      (first | (go_simp; done) | (go_keep; done))
    (refine wpAnyH_take (i := 0) (oi := { dst := some 27, op := Go.Op.load 28 (Go.Operand.tmp 5), type := 28, pos := "l11_draw.go:529", after := #[], guard := none }) (v := ?_) rfl (by kernel_rfl) (by kernel_rfl) (by kernel_rfl) (fun _ _ _ h => h) (Or.inl ⟨by rfl, ?_⟩) hHeld ?_; rotate_left; (focus ((intro w hSw; (try dsimp only at hSw); go_simp); (try with_reducible rfl); done)); (try simp only [Act.put, List.setIfInBounds_toArray, List.set_cons_zero, List.set_cons_succ]))
    (refine wpAnyH_take (i := 1) (oi := { dst := some 28, op := Go.Op.load 26 (Go.Operand.tmp 6), type := 26, pos := "l11_draw.go:529", after := #[{ on := 2, ground := Go.Ground.gcOnly Go.Departure.lateStores }], guard := none }) (v := ?_) rfl (by kernel_rfl) (by kernel_rfl) (by kernel_rfl) (fun _ _ _ h => h) (Or.inl ⟨by rfl, ?_⟩) hHeld ?_; rotate_left; (focus ((intro w hSw; (try dsimp only at hSw); go_simp); (try with_reducible rfl); done)); (try simp only [Act.put, List.setIfInBounds_toArray, List.set_cons_zero, List.set_cons_succ]))
    (refine wpAnyH_ready (rs := [2]) (by kernel_rfl) (by simp) ?_; refine AllReadyH.cons (o := { dst := none, op := Go.Op.store 28 (Go.Operand.tmp 2) (Go.Operand.tmp 27), type := 0, pos := "l11_draw.go:529", after := #[{ on := 0, ground := Go.Ground.data }, { on := 0, ground := Go.Ground.phase }, { on := 1, ground := Go.Ground.textOnly Go.Departure.lateStores }], guard := none }) rfl (fun K hK => ?_) AllReadyH.nil; go_simp; refine hK.out _ _ ?_ (fun hHeld => ?_); (focus ((try dsimp only); (first | (go_simp; done) | (go_keep; done)))); clear hK K; (try simp only [Act.put, List.setIfInBounds_toArray, List.set_cons_zero, List.set_cons_succ]))
    (refine wpAnyH_ready (rs := [3]) (by kernel_rfl) (by simp) ?_; refine AllReadyH.cons (o := { dst := none, op := Go.Op.store 26 (Go.Operand.tmp 3) (Go.Operand.tmp 28), type := 0, pos := "l11_draw.go:529", after := #[{ on := 1, ground := Go.Ground.data }, { on := 2, ground := Go.Ground.chain }, { on := 0, ground := Go.Ground.phase }, { on := 1, ground := Go.Ground.phase }, { on := 2, ground := Go.Ground.phase }], guard := none }) rfl (fun K hK => ?_) AllReadyH.nil; go_simp; refine hK.out _ _ ?_ (fun hHeld => ?_); (focus ((try dsimp only); (first | (go_simp; done) | (go_keep; done)))); clear hK K; (try simp only [Act.put, List.setIfInBounds_toArray, List.set_cons_zero, List.set_cons_succ]))
    refine wpAnyH_done (by kernel_rfl) ?_ _
    go_wp2_with fail
    refine bodyPost_ret (v := .tuple #[bodyW Vx, vv (Px 0) (Px 1)]) (by simp [results, Try.results23, go_sem, *]) rfl ⟨Vx, Px 0, Px 1, rfl, hE.bf, hE.pf 0 (by omega), hE.pf 1 (by omega), ?_⟩
    exact ((((((((((((((hE.bel.setCell (by simp) _).setCell (by simp) _).setCell (by simp) _).setCell (by simp) _).setCell (by simp) _).setCell (by simp) _).setCell (by simp) _).setCell (by simp) _).setCell (by simp) _).setCell (by simp) _).setCell (by simp) _).setCell (by simp) _).setCell (by simp) _).setCell (by simp) _).drew
  · clear kc0 kf0 kc1 kf1
    have hE := hD7
    obtain ⟨Vx, Px, hE⟩ : ∃ Vx Px, DP w wc w0.heap.size 5000 ab pb Vx Px := ⟨_, _, hE⟩
    clear hD hD7
    have h0 := hE
    have ec0 := (hE.bod).2.2.1 0 (by omega)
    have ef0 := (hE.bod).2.2.2 0 (by omega)
    have ec1 := (hE.bod).2.2.1 1 (by omega)
    have ef1 := (hE.bod).2.2.2 1 (by omega)
    have ec2 := (hE.bod).2.2.1 2 (by omega)
    have ef2 := (hE.bod).2.2.2 2 (by omega)
    have ec3 := (hE.bod).2.2.1 3 (by omega)
    have ef3 := (hE.bod).2.2.2 3 (by omega)
    have ec4 := (hE.bod).2.2.1 4 (by omega)
    have ef4 := (hE.bod).2.2.2 4 (by omega)
    have ec5 := (hE.bod).2.2.1 5 (by omega)
    have ef5 := (hE.bod).2.2.2 5 (by omega)
    have ec6 := (hE.bod).2.2.1 6 (by omega)
    have ef6 := (hE.bod).2.2.2 6 (by omega)
    have ec7 := (hE.bod).2.2.1 7 (by omega)
    have ef7 := (hE.bod).2.2.2 7 (by omega)
    have ec8 := (hE.bod).2.2.1 8 (by omega)
    have ef8 := (hE.bod).2.2.2 8 (by omega)
    have ec9 := (hE.bod).2.2.1 9 (by omega)
    have ef9 := (hE.bod).2.2.2 9 (by omega)
    have ec10 := (hE.bod).2.2.1 10 (by omega)
    have ef10 := (hE.bod).2.2.2 10 (by omega)
    have ec11 := (hE.bod).2.2.1 11 (by omega)
    have ef11 := (hE.bod).2.2.2 11 (by omega)
    have rc0 := (hE.r1).2.2.1 0 (by omega)
    have rf0 := (hE.r1).2.2.2 0 (by omega)
    have rc1 := (hE.r1).2.2.1 1 (by omega)
    have rf1 := (hE.r1).2.2.2 1 (by omega)
    have rc2 := (hE.r1).2.2.1 2 (by omega)
    have rf2 := (hE.r1).2.2.2 2 (by omega)
    have rc3 := (hE.r1).2.2.1 3 (by omega)
    have rf3 := (hE.r1).2.2.2 3 (by omega)
    have rc4 := (hE.r1).2.2.1 4 (by omega)
    have rf4 := (hE.r1).2.2.2 4 (by omega)
    have rc5 := (hE.r1).2.2.1 5 (by omega)
    have rf5 := (hE.r1).2.2.2 5 (by omega)
    have rc6 := (hE.r1).2.2.1 6 (by omega)
    have rf6 := (hE.r1).2.2.2 6 (by omega)
    have rc7 := (hE.r1).2.2.1 7 (by omega)
    have rf7 := (hE.r1).2.2.2 7 (by omega)
    have rc8 := (hE.r1).2.2.1 8 (by omega)
    have rf8 := (hE.r1).2.2.2 8 (by omega)
    have rc9 := (hE.r1).2.2.1 9 (by omega)
    have rf9 := (hE.r1).2.2.2 9 (by omega)
    have rc10 := (hE.r1).2.2.1 10 (by omega)
    have rf10 := (hE.r1).2.2.2 10 (by omega)
    have rc11 := (hE.r1).2.2.1 11 (by omega)
    have rf11 := (hE.r1).2.2.2 11 (by omega)
    have pc0 := (hE.vec).2.2.1 0 (by omega)
    have pf0 := (hE.vec).2.2.2 0 (by omega)
    have pc1 := (hE.vec).2.2.1 1 (by omega)
    have pf1 := (hE.vec).2.2.2 1 (by omega)
    have qc0 := (hE.r2).2.2.1 0 (by omega)
    have qf0 := (hE.r2).2.2.2 0 (by omega)
    have qc1 := (hE.r2).2.2.1 1 (by omega)
    have qf1 := (hE.r2).2.2.2 1 (by omega)
    have l1 := hE.l1
    have l2 := hE.l2
    have l3 := hE.l3
    have n1 : (w.heap.size = ab) = False := eq_false (by omega)
    have n2 : (w.heap.size = pb) = False := eq_false (by omega)
    have n3 : (w.heap.size + 1 = ab) = False := eq_false (by omega)
    have n4 : (w.heap.size + 1 = pb) = False := eq_false (by omega)
    have n5 : (ab = w.heap.size) = False := eq_false (by omega)
    have n6 : (pb = w.heap.size) = False := eq_false (by omega)
    have n7 : (ab = w.heap.size + 1) = False := eq_false (by omega)
    have n8 : (pb = w.heap.size + 1) = False := eq_false (by omega)
    refine wp_region_held_drew (S := fun w' => w'.cell? ⟨ab, 0, none⟩ = some (.int .i64 (Vx 0)) ∧ w'.cell? ⟨ab, 1, none⟩ = some (.int .i64 (Vx 1)) ∧ w'.cell? ⟨ab, 2, none⟩ = some (.int .i64 (Vx 2)) ∧ w'.cell? ⟨ab, 3, none⟩ = some (.int .i64 (Vx 3)) ∧ w'.cell? ⟨ab, 4, none⟩ = some (.int .i64 (Vx 4)) ∧ w'.cell? ⟨ab, 5, none⟩ = some (.int .i64 (Vx 5)) ∧ w'.cell? ⟨ab, 6, none⟩ = some (.int .i64 (Vx 6)) ∧ w'.cell? ⟨ab, 7, none⟩ = some (.int .i64 (Vx 7)) ∧ w'.cell? ⟨ab, 8, none⟩ = some (.int .i64 (Vx 8)) ∧ w'.cell? ⟨ab, 9, none⟩ = some (.int .i64 (Vx 9)) ∧ w'.cell? ⟨ab, 10, none⟩ = some (.int .i64 (Vx 10)) ∧ w'.cell? ⟨ab, 11, none⟩ = some (.int .i64 (Vx 11)) ∧ w'.cell? ⟨pb, 0, none⟩ = some (.int .i64 (Px 0)) ∧ w'.cell? ⟨pb, 1, none⟩ = some (.int .i64 (Px 1))) (by kernel_rfl) ?_ (fun hHeld => ?_)
    · (try dsimp only)
      (first | (go_simp; done) | (go_keep; done))
    (refine wpAnyH_take (i := 0) (oi := { dst := some 27, op := Go.Op.load 28 (Go.Operand.tmp 5), type := 28, pos := "l11_draw.go:529", after := #[], guard := none }) (v := ?_) rfl (by kernel_rfl) (by kernel_rfl) (by kernel_rfl) (fun _ _ _ h => h) (Or.inl ⟨by rfl, ?_⟩) hHeld ?_; rotate_left; (focus ((intro w hSw; (try dsimp only at hSw); go_simp); (try with_reducible rfl); done)); (try simp only [Act.put, List.setIfInBounds_toArray, List.set_cons_zero, List.set_cons_succ]))
    (refine wpAnyH_take (i := 1) (oi := { dst := some 28, op := Go.Op.load 26 (Go.Operand.tmp 6), type := 26, pos := "l11_draw.go:529", after := #[{ on := 2, ground := Go.Ground.gcOnly Go.Departure.lateStores }], guard := none }) (v := ?_) rfl (by kernel_rfl) (by kernel_rfl) (by kernel_rfl) (fun _ _ _ h => h) (Or.inl ⟨by rfl, ?_⟩) hHeld ?_; rotate_left; (focus ((intro w hSw; (try dsimp only at hSw); go_simp); (try with_reducible rfl); done)); (try simp only [Act.put, List.setIfInBounds_toArray, List.set_cons_zero, List.set_cons_succ]))
    (refine wpAnyH_ready (rs := [2]) (by kernel_rfl) (by simp) ?_; refine AllReadyH.cons (o := { dst := none, op := Go.Op.store 28 (Go.Operand.tmp 2) (Go.Operand.tmp 27), type := 0, pos := "l11_draw.go:529", after := #[{ on := 0, ground := Go.Ground.data }, { on := 0, ground := Go.Ground.phase }, { on := 1, ground := Go.Ground.textOnly Go.Departure.lateStores }], guard := none }) rfl (fun K hK => ?_) AllReadyH.nil; go_simp; refine hK.out _ _ ?_ (fun hHeld => ?_); (focus ((try dsimp only); (first | (go_simp; done) | (go_keep; done)))); clear hK K; (try simp only [Act.put, List.setIfInBounds_toArray, List.set_cons_zero, List.set_cons_succ]))
    (refine wpAnyH_ready (rs := [3]) (by kernel_rfl) (by simp) ?_; refine AllReadyH.cons (o := { dst := none, op := Go.Op.store 26 (Go.Operand.tmp 3) (Go.Operand.tmp 28), type := 0, pos := "l11_draw.go:529", after := #[{ on := 1, ground := Go.Ground.data }, { on := 2, ground := Go.Ground.chain }, { on := 0, ground := Go.Ground.phase }, { on := 1, ground := Go.Ground.phase }, { on := 2, ground := Go.Ground.phase }], guard := none }) rfl (fun K hK => ?_) AllReadyH.nil; go_simp; refine hK.out _ _ ?_ (fun hHeld => ?_); (focus ((try dsimp only); (first | (go_simp; done) | (go_keep; done)))); clear hK K; (try simp only [Act.put, List.setIfInBounds_toArray, List.set_cons_zero, List.set_cons_succ]))
    refine wpAnyH_done (by kernel_rfl) ?_ _
    go_wp2_with fail
    refine bodyPost_ret (v := .tuple #[bodyW Vx, vv (Px 0) (Px 1)]) (by simp [results, Try.results23, go_sem, *]) rfl ⟨Vx, Px 0, Px 1, rfl, hE.bf, hE.pf 0 (by omega), hE.pf 1 (by omega), ?_⟩
    exact ((((((((((((((hE.bel.setCell (by simp) _).setCell (by simp) _).setCell (by simp) _).setCell (by simp) _).setCell (by simp) _).setCell (by simp) _).setCell (by simp) _).setCell (by simp) _).setCell (by simp) _).setCell (by simp) _).setCell (by simp) _).setCell (by simp) _).setCell (by simp) _).setCell (by simp) _).drew
end Go.Proofs.Ytflgmpppnobogaa
